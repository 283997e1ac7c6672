/-
  What the program and the reference answer alike: Make, Free, Find (for StoreSays).
-/
import Derived.Test.YtjlapfgghljidaaURk
import Derived.Test.YtjlapfgghljidaaUXbXc
import Derived.Test.YtjlapfgghljidaaUWbWdSrWfTm
import Derived.Test.YtjlapfgghljidaaUSaSbScBa
import Derived.Laws.CopyOwn
import Derived.Laws.EntriesVeiled
import Derived.Test.YtjlapfgghljidaaUTdTeSo
namespace Go.Proofs.Ytjlapfgghljidaa
open Go.RowKit

theorem hang_loose {S : List Nd} (wf : WF S) {k : Nat} (hk : k < S.length) : (∀ i, i < S.length → hangB S k i = false) ↔ looseB S k := by
  constructor
  · intro h
    have hs : ∀ i, i < S.length → rightUnder (nd S i) ≠ (k : Int) := fun i hi e => by
      have := h i hi
      unfold hangB at this
      simp [e] at this
    refine ⟨?_, ?_, ?_⟩
    · have := h k hk
      unfold hangB at this
      simp at this
      exact this.1
    · cases hks : (nd S k).ks with
      | nil => rfl
      | cons x l =>
        exfalso
        obtain ⟨j, _, h2, _, _, h3⟩ := wf.kid hk (x := x) (by rw [hks]; simp)
        exact hs j h2 h3
    · rw [hostB_false]
      intro i hi e
      refine hs i hi ?_
      unfold rightUnder
      rw [if_neg (by omega)]
      exact e
  · intro ⟨h1, h2, h3⟩ i hi
    unfold hangB
    have hr : rightUnder (nd S i) ≠ (k : Int) := fun e => by
      unfold rightUnder at e
      split at e
      · have := (wf.in_kids hi e).2
        rw [h2] at this
        cases this
      · exact hostB_false.1 h3 i hi e
    by_cases e : i = k
    · subst e
      first | (simp [h1]; done) | (simp [h1]; omega)
    · simp [e, hr]

theorem holds_parts {S : List Nd} {p u : Int} (h : holdsE S p u = 0) : ∃ k : Nat, p = k ∧ k < S.length ∧ (nd S k).u = true ∧ (nd S k).n = u := by
  unfold holdsE at h
  split at h
  · next hp =>
    have hp2 : 0 ≤ p ∧ p ≤ (S.length : Int) - 1 := of_decide_eq_true hp
    refine ⟨p.toNat, by omega, by omega, ?_⟩
    unfold holdX at h
    split at h
    · split at h
      · next hu =>
        split at h
        · next hn => exact ⟨hu, hn⟩
        · omega
      · omega
    · omega
  · omega

theorem tcheck_find (S : List Nd) (p u : Int) : tcheckE S [(p, u)] = findE S p u := by
  unfold tcheckE findE handsE handsE
  by_cases h : holdsE S p u = 0
  · simp [h]
  · simp [h]

/-- What a call that answers a store, a hand and an error answers. -/
abbrev StoHand (f : Nat) (S T : List Nd) (more : Array Value) (p u E : Int) : Prop := ∀ (a : Option Addr) (c : Nat) W, NdsAt W a S →
  Calls Try.prog f (#[.agg #[.slice a S.length c]] ++ more) W fun e w' => ∃ a' c', e = .returned (.tuple #[.agg #[.slice a' T.length c'], .agg #[.int .i64 p, .int .i64 u], .int .i64 E]) ∧ Below W.heap.size W w' ∧ NdsAt w' a' T
abbrev StoErr (f : Nat) (S T : List Nd) (more : Array Value) (E : Int) : Prop := ∀ (a : Option Addr) (c : Nat) W, NdsAt W a S →
  Calls Try.prog f (#[.agg #[.slice a S.length c]] ++ more) W fun e w' => ∃ a' c', e = .returned (.tuple #[.agg #[.slice a' T.length c'], .int .i64 E]) ∧ Below W.heap.size W w' ∧ NdsAt w' a' T

theorem nds_nil (W : World) : NdsAt W none [] := fun _ hi => absurd hi (Nat.not_lt_zero _)

theorem make_both (S : List Nd) (t : Int) (hN : S.length ≤ 9223372036854775807) (hB : Big S) (hC : ∀ a c, RChk a c S) :
    ∃ T p u E, T.length ≤ 9223372036854775807 ∧ Big T ∧ StoHand 11 S T #[.int .i64 t] p u E ∧ StoHand 14 S T #[.int .i64 t] p u E := by
  by_cases hE : makeE S t = 0
  · have hE' := hE
    unfold makeE at hE
    by_cases hc : checkE S = 0
    · rw [if_pos hc] at hE
      by_cases ht : 0 ≤ t ∧ t ≤ 99
      · rw [if_pos ht] at hE
        have hf : S.any freeB = true := by
          cases hq : S.any freeB with
          | true => rfl
          | false => rw [hq, if_neg (by simp)] at hE; omega
        obtain ⟨k, hk, hk1, hk2⟩ := first_free hf
        have wf := (wf_iff S).1 hc
        have wf2 := wf.make hk hk1 ht.1 ht.2
        have hks : ∀ i, i < S.length → (nd S i).ks.length ≤ 1000 := fun i hi => by have := wf.kids_small hi; omega
        refine ⟨S.set k (madeNd (nd S k) t), k, (nd S k).n + 1, 0, by rw [List.length_set]; exact hN, wf2.big, fun a c W hW => ?_, fun a c W hW => ?_⟩
        · refine (make_ok a c S t W wf.small hks hW hc ht.1 ht.2 k hk hk1 (wf.uses hk).1 hk2).mono (fun e w' ⟨g, e1, hb, _, hn⟩ => ⟨some ⟨g, 0, none⟩, S.length, ?_, hb, hn w' (fun _ _ => rfl)⟩)
          rw [e1, List.length_set]
        · refine (rMade_ok a c S t W (hC a c) hW wf.small hks hc ht.1 ht.2 k hk hk1 (fun i hi => ⟨(wf.uses hi).1, (wf.uses hi).2.1⟩) hk2).mono (fun e w' ⟨a', c', e1, hb, hn⟩ => ⟨a', c', ?_, hb, hn⟩)
          rw [e1, List.length_set]
      · rw [if_neg ht] at hE; omega
    · rw [if_neg hc] at hE; exact absurd hE hc
  · refine ⟨[], 0, 0, makeE S t, by simp, fun i hi => absurd hi (Nat.not_lt_zero _), fun a c W hW => ?_, fun a c W hW => ?_⟩
    · exact (make_err a c S t _ W hN hB hW rfl hE).mono (fun e w' ⟨e1, hb⟩ => ⟨none, 0, e1, hb, nds_nil _⟩)
    · refine (rMade_err a c S t _ W (hC a c) hW (fun hc => ?_) rfl hE).mono (fun e w' ⟨e1, hb⟩ => ⟨none, 0, e1, hb, nds_nil _⟩)
      have wf := (wf_iff S).1 hc
      exact ⟨wf.small, fun i hi => by have := wf.kids_small hi; omega, fun i hi => ⟨(wf.uses hi).1, (wf.uses hi).2.1⟩⟩

set_option maxHeartbeats 1000000 in
theorem rFreed_err (a : Option Addr) (c : Nat) (S : List Nd) (p u E : Int) (w : World) (hN : S.length ≤ 9223372036854775807) (hC : RChk a c S) (hS : NdsAt w a S) (hE : tcheckE S [(p, u)] = E) (hE0 : E ≠ 0) :
    Calls Try.prog 15 #[.agg #[.slice a S.length c], .agg #[.int .i64 p, .int .i64 u]] w fun e w' => e = .returned (.tuple #[.agg #[.slice none 0 0], .int .i64 E]) ∧ Below w.heap.size w w' := by
  have df := fun (W : World) (ha : Option Addr) (hW : NdsAt W a S) (hH : HandsAt W ha [(p, u)]) => rFirst_any a c S ha 1 [(p, u)] W hN hC hW (by simp) hH
  rw [hE] at df
  have DF : Hid _ := df
  have HS : Hid (NdsAt w a S) := hS
  have hz : (E == 0) = false := by simp [hE0]
  have hz2 : (E != 0) = true := by simp [hE0]
  clear hS hC df hE
  generalize S.length = n at *
  go_enter Try.func15, Try.ntmps15
  go_wp2_with (go_at_call 47; refine (DF.out _ _ (HS.out.below ((three_below _ _ _ _).alloc (by simp; omega) _)) (hands_one _ _ _ _ (by go_simp) (by go_simp))).mono ?_; rintro e w1 ⟨rfl, hb1⟩; simp only [World.size_alloc] at hb1; obtain ⟨l0, l1, l2, l3, z0, z1, hsz, hB1⟩ := freed_low hb1)
  refine bodyPost_ret (v := .tuple #[.agg #[.slice none 0 0], .int .i64 E]) (by simp [results, Try.results15, go_sem, l3]) rfl ⟨rfl, ?_⟩
  first | exact hB1.setCell (by simp; omega) _ | exact (hB1.setCell (by simp; omega) _).drew

theorem free_both (S : List Nd) (p u : Int) (hN : S.length ≤ 9223372036854775807) (hB : Big S) (hC : ∀ a c, RChk a c S) :
    ∃ T E, T.length ≤ 9223372036854775807 ∧ Big T ∧ StoErr 13 S T #[.agg #[.int .i64 p, .int .i64 u]] E ∧ StoErr 15 S T #[.agg #[.int .i64 p, .int .i64 u]] E := by
  by_cases hE : findE S p u = 0
  · obtain ⟨hc, hh⟩ := find_parts hE
    obtain ⟨k, hp, hk, hku, hkn⟩ := holds_parts hh
    have wf := (wf_iff S).1 hc
    have hks : ∀ i, i < S.length → (nd S i).ks.length ≤ 1000 := fun i hi => by have := wf.kids_small hi; omega
    subst hp
    by_cases hl : looseB S k
    · have wf2 := wf.free hk hl
      refine ⟨S.set k (freedNd (nd S k)), 0, by rw [List.length_set]; exact hN, wf2.big, fun a c W hW => ?_, fun a c W hW => ?_⟩
      · refine (free_ok a c S k u W wf.small hks hW hk hE hl).mono (fun e w' ⟨g, e1, hb, _, hn⟩ => ⟨some ⟨g, 0, none⟩, S.length, ?_, hb, hn w' (fun _ _ => rfl)⟩)
        rw [e1, List.length_set]
      · refine rFreed_any a c S _ k k u 0 W rfl (hC a c) hW wf.small hks hk (by rw [tcheck_find]; exact hE) (fun _ => ⟨?_, rfl⟩) (fun i hi h => ?_)
        · rw [← hkn]; rfl
        · rw [(hang_loose wf hk).2 hl i hi] at h; cases h
    · refine ⟨[], 6, by simp, fun i hi => absurd hi (Nat.not_lt_zero _), fun a c W hW => ?_, fun a c W hW => ?_⟩
      · exact (free_tree a c S k u W hN hB hW hk hE (by have := hks k hk; omega) hl).mono (fun e w' ⟨e1, hb⟩ => ⟨none, 0, e1, hb, nds_nil _⟩)
      · exact rFreed_any a c S [] k k u 6 W rfl (hC a c) hW wf.small hks hk (by rw [tcheck_find]; exact hE) (fun h => absurd ((hang_loose wf hk).1 h) hl) (fun i hi h => ⟨rfl, rfl⟩)
  · refine ⟨[], findE S p u, by simp, fun i hi => absurd hi (Nat.not_lt_zero _), fun a c W hW => ?_, fun a c W hW => ?_⟩
    · exact (free_err a c S p u _ W hN hB hW rfl hE).mono (fun e w' ⟨e1, hb⟩ => ⟨none, 0, e1, hb, nds_nil _⟩)
    · exact (rFreed_err a c S p u _ W hN (hC a c) hW (tcheck_find S p u) hE).mono (fun e w' ⟨e1, hb⟩ => ⟨none, 0, e1, hb, nds_nil _⟩)

/-- What Find answers. -/
theorem find_all (S : List Nd) (p u : Int) (hN : S.length ≤ 9223372036854775807) (hB : Big S) : ∃ x : Nd, x.ks.length ≤ 9223372036854775807 ∧ (findE S p u = 0 → ∃ k : Nat, p = k ∧ k < S.length ∧ x = nd S k) ∧ (findE S p u ≠ 0 → x = zeroNd) ∧
    ∀ (a : Option Addr) (c : Nat) W, NdsAt W a S → Calls Try.prog 12 #[.agg #[.slice a S.length c], .agg #[.int .i64 p, .int .i64 u]] W fun e w' => ∃ ka kc, e = .returned (.tuple #[.agg #[.bool x.u, .int .i64 x.n, .int .i64 x.t, .int .i64 x.m, .int .i64 x.p, .slice ka x.ks.length kc, .int .i64 x.h, .bool x.c], .int .i64 (findE S p u)]) ∧ Below W.heap.size W w' ∧ IntsAt w' ka x.ks := by
  by_cases hE : findE S p u = 0
  · obtain ⟨hc, hh⟩ := find_parts hE
    obtain ⟨k, hp, hk, hku, hkn⟩ := holds_parts hh
    have wf := (wf_iff S).1 hc
    subst hp
    refine ⟨nd S k, hB k hk, fun _ => ⟨k, rfl, hk, rfl⟩, fun h => absurd hE h, fun a c W hW => ?_⟩
    rw [hE]
    exact (find_ok a c S k u W hN hB hW hk hE (by have := wf.kids_small hk; omega)).mono (fun e w' ⟨g, e1, hb, hi⟩ => ⟨some ⟨g, 0, none⟩, _, e1, hb, hi⟩)
  · refine ⟨zeroNd, by simp [zeroNd], fun h => absurd h hE, fun _ => rfl, fun a c W hW => ?_⟩
    exact (find_err a c S p u _ W hN hB hW rfl hE).mono (fun e w' ⟨e1, hb⟩ => ⟨none, 0, e1, hb, fun i hi => absurd hi (Nat.not_lt_zero _)⟩)

set_option maxHeartbeats 400000 in
theorem new_bad (p : Int) (w : World) (hp : p < 0 ∨ 24 < p) :
    Calls Try.prog 10 #[.int .i64 p] w fun e w' => e = .returned (.tuple #[.agg #[.slice none 0 0], .int .i64 2]) ∧ Below w.heap.size w w' := by
  go_enter Try.func10, Try.ntmps10
  go_wp2_with (go_at_call 38; refine (within_no _ _ _ _ hp).mono ?_; rintro e w' ⟨rfl, rfl⟩)
  first
    | (go_ret; exact ⟨rfl, Below.refl _ _⟩)
    | (go_ret; exact ⟨rfl, (Below.refl _ _).alloc (Nat.le_refl _) _⟩)
    | (refine bodyPost_ret (v := .tuple #[.agg #[.slice none 0 0], .int .i64 2]) (by simp [results, Try.results10, go_sem]) rfl ⟨rfl, ?_⟩; first | exact (Below.refl _ _).alloc (Nat.le_refl _) _ | exact ((Below.refl _ _).alloc (Nat.le_refl _) _).setCell (by simp) _ | exact (((Below.refl _ _).alloc (Nat.le_refl _) _).setCell (by simp) _).drew)
end Go.Proofs.Ytjlapfgghljidaa

namespace Go.Proofs.Ytjlapfgghljidaa
open Go.RowKit

theorem run_copy_wide {P : Program} (w : World) (dT sT ty elem : TypeId) (i : TypeInfo) (g o dLen dCap : Nat) (a : Addr) (sLen sCap n : Nat) (cur : Array Value) (t : TypeId) (cs : List Value)
    (hu : P.underlying dT = some (.slice elem)) (hi : P.info? elem = some i) (hg : w.heap[g]? = some (.cells cur t (0, 0))) (hn : n = Nat.min sLen dLen) (hl : cs.length = n * i.size)
    (hsrc : ∀ j v, cs[j]? = some v → w.cell? (a.add j) = some v) (hfit : o + cs.length ≤ cur.size) (h1 : ∀ v ∈ cs, v.oneCell' = true) :
    (Builtin.copy_ #[dT, sT] ty #[.slice (some ⟨g, o, none⟩) dLen dCap, .slice (some a) sLen sCap]).run P w = .ok (goInt n) (w.setRow g (cur.toList.take o ++ cs ++ cur.toList.drop (o + cs.length)).toArray) := by
  have hf := run_firstCells_some (P := P) w i.size n a sLen sCap cs hl hsrc
  have hst := run_storeCells_at P g o t cs 0 cur w hg (by simpa using hfit) h1
  simp only [Nat.add_zero] at hst
  simp [Builtin.copy_, run_underlying hu, Builtin.lenOf, sizeOf, typeInfo, hi, ← hn, hf, hst]

theorem wpList_copy_wide {P : Program} {w : World} {ops : Array Oper} {rest : List Oper} {o : Oper} {a : Act} {Q : Exit → Act → World → Prop} (hgd : o.guard = none) (d s : Operand) (dT sT : TypeId)
    (ho : o.op = .call { callee := .builtin .copy, args := #[d, s], argTypes := #[dT, sT] }) (elem : TypeId) (i : TypeInfo) (hu : P.underlying dT = some (.slice elem)) (hi : P.info? elem = some i)
    (g off dLen dCap : Nat) (ad : Addr) (sLen sCap n : Nat) (hd : a.eval d = .slice (some ⟨g, off, none⟩) dLen dCap) (hs : a.eval s = .slice (some ad) sLen sCap)
    (cur : List Value) (t : TypeId) (hg : w.heap[g]? = some (.cells cur.toArray t (0, 0))) (cs : List Value) (hn : n = Nat.min sLen dLen) (hl : cs.length = n * i.size)
    (hsrc : ∀ j v, cs[j]? = some v → w.cell? (ad.add j) = some v) (hfit : off + cs.length ≤ cur.length) (h1 : ∀ v ∈ cs, v.oneCell' = true)
    (h : ∀ w', w'.heap[g]? = some (.cells (cur.take off ++ cs ++ cur.drop (off + cs.length)).toArray t (0, 0)) → (∀ B w0, Below B w0 w → B ≤ g → Below B w0 w') → wpList P ops Q rest (a.put o.dst (goInt n)) w') : wpList P ops Q (o :: rest) a w := by
  refine wpList_plain hgd fun K hK => ?_
  have hrun := run_copy_wide (P := P) w dT sT o.type elem i g off dLen dCap ad sLen sCap n cur.toArray t cs hu hi hg hn hl hsrc (by simpa using hfit) h1
  unfold Oper.wp
  simp [execOp, ho, resolve, invoke, builtin, hd, hs, hrun, Result.andThen]
  refine hK _ _ (h _ ?_ (fun B w0 hb hB => below_setRow hb hB _))
  have := setRow_heap w g cur.toArray ((cur.toArray.toList.take off ++ cs ++ cur.toArray.toList.drop (off + cs.length)).toArray) t _ hg
  simpa using this

theorem step_copy_wide {P : Program} {ops : Array Oper} {o : Oper} {a : Act} {w : World} {K : Act → World → Prop} {Q : Exit → Act → World → Prop} {E : Prop} (hgd : o.guard = none) (d s : Operand) (dT sT : TypeId)
    (ho : o.op = .call { callee := .builtin .copy, args := #[d, s], argTypes := #[dT, sT] }) (elem : TypeId) (i : TypeInfo) (hu : P.underlying dT = some (.slice elem)) (hi : P.info? elem = some i)
    (g off dLen dCap : Nat) (ad : Addr) (sLen sCap n : Nat) (hd : a.eval d = .slice (some ⟨g, off, none⟩) dLen dCap) (hs : a.eval s = .slice (some ad) sLen sCap)
    (cur : List Value) (t : TypeId) (hg : w.heap[g]? = some (.cells cur.toArray t (0, 0))) (cs : List Value) (hn : n = Nat.min sLen dLen) (hl : cs.length = n * i.size)
    (hsrc : ∀ j v, cs[j]? = some v → w.cell? (ad.add j) = some v) (hfit : off + cs.length ≤ cur.length) (h1 : ∀ v ∈ cs, v.oneCell' = true)
    (h : ∀ w', w'.heap[g]? = some (.cells (cur.take off ++ cs ++ cur.drop (off + cs.length)).toArray t (0, 0)) → (∀ B w0, Below B w0 w → B ≤ g → Below B w0 w') → K (a.put o.dst (goInt n)) w') :
    if Region.wanted o (yielded ops a.tmps) = true then Oper.wp P o a w K Q else E := by
  have hw : Region.wanted o (yielded ops a.tmps) = true := by simp [Region.wanted, hgd]
  rw [if_pos hw]
  have hrun := run_copy_wide (P := P) w dT sT o.type elem i g off dLen dCap ad sLen sCap n cur.toArray t cs hu hi hg hn hl hsrc (by simpa using hfit) h1
  unfold Oper.wp
  simp [execOp, ho, resolve, invoke, builtin, hd, hs, hrun, Result.andThen]
  refine h _ ?_ (fun B w0 hb hB => below_setRow hb hB _)
  have := setRow_heap w g cur.toArray ((cur.toArray.toList.take off ++ cs ++ cur.toArray.toList.drop (off + cs.length)).toArray) t _ hg
  simpa using this

end Go.Proofs.Ytjlapfgghljidaa

namespace Go.Proofs.Ytjlapfgghljidaa
open Go.RowKit

/-- The first j of a row's nodes are as one that is not in use. -/
def patV : Nat → Value
  | 0 => .bool false
  | 4 => .int .i64 (-1)
  | 5 => .slice none 0 0
  | 6 => .int .i64 (-1)
  | 7 => .bool false
  | _ => .int .i64 0
def Good (X : List Value) (j : Nat) : Prop := ∀ m, m < j * 8 → X[m]? = some (patV (m % 8))

theorem pat_one (m : Nat) : (patV m).oneCell' = true := by
  unfold patV
  split <;> rfl

theorem Good.copy {X : List Value} {j m : Nat} (h : Good X j) (hm : m ≤ j) (hl : (j + m) * 8 ≤ X.length) : Good (X.take (j * 8) ++ X.take (m * 8) ++ X.drop (j * 8 + (X.take (m * 8)).length)) (j + m) := by
  have l1 : (X.take (j * 8)).length = j * 8 := by rw [List.length_take]; omega
  have l2 : (X.take (m * 8)).length = m * 8 := by rw [List.length_take]; omega
  intro i hi
  rw [List.append_assoc]
  by_cases h1 : i < j * 8
  · rw [List.getElem?_append_left (by rw [l1]; exact h1), List.getElem?_take, if_pos h1]
    exact h i h1
  · rw [List.getElem?_append_right (by rw [l1]; omega), l1, List.getElem?_append_left (by rw [l2]; omega), List.getElem?_take, if_pos (by omega), h _ (by omega)]
    congr 2
    omega

theorem Good.one {X Y : List Value} (hY : Good Y 1) (hl : Y.length = 8) : Good (X.take 0 ++ Y ++ X.drop (0 + Y.length)) 1 := by
  intro i hi
  rw [List.append_assoc, List.take_zero, List.nil_append, List.getElem?_append_left (by omega)]
  exact hY i hi

theorem good_nds {w : World} {g n : Nat} {X : List Value} (hg : w.heap[g]? = some (.cells X.toArray 35 (0, 0))) (hG : Good X n) : NdsAt w (some ⟨g, 0, none⟩) (List.replicate n unusedNd) := fun i hi => by
  have hi' : i < n := by simpa using hi
  have e : nd (List.replicate n unusedNd) i = unusedNd := by unfold nd; simp [List.getD, hi']
  refine ⟨g, 0, rfl, ?_⟩
  rw [e, Nat.zero_add]
  have hc : ∀ j, j < 8 → w.cell? ⟨g, i * 8 + j, none⟩ = some (patV j) := fun j hj => by
    have := hG (i * 8 + j) (by omega)
    rw [show (i * 8 + j) % 8 = j by omega] at this
    simp only [World.cell?, hg]
    simpa using this
  exact ⟨hc 0 (by omega), hc 1 (by omega), hc 2 (by omega), hc 3 (by omega), hc 4 (by omega), ⟨none, 0, hc 5 (by omega), fun j hj => absurd hj (Nat.not_lt_zero _)⟩, hc 6 (by omega), hc 7 (by omega)⟩
end Go.Proofs.Ytjlapfgghljidaa

namespace Go.Proofs.Ytjlapfgghljidaa
open Go.RowKit

set_option maxHeartbeats 4000000 in
theorem mul_one (n : Nat) (hn : n ≤ 24) (w : World) :
    Calls Try.prog 57 #[.int .u64 1, .int .u64 n] w fun e w' => e = .returned (.tuple #[.int .u64 0, .int .u64 n]) ∧ w' = w := by
  have h : n = 0 ∨ n = 1 ∨ n = 2 ∨ n = 3 ∨ n = 4 ∨ n = 5 ∨ n = 6 ∨ n = 7 ∨ n = 8 ∨ n = 9 ∨ n = 10 ∨ n = 11 ∨ n = 12 ∨ n = 13 ∨ n = 14 ∨ n = 15 ∨ n = 16 ∨ n = 17 ∨ n = 18 ∨ n = 19 ∨ n = 20 ∨ n = 21 ∨ n = 22 ∨ n = 23 ∨ n = 24 := by omega
  rcases h with rfl | rfl | rfl | rfl | rfl | rfl | rfl | rfl | rfl | rfl | rfl | rfl | rfl | rfl | rfl | rfl | rfl | rfl | rfl | rfl | rfl | rfl | rfl | rfl | rfl
  all_goals
    go_enter Try.func57, Try.ntmps57
    go_wp2
    refine bodyPost_ret ?_ rfl ⟨rfl, rfl⟩
    simp [results, Try.results57, go_sem]
    kernel_rfl

end Go.Proofs.Ytjlapfgghljidaa
