/-
  For SlotOnce, without the program: whatever is shown below a node stands, at some step, under the host of the highest root around it (or under the node itself, if it stands in none).
-/
import Derived.Test.YthlpkdmmkfhleacJLh
import Derived.Test.YthlpkdmmkfhleacJLiLj
import Derived.Test.YthlpkdmmkfhleacProg
import Derived.Maps.OwnOps
import Derived.Maps.Views
import Derived.Test.YthlpkdmmkfhleacJSkSl
import Derived.BigQuiet
import Derived.Test.YthlpkdmmkfhleacJUeZpLb
namespace Go.Proofs.Ythlpkdmmkfhleac
open Go.RowKit

/-- No root at a node or above it. -/
def NoRoot (S : List Nd) (t : Nat) : Prop := ∀ j r, Up S j t r → (nd S r).h = -1

theorem WF.up_path {S : List Nd} (h : WF S) {j k q : Nat} (hk : k < S.length) (hu : Up S j k q) : (q : Int) ∈ pathF S k := by
  obtain ⟨pre, e⟩ := h.path_suffix hk hu
  rw [e]
  exact List.mem_append_right _ (path_head S q)

theorem host_under {S : List Nd} {T p r H i j : Nat} (hT : NoRoot S T) (hi : Up S i p T) (hj : Up S j p r) (hH : H < S.length) (hh : (nd S r).h = H) : ∃ m, Up S m H T := by
  by_cases hij : i ≤ j
  · obtain ⟨y, h1, h2⟩ := Up.split (i := i) (j := j - i) (by rw [show i + (j - i) = j by omega]; exact hj)
    have := Up.det h1 hi
    subst this
    have := hT _ _ h2
    omega
  · obtain ⟨y, h1, h2⟩ := Up.split (i := j + 1) (j := i - (j + 1)) (by rw [show j + 1 + (i - (j + 1)) = i by omega]; exact hi)
    have h3 : Up S (j + 1) p H := hj.trans (WF.up_one hH (by unfold rightUnder; rw [if_neg (by omega)]; exact hh))
    have := Up.det h1 h3
    subst this
    exact ⟨_, h2⟩

theorem ShR.under {S : List Nd} (h : WF S) {g : Nat → List Int} (G : GivOk S g) {k T i : Nat} (hk : k < S.length) (hT : NoRoot S T) (hu : Up S i k T) : ∀ {j z : Nat}, ShR (showF S g) k j z → ∃ m, Up S m z T
  | 0, z, e => by cases e; exact ⟨i, hu⟩
  | j + 1, z, ⟨y, hy, hz⟩ => by
    obtain ⟨m, hm⟩ := ShR.under h G hk hT hu hy
    have y1 := (ShR.facts h G hk hy).1
    obtain ⟨k', q, e, hk', hq, _, _, _, hru, hw⟩ := show_ways h G y1 hz
    have : z = k' := by omega
    subst this
    have z1 : Up S 1 z q := WF.up_one hq hru
    rcases hw with hw | ⟨_, _, r, j2, hr, hrh, hup⟩ | ⟨_, rfl⟩
    · have q1 : Up S 1 q y := WF.up_one y1 (by unfold rightUnder; rw [if_neg (by omega)]; exact hw)
      exact ⟨_, z1.trans (q1.trans hm)⟩
    · obtain ⟨m2, hm2⟩ := host_under hT hm hup hq hrh
      exact ⟨_, z1.trans hm2⟩
    · exact ⟨_, z1.trans hm⟩

/-- The law's own loop: the host of the last root of a line. -/
def lastHost (S : List Nd) (acc : Int) (l : List Int) : Int := l.foldl (fun acc x => if 0 ≤ (nd S x.toNat).h then (nd S x.toNat).h else acc) acc

theorem last_host {S : List Nd} (h : WF S) : ∀ (n : Nat) {k : Nat}, k < S.length → (pathF S k).length ≤ n → ∀ acc : Int, (lastHost S acc (pathF S k) = acc ∧ NoRoot S k) ∨ ∃ t m : Nat, lastHost S acc (pathF S k) = t ∧ Up S m k t ∧ t < S.length ∧ NoRoot S t
  | 0, k, _, hl, _ => by
    have := path_head S k
    have : 0 < (pathF S k).length := List.length_pos_of_mem this
    omega
  | n + 1, k, hk, hl, acc => by
    by_cases hr : ∃ q : Nat, q < S.length ∧ rightUnder (nd S k) = q
    · obtain ⟨q, hq, hr⟩ := hr
      have e := h.path_up hk hq hr
      rw [e] at hl ⊢
      rw [List.length_cons] at hl
      have hs : lastHost S acc ((k : Int) :: pathF S q) = lastHost S (if 0 ≤ (nd S k).h then (nd S k).h else acc) (pathF S q) := by
        unfold lastHost
        rw [List.foldl_cons, Int.toNat_natCast]
      rw [hs]
      rcases last_host h n hq (by omega) (if 0 ≤ (nd S k).h then (nd S k).h else acc) with ⟨e1, e2⟩ | ⟨t, m, e1, e2, e3, e4⟩
      · by_cases hh : 0 ≤ (nd S k).h
        · rw [if_pos hh] at e1 ⊢
          have : (nd S k).h = q := by unfold rightUnder at hr; rw [if_neg (by omega)] at hr; exact hr
          exact Or.inr ⟨q, 1, e1.trans this, WF.up_one hq hr, hq, e2⟩
        · rw [if_neg hh] at e1 ⊢
          refine Or.inl ⟨e1, fun j r hu => ?_⟩
          cases j with
          | zero =>
            have : k = r := hu
            subst this
            have := (names_parts (node_parts (h.node k hk)).2.1).2.1
            unfold okPl at this
            simp at this
            omega
          | succ j =>
            obtain ⟨y, _, e5, hu2⟩ := hu
            have : y = q := by omega
            subst this
            exact e2 j r hu2
      · exact Or.inr ⟨t, 1 + m, e1, (WF.up_one hq hr).trans e2, e3, e4⟩
    · rw [WF.path_top hr]
      have hno : (nd S k).h = -1 := by
        have := (names_parts (node_parts (h.node k hk)).2.1).2.1
        unfold okPl at this
        simp at this
        by_cases hh : (nd S k).h = -1
        · exact hh
        · refine absurd ⟨(nd S k).h.toNat, ?_, ?_⟩ hr
          · omega
          · unfold rightUnder
            rw [if_neg hh]
            omega
      refine Or.inl ⟨?_, fun j r hu => ?_⟩
      · unfold lastHost
        simp [hno]
      · cases j with
        | zero =>
          have : k = r := hu
          subst this
          exact hno
        | succ j =>
          obtain ⟨y, hy, e5, _⟩ := hu
          exact absurd ⟨y, hy, e5⟩ hr

/-- What is shown below k has on its line the host that SlotOnce reckons. -/
theorem flat_host {S : List Nd} (h : WF S) {k : Nat} (hk : k < S.length) {x : Int} (hx : x ∈ flatF S k) : ∃ q : Nat, x = q ∧ q < S.length ∧ (q = k ∨ (nd S q).u = true) ∧ lastHost S k (pathF S k) ∈ pathF S q := by
  obtain ⟨j, q, e, hq⟩ := mem_orderG h (giv_ok h) hk x hx
  obtain ⟨f1, _, _, f4, _⟩ := ShR.facts h (giv_ok h) hk hq
  refine ⟨q, e, f1, f4, ?_⟩
  rcases last_host h _ hk (Nat.le_refl _) (k : Int) with ⟨e1, e2⟩ | ⟨t, m, e1, e2, _, e4⟩
  · rw [e1]
    obtain ⟨m, hm⟩ := ShR.under h (giv_ok h) hk e2 (i := 0) rfl hq
    exact h.up_path f1 hm
  · rw [e1]
    obtain ⟨m2, hm⟩ := ShR.under h (giv_ok h) hk e4 e2 hq
    exact h.up_path f1 hm

theorem flat_nodup {S : List Nd} (h : WF S) {k : Nat} (hk : k < S.length) : (flatF S k).Nodup := nodup_orderG h (giv_ok h) hk (i := 0) rfl
end Go.Proofs.Ythlpkdmmkfhleac

namespace Go.Proofs.Ythlpkdmmkfhleac
open Go.RowKit

theorem slotsF_one {S : List Nd} (h : WF S) {H : Nat} {s s' : Slt} (hs : s ∈ slotsF S H) (hs' : s' ∈ slotsF S H) {c : Int} (hc : c ∈ s.gv) (hc' : c ∈ s'.gv) : s = s' := by
  obtain ⟨r, _, _, _, _, e1, _, _, _, _, _, _, m1⟩ := slotsF_mem h hs
  obtain ⟨r', _, _, _, _, e2, _, _, _, _, _, _, m2⟩ := slotsF_mem h hs'
  have : r = r' := by omega
  subst this
  exact slots_one m1 m2 hc hc'

theorem given_facts {S : List Nd} (h : WF S) {k : Nat} (hk : k < S.length) {i : Nat} (hi : i < (slotsF S k).length) {c : Int} (hc : c ∈ (slt (slotsF S k) i).gv) :
    ∃ n : Nat, c = n ∧ n < S.length ∧ (nd S n).u = true ∧ (nd S n).p = k ∧ toF S n = (slt (slotsF S k) i).pl ∧ findE S n (nd S n).n = 0 := by
  have hm : ∀ {j}, j < (slotsF S k).length → slt (slotsF S k) j ∈ slotsF S k := fun hj => by rw [slt_elem hj]; exact List.getElem_mem hj
  obtain ⟨_, _, _, _, _, _, _, _, _, _, _, r6, _⟩ := slotsF_mem h (hm hi)
  have e := r6.resolve_left (fun e => by rw [e] at hc; cases hc)
  have hc2 := hc
  rw [e] at hc2
  obtain ⟨n, rfl, hn, hu, hp, _⟩ := h.kid hk (mem_marked.1 hc2).1
  refine ⟨n, rfl, hn, hu, hp, ?_, find_zero h (holds_used hn hu rfl h)⟩
  unfold toF
  have hP : slotsP S n = slotsF S k := by unfold slotsP; rw [hp, if_neg (by omega), Int.toNat_natCast]
  rw [hP]
  have nd1 := nodup_filter_pl h (H := k)
  refine toL_some hi hc (fun j hj hcj => ?_)
  have e2 := slotsF_one h (hm (show j < (slotsF S k).length by omega)) (hm hi) hcj hc
  have := List.nodup_iff_pairwise_ne.1 nd1
  rw [List.pairwise_iff_getElem] at this
  have h3 := this j i (by rw [List.length_map]; omega) (by rw [List.length_map]; omega) hj
  rw [List.getElem_map, List.getElem_map, ← slt_elem (by omega), ← slt_elem hi, e2] at h3
  exact h3 rfl

theorem given_nodup {S : List Nd} (h : WF S) {k : Nat} (hk : k < S.length) : ((slotsF S k).flatMap Slt.gv).Nodup := by
  have nd1 := nodup_filter_pl h (H := k)
  have nd2 : (slotsF S k).Nodup := by
    rw [List.nodup_iff_pairwise_ne] at nd1 ⊢
    rw [List.pairwise_map] at nd1
    exact nd1.imp (fun hne e => hne (by rw [e]))
  refine nodup_flat _ _ nd2 (fun s hs => ?_) (fun s hs s' hs' hne x hx hx' => hne (slotsF_one h hs hs' hx hx'))
  obtain ⟨_, _, _, _, _, _, _, _, _, _, _, r6, _⟩ := slotsF_mem h hs
  rcases r6 with e | e
  · rw [e]; exact List.nodup_nil
  · rw [e]
    unfold markedF flt
    exact (h.kids_nodup hk).filter _
end Go.Proofs.Ythlpkdmmkfhleac

namespace Go.Proofs.Ythlpkdmmkfhleac
open Go.ChangeShapes Go.WideShapes

set_option maxRecDepth 100000 in
theorem zeroBool (w : World) : (zeroValue 4).run Try.prog w = .ok (.bool false) w := by kernel_rfl

/-- Block b is a map of at most n entries that says f of every int. -/
def MarksAt (w : World) (b n : Nat) (f : Int → Bool) : Prop :=
  ∃ D : DataW Unit, w.ownsMap Try.prog 3 (plainElem Try.prog 4) b n D ∧ Maps.IsMap D ∧ ∀ k : Int, (Lit.int .i64 k).wf = true → D.atKey (.int .i64 k) (.lit (.bool false)) = .lit (.bool (f k))

theorem MarksAt.made (w : World) : MarksAt (w.alloc (.map #[] 0)) w.heap.size 0 (fun _ => false) :=
  ⟨.map [], World.ownsMap_made w _ _ _, Maps.isMap_empty, fun _ _ => rfl⟩

theorem MarksAt.lt {w : World} {b n : Nat} {f : Int → Bool} (h : MarksAt w b n f) : b < w.heap.size := let ⟨_, h1, _⟩ := h; h1.lt

theorem MarksAt.kept {w w' : World} {b n : Nat} {f : Int → Bool} (h : MarksAt w b n f) (e : w'.heap[b]? = w.heap[b]?) : MarksAt w' b n f := by
  obtain ⟨D, ⟨es, clock, hb, F, hs, hD⟩, h2⟩ := h
  exact ⟨D, ⟨es, clock, e.trans hb, F, hs, hD⟩, h2⟩

theorem plainElem_bool_inv {P : Program} {e : TypeId} (he : P.underlying e = some .bool) {v : Value} {z : DataW Unit × List MemPlace} (h : plainElem P e v = some z) : ∃ x, v = .bool x ∧ z = (.lit (.bool x), []) := by
  unfold plainElem at h
  rw [he] at h
  cases v <;> simp at h
  exact ⟨_, rfl, h.symm⟩

theorem MarksAt.look {w : World} {b n : Nat} {f : Int → Bool} (h : MarksAt w b n f) {t : TypeId} (ht : Try.prog.underlying t = some (.map 3 4)) {k : Int} (hk : (Lit.int .i64 k).wf = true) :
    (Instr.lookup t (.map (some b)) (.int .i64 k) false).run Try.prog w = .ok (.bool (f k)) w := by
  obtain ⟨D, h1, _, h3⟩ := h
  obtain ⟨v, ps, hrun, hv⟩ := h1.lookup (Maps.int_keyed Try.underlying3) ht (zeroBool w) (plainElem_bool Try.underlying4 false) (Maps.keyOf_int_mk Try.underlying3 hk)
  obtain ⟨x, rfl, e⟩ := plainElem_bool_inv Try.underlying4 hv
  rw [h3 k hk] at e
  cases e
  exact hrun

theorem MarksAt.put {w : World} {b n : Nat} {f : Int → Bool} (h : MarksAt w b n f) {t : TypeId} (ht : Try.prog.underlying t = some (.map 3 4)) (hn : n < maxLen) {k : Int} (hk : (Lit.int .i64 k).wf = true) (v : Bool) :
    ∃ w', (Instr.mapUpdate t (.map (some b)) (.int .i64 k) (.bool v)).run Try.prog w = .ok () w' ∧ MarksAt w' b (n + 1) (fun j => if j = k then v else f j) ∧ w.grownBy w' (some b) := by
  obtain ⟨D, h1, h2, h3⟩ := h
  obtain ⟨w', hrun, h4, h5⟩ := h1.update (Maps.int_keyed Try.underlying3) ht hn (Maps.keyOf_int_mk Try.underlying3 hk) (plainElem_bool Try.underlying4 v)
  refine ⟨w', hrun, ⟨_, h4, h2.put _ _, fun j hj => ?_⟩, h5⟩
  by_cases e : j = k
  · subst e
    simp only [if_true]
    exact Maps.atKey_put_same (k := .int .i64 j) h2 (show WideAt.IsKeyLit (.int .i64 j) from trivial) _ _
  · simp only [if_neg e]
    rw [Maps.atKey_put_other (by intro e2; cases e2; exact e rfl)]
    exact h3 j hj

/-- 'm[k]' in the walk. -/
theorem wpList_look_marks (w : World) {ops : Array Oper} {rest : List Oper} {o : Oper} {a : Act} {Q : Exit → Act → World → Prop} (hg : o.guard = none) (m x : Operand) (t : TypeId) (hop : o.op = Op.lookup t m x false)
    (ht : Try.prog.underlying t = some (.map 3 4)) (b n : Nat) (f : Int → Bool) (hm : a.eval m = .map (some b)) (h : MarksAt w b n f) (k : Int) (hx : a.eval x = .int .i64 k) (hk : (Lit.int .i64 k).wf = true)
    (hK : wpList Try.prog ops Q rest (a.put o.dst (.bool (f k))) w) : wpList Try.prog ops Q (o :: rest) a w := by
  refine wpList_plain hg fun K' hK' => ?_
  unfold Oper.wp
  simp [execOp, hop, hm, hx, h.look ht hk, Result.andThen]
  exact hK' _ _ hK

/-- 'm[k] = v' in the walk. -/
theorem wpList_put_marks (w : World) {ops : Array Oper} {rest : List Oper} {o : Oper} {a : Act} {Q : Exit → Act → World → Prop} (hg : o.guard = none) (m x y : Operand) (t : TypeId) (hop : o.op = Op.mapUpdate t m x y)
    (ht : Try.prog.underlying t = some (.map 3 4)) (b n : Nat) (f : Int → Bool) (hm : a.eval m = .map (some b)) (h : MarksAt w b n f) (hn : n < maxLen) (k : Int) (v : Bool) (hx : a.eval x = .int .i64 k) (hy : a.eval y = .bool v) (hk : (Lit.int .i64 k).wf = true)
    (hK : ∀ w', MarksAt w' b (n + 1) (fun j => if j = k then v else f j) → w.grownBy w' (some b) → wpList Try.prog ops Q rest (a.put o.dst undef) w') : wpList Try.prog ops Q (o :: rest) a w := by
  refine wpList_plain hg fun K' hK' => ?_
  obtain ⟨w', hrun, h1, h2⟩ := h.put ht hn hk v
  unfold Oper.wp
  simp [execOp, hop, hm, hx, hy, hrun, Result.andThen]
  exact hK' _ _ (hK w' h1 h2)
end Go.Proofs.Ythlpkdmmkfhleac

namespace Go.Proofs.Ythlpkdmmkfhleac
open Go.RowKit

theorem rin_any (x a b : Int) (w : World) :
    Calls Try.prog 108 #[.int .i64 x, .int .i64 a, .int .i64 b] w fun e w' => e = .returned (.bool (decide (a ≤ x ∧ x ≤ b))) ∧ w' = w := by
  by_cases h1 : a ≤ x
  · by_cases h2 : x ≤ b
    · rw [decide_eq_true ⟨h1, h2⟩]
      go_enter Try.func108, Try.ntmps108
      go_wp2
      go_ret
      exact ⟨rfl, rfl⟩
    · rw [decide_eq_false (fun h => h2 h.2)]
      have h3 : decide (x ≤ b) = false := decide_eq_false h2
      go_enter Try.func108, Try.ntmps108
      go_wp2
      go_ret
      exact ⟨rfl, rfl⟩
  · rw [decide_eq_false (fun h => h1 h.1)]
    have h3 : decide (a ≤ x) = false := decide_eq_false h1
    go_enter Try.func108, Try.ntmps108
    go_wp2
    go_ret
    exact ⟨rfl, rfl⟩

set_option maxHeartbeats 400000 in
theorem rRightUnder_any (x : Nd) (k : Value) (w : World) :
    Calls Try.prog 56 #[.agg #[.bool x.u, .int .i64 x.n, .int .i64 x.t, .int .i64 x.m, .int .i64 x.p, k, .int .i64 x.h, .bool x.c]] w fun e w' => e = .returned (.int .i64 (if x.h = -1 then x.p else x.h)) ∧ Below w.heap.size w w' := by
  obtain ⟨u, n, t, m, p, ks, h, c⟩ := x
  dsimp only
  by_cases e : h = -1
  · subst e
    simp only [if_true]
    go_enter Try.func56, Try.ntmps56
    go_wp2
    go_ret
    exact ⟨rfl, (Below.refl _ _).alloc (Nat.le_refl _) _⟩
  · simp only [if_neg e]
    have e2 : (h == -1) = false := beq_eq_false_iff_ne.2 e
    go_enter Try.func56, Try.ntmps56
    go_wp2
    go_ret
    exact ⟨rfl, (Below.refl _ _).alloc (Nat.le_refl _) _⟩
end Go.Proofs.Ythlpkdmmkfhleac

namespace Go.Proofs.Ythlpkdmmkfhleac
open Go.RowKit

theorem own_below {w w' : World} {B : Nat} {v : Value} {l : List Int} (h : w.ownsRow B 3 1 v l.length (l.map (Value.int .i64))) (hb : Below w.heap.size w w') : w'.ownsRow B 3 1 v l.length (l.map (Value.int .i64)) :=
  h.kept (row := none) ⟨hb.os, hb.tape, hb.output, hb.size, fun k hk _ => hb.block k hk⟩ (by
    cases hv : v.ownBlock with
    | none => exact Or.inl rfl
    | some k => exact Or.inr (fun e => by cases e))

set_option maxRecDepth 100000 in
set_option maxHeartbeats 4000000 in
theorem rLine_any (a : Option Addr) (c : Nat) (S : List Nd) (k : Int) (w : World) (hN : S.length ≤ 24) (hS : NdsAt w a S) :
    Calls Try.prog 22 #[.agg #[.slice a S.length c], .int .i64 k] w fun e w' => ∃ v, e = .returned v ∧ Below w.heap.size w w' ∧ w'.ownsRow w.heap.size 3 1 v (lineF S (S.length + 1) k).length ((lineF S (S.length + 1) k).map (Value.int .i64)) := by
  obtain ⟨i0, hi0, hz0, hz1, hz2⟩ := info_parts info3
  have HS : Hid (NdsAt w a S) := hS
  have LF : Hid (∀ f (y : Nat), y < S.length → lineF S (f + 1) (y : Int) = (y : Int) :: lineF S f (rightUnder (nd S y))) := fun f y hy => by rw [lineF, if_pos (isPl_nat.2 hy), Int.toNat_natCast]
  have LN : Hid (∀ f (x : Int), ¬ (0 ≤ x ∧ x < (S.length : Int)) → lineF S f x = []) := fun f x hx => by
    cases f with
    | zero => rfl
    | succ f =>
      rw [lineF, if_neg]
      intro h
      have h2 : 0 ≤ x ∧ x ≤ (S.length : Int) - 1 := of_decide_eq_true h
      exact hx (by omega)
  obtain ⟨L0, hL0⟩ : ∃ l, lineF S (S.length + 1) k = l := ⟨_, rfl⟩
  rw [hL0]
  have E0 : Hid (L0 = [] ++ lineF S (S.length + 1 - 0) k) := (by rw [← hL0]; rfl : L0 = [] ++ lineF S (S.length + 1 - 0) k)
  clear hS hL0
  obtain ⟨n, hn⟩ : ∃ n, S.length = n := ⟨_, rfl⟩
  have HN : Hid (S.length = n) := hn
  rw [hn] at hN E0 LF LN ⊢
  clear hn
  go_enter Try.func22, Try.ntmps22
  go_wp2_with fail
  go_loopg [1, 5] (n + 1) (fun g s1 s5 wr => ∃ (j : Nat) (x : Int) (l : List Int), j ≤ n + 1 ∧ (n + 1) - j ≤ g ∧ s1 = .int .i64 x ∧ l.length = j ∧ Hid (Below w.heap.size w wr) ∧ wr.cell? ⟨w.heap.size, 0, none⟩ = some (.slice a n c) ∧ w.heap.size < wr.heap.size ∧ Hid (wr.ownsRow (w.heap.size + 1) 3 1 s5 l.length (l.map (Value.int .i64))) ∧ Hid (L0 = l ++ lineF S (n + 1 - j) x))
  case atStart => exact ⟨0, k, [], by omega, by omega, rfl, rfl, (Below.refl _ _).alloc (Nat.le_refl _) _, by go_simp, by simp, World.ownsRow_nil _ _ _ _, E0⟩
  case round =>
    obtain ⟨j, x, l, hj, hg, rfl, hl, HB, cs, hsz, HO, HE⟩ := hrel
    obtain ⟨pa, pc, hv, _⟩ := own_slice HO.out
    subst hv
    clear E0
    obtain ⟨ln, hln⟩ : ∃ y, l.length = y := ⟨_, rfl⟩
    have HLN : Hid (l.length = ln) := hln
    rw [hln]
    have hlj : ln = j := by omega
    subst hlj
    have EXIT : Hid (lineF S (n + 1 - ln) x = [] → wr.ownsRow w.heap.size 3 1 (.slice pa ln pc) L0.length (L0.map (Value.int .i64))) := fun h => by
      have e := HE.out
      rw [h, List.append_nil] at e
      rw [e]
      have h2 := ownsRow_base HO.out (Nat.le_succ _)
      rw [hln] at h2
      rw [hln]
      exact h2
    have OWN : Hid (wr.ownsRow (w.heap.size + 1) 3 1 (.slice pa ln pc) ln (l.map (Value.int .i64))) := by have h2 := HO.out; rw [hln] at h2; exact h2
    clear hl hln HO
    by_cases hx : 0 ≤ x ∧ x < (n : Int)
    · obtain ⟨y, rfl⟩ : ∃ y : Nat, x = y := ⟨x.toNat, by omega⟩
      have hy : y < n := by omega
      obtain ⟨hx0, hx1⟩ := hx
      have b1 : decide ((0 : Int) ≤ (y : Int)) = true := decide_eq_true hx0
      have b2 : decide ((y : Int) < (n : Int)) = true := decide_eq_true hx1
      by_cases hjn : ln ≤ n
      · have b3 : decide ((ln : Int) ≤ (n : Int)) = true := decide_eq_true (by omega)
        have hjn2 : (ln : Int) ≤ (n : Int) := by omega
        have EQ : Hid (L0 = (l ++ [(y : Int)]) ++ lineF S (n + 1 - (ln + 1)) (rightUnder (nd S y))) := by
          have e := HE.out
          rw [show n + 1 - ln = (n + 1 - (ln + 1)) + 1 by omega, LF.out _ y hy] at e
          show L0 = _
          rw [e, List.append_assoc]
          rfl
        obtain ⟨r, hr⟩ : ∃ r, rightUnder (nd S y) = r := ⟨_, rfl⟩
        have d2 := fun (v : Value) W => rRightUnder_any (nd S y) v W
        rw [show (if (nd S y).h = -1 then (nd S y).p else (nd S y).h) = r from hr] at d2
        have RUy : Hid _ := d2
        rw [hr] at EQ
        clear HE EXIT d2 hr
        have OB : Hid (∀ k, (Value.slice pa ln pc).ownBlock = some k → w.heap.size + 1 ≤ k) := fun k hk => (OWN.out.lt k hk).1
        go_wp2_with (at_builtin; refine wpList_append_own _ rfl _ _ 39 rfl (w.heap.size + 1) 3 i0 (.int .i64 0) 1 8 Try.underlying39 hi0 hz0 hz1 hz2 rfl (by decide) _ _ _ rfl (OWN.out.alloc _) ⟨wr.heap.size, 0, none⟩ 1 1 [.int .i64 (y : Int)] rfl rfl ?c1 ?c2 ?c3 ?c4 ?c5 ?_)
        case c2 => first | rfl | (intro u hu; simp at hu; subst hu; rfl) | simp
        case c3 => unfold maxLen; omega
        case c4 => omega
        case c5 => first | omega | (simp; omega)
        case c1 => first | (go_simp; done) | (intro j u hj; match j, hj with | 0, hj => (cases hj; go_simp) | (j + 1), hj => simp at hj)
        intro v' w2 hown' hgrow _
        obtain ⟨g', cap', rfl⟩ : ∃ g' cap', v' = .slice (some ⟨g', 0, none⟩) (ln + 1) cap' := by
          rcases hown'.2 with ⟨_, h⟩ | ⟨g', cap', cur, h, _⟩
          · omega
          · exact ⟨g', cap', h⟩
        have hb2 : Below (w.heap.size + 1) wr w2 := ((Below.refl _ wr).alloc (by omega) _).grown hgrow (by simp; omega) (fun k hk => OB.out k hk)
        have HB2 : Hid (Below w.heap.size w w2) := HB.out.trans (hb2.mono (by omega))
        have cs2 := (hb2.cell (p := ⟨w.heap.size, 0, none⟩) (by show w.heap.size < _; omega)).trans cs
        have hsz2 := World.block_lt_of_cell? _ _ cs2
        obtain ⟨nb, no, ea, k0, k1, k2, k3, k4, ⟨ka, kc, k5, _⟩, k6, k7⟩ := (HS.out.below HB2.out) y (by rw [HN.out]; exact hy)
        subst ea
        have hnb := World.block_lt_of_cell? _ _ k0
        have HO2 : Hid (w2.ownsRow (w.heap.size + 1) 3 1 (.slice (some ⟨g', 0, none⟩) (ln + 1) cap') (l ++ [(y : Int)]).length ((l ++ [(y : Int)]).map (Value.int .i64))) := by
          have h2 := hown'
          rw [show (l ++ [(y : Int)]).length = ln + 1 by simp [HLN.out], List.map_append]
          exact h2
        have HL2 : Hid ((l ++ [(y : Int)]).length = ln + 1) := (by simp [HLN.out] : (l ++ [(y : Int)]).length = ln + 1)
        clear hown' hgrow hb2 cs OWN
        go_wp2_with fail
        refine Calls.mono (RUy.out _ _) ?_
        rintro e w3 ⟨rfl, hb3⟩
        have HB3 : Hid (Below w.heap.size w w3) := HB2.out.trans (hb3.mono HB2.out.size)
        have cs3 := (hb3.cell (p := ⟨w.heap.size, 0, none⟩) hsz2).trans cs2
        have HO3 : Hid _ := own_below HO2.out hb3
        have hs3 := hb3.size
        clear hb3 k0 k1 k2 k3 k4 k5 k6 k7 cs2
        go_wp2
        go_roundg ((n + 1) - (ln + 1))
        case measure => omega
        case rel => exact ⟨ln + 1, _, l ++ [(y : Int)], by omega, by omega, rfl, HL2.out, HB3, cs3, by omega, HO3, EQ⟩
      · have hjn2 : ¬ (ln : Int) ≤ (n : Int) := by omega
        have b3 : decide ((ln : Int) ≤ (n : Int)) = false := decide_eq_false hjn2
        have hz : n + 1 - ln = 0 := by omega
        have OW : Hid _ := EXIT.out (by rw [hz]; rfl)
        clear EXIT HE OWN
        go_wp2
        go_ret
        exact ⟨_, rfl, HB.out, OW.out⟩
    · have OW : Hid _ := EXIT.out (LN.out _ _ hx)
      clear EXIT HE OWN
      by_cases h0 : 0 ≤ x
      · have h1 : ¬ x < (n : Int) := fun h => hx ⟨h0, h⟩
        have b1 : decide ((0 : Int) ≤ x) = true := decide_eq_true h0
        have b2 : decide (x < (n : Int)) = false := decide_eq_false h1
        clear hx
        go_wp2
        go_ret
        exact ⟨_, rfl, HB.out, OW.out⟩
      · have b1 : decide ((0 : Int) ≤ x) = false := decide_eq_false h0
        clear hx
        go_wp2
        go_ret
        exact ⟨_, rfl, HB.out, OW.out⟩
end Go.Proofs.Ythlpkdmmkfhleac
