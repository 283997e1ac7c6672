/-
  The contracts of fitsUnder, and of slices.Contains at []api.Hand.
-/
import Derived.Test.YtfcpgabimedjmaaJTbSp
import Derived.BigQuiet
import Derived.Laws.StructEq
import Derived.Shelf.SlGeneric
import Derived.Shelf.Spec.SlicesInsertGrow
import Derived.Ground.Names2Prog
import Derived.Ground.SlgfProg
import Derived.Shelf.SlicesE.DeleteFunc
import Derived.Test.YtfcpgabimedjmaaProg
import Derived.Test.YtfcpgabimedjmaaJTe
namespace Go.Proofs.Ytfcpgabimedjmaa
open Go.RowKit

def fitsB (S : List Nd) (ch pa : Nat) : Bool := decide ((nd S ch).h = -1) && (!decide ((pa : Int) = ch) && !underB S pa ch)

set_option maxHeartbeats 1000000 in
theorem fitsUnder_any (a : Option Addr) (c : Nat) (S : List Nd) (ch pa : Nat) (w : World) (hN : S.length ≤ 9223372036854775807) (hc : ch < S.length) (hS : NdsAt w a S) :
    Calls Try.prog 79 #[.agg #[.slice a S.length c], .int .i64 ch, .int .i64 pa] w fun e w' => e = .returned (.bool (fitsB S ch pa)) ∧ Below w.heap.size w w' := by
  unfold fitsB
  have du := fun (W : World) (hW : NdsAt W a S) => under_any a c S pa ch W hN hW
  have DU : Hid _ := du
  have HS : Hid (NdsAt w a S) := hS
  have hc2 : (ch : Int) < (S.length : Int) := by omega
  obtain ⟨b, o, rfl, c0, _, _, _, _, _, c6, _⟩ := hS ch hc
  have hbw := World.block_lt_of_cell? _ _ c0
  clear hS du
  generalize underB S pa ch = b3 at *
  generalize (nd S ch).h = hh at *
  generalize S.length = n at *
  by_cases h1 : hh = -1
  · subst h1
    by_cases h2 : (pa : Int) = ch
    · have e : decide ((pa : Int) = ch) = true := decide_eq_true h2
      have h3 : pa = ch := by omega
      subst h3
      rw [e]
      simp only [decide_true, Bool.not_true, Bool.false_and, Bool.and_false]
      go_enter Try.func79, Try.ntmps79
      go_wp2
      go_ret
      exact ⟨rfl, (Below.refl _ _).alloc (Nat.le_refl _) _⟩
    · have e : decide ((pa : Int) = ch) = false := decide_eq_false h2
      rw [e]
      have e1 : ((pa : Int) == (ch : Int)) = false := beq_eq_false_iff_ne.2 h2
      have e2 : ((pa : Int) != (ch : Int)) = true := by simp [bne, e1]
      have h2n : ¬ pa = ch := by omega
      simp only [decide_true, Bool.not_false, Bool.true_and]
      cases b3
      all_goals
        go_enter Try.func79, Try.ntmps79
        go_wp2_with (go_at_call 47; refine (DU.out _ (HS.out.below ((Below.refl _ _).alloc (Nat.le_refl _) _))).mono ?_; rintro e w1 ⟨rfl, hb1⟩)
        go_ret
        exact ⟨rfl, ((Below.refl _ _).alloc (Nat.le_refl _) _).trans (hb1.mono (by simp))⟩
  · have e : decide (hh = -1) = false := decide_eq_false h1
    have e1 : (hh == -1) = false := beq_eq_false_iff_ne.2 h1
    rw [e]
    simp only [Bool.false_and]
    go_enter Try.func79, Try.ntmps79
    go_wp2
    go_ret
    exact ⟨rfl, (Below.refl _ _).alloc (Nat.le_refl _) _⟩

set_option maxHeartbeats 1000000 in
theorem hasHand_any (ha : Option Addr) (hc : Nat) (hs : List (Int × Int)) (p u : Int) (w : World) (hL : hs.length ≤ 9223372036854775807) (hH : HandsAt w ha hs) :
    Calls Try.prog 91 #[.slice ha hs.length hc, .agg #[.int .i64 p, .int .i64 u]] w fun e w' => ∃ r : Int, e = .returned (.int .i64 r) ∧ Below w.heap.size w w' ∧ ((0 ≤ r) ↔ (p, u) ∈ hs) := by
  have HH : Hid (HandsAt w ha hs) := hH
  have IN : Hid (∀ k, k < hs.length → hs.getD k (0, 0) = (p, u) → (p, u) ∈ hs) := fun k hk h => by rw [← h, getD_elem hs _ hk]; exact List.getElem_mem hk
  have OUT : Hid ((∀ k, k < hs.length → hs.getD k (0, 0) ≠ (p, u)) → (p, u) ∉ hs) := fun h hm => by
    obtain ⟨i, hi, e⟩ := List.getElem_of_mem hm
    exact h i hi (by rw [getD_elem hs _ hi]; exact e)
  clear hH
  generalize hm : hs.length = m at *
  have HM : Hid _ := hm
  clear hm
  generalize ((p, u) ∈ hs) = Q at *
  go_enter Try.func91, Try.ntmps91
  go_wp2
  go_loopg [8] m (fun g s8 wr => ∃ k : Nat, k ≤ m ∧ m - k ≤ g ∧ s8 = .int .i64 k ∧ Below (w.heap.size + 1) (w.alloc (.cells #[.int .i64 p, .int .i64 u] 39)) wr ∧ Hid (∀ i, i < k → hs.getD i (0, 0) ≠ (p, u)))
  case atStart => exact ⟨0, by omega, by omega, rfl, Below.refl _ _, (show Hid _ from fun i hi => absurd hi (Nat.not_lt_zero _))⟩
  case round =>
    obtain ⟨k, hk, hg, rfl, hb, A⟩ := hrel
    have hB0 : Below w.heap.size w wr := ((Below.refl _ _).alloc (Nat.le_refl _) _).trans (hb.mono (by omega))
    have x0 : wr.cell? ⟨w.heap.size, 0, none⟩ = some (.int .i64 p) := (hb.cell (by simp)).trans (by go_simp)
    have x1 : wr.cell? ⟨w.heap.size, 1, none⟩ = some (.int .i64 u) := (hb.cell (by simp)).trans (by go_simp)
    by_cases hlt : k < m
    · have hlt2 : (k : Int) < (m : Int) := by omega
      obtain ⟨b, o, rfl, c0, c1⟩ := (HH.out.below hB0) k (by rw [HM.out]; exact hlt)
      generalize hy : hs.getD k (0, 0) = y at *
      obtain ⟨yp, yu⟩ := y
      dsimp only at c0 c1
      have HY : Hid _ := hy
      clear hy
      by_cases e1 : p = yp
      · by_cases e2 : u = yu
        · subst e1
          subst e2
          have Z : Hid _ := IN.out k hlt HY.out
          go_wp2_with fail
          go_quiet (fail)
          go_wp2
          go_ret
          exact ⟨k, rfl, Below.drewNs hB0 _, fun _ => Z.out, fun _ => by omega⟩
        · have e3 : (u == yu) = false := beq_eq_false_iff_ne.2 e2
          have NE : Hid ((yp, yu) ≠ (p, u)) := fun h => e2 (by cases h; rfl)
          subst e1
          go_wp2_with fail
          go_quiet (fail)
          go_wp2
          go_roundg (m - (k + 1))
          case measure => omega
          case rel =>
            refine ⟨k + 1, by omega, by omega, by go_num, Below.drewNs hb _, (show Hid _ from fun i hi => ?_)⟩
            by_cases e : i = k
            · rw [e, HY.out]; exact NE.out
            · exact A.out i (by omega)
      · have e3 : (p == yp) = false := beq_eq_false_iff_ne.2 e1
        have NE : Hid ((yp, yu) ≠ (p, u)) := fun h => e1 (by cases h; rfl)
        go_wp2_with fail
        go_quiet (fail)
        go_wp2
        go_roundg (m - (k + 1))
        case measure => omega
        case rel =>
          refine ⟨k + 1, by omega, by omega, by go_num, Below.drewNs hb _, (show Hid _ from fun i hi => ?_)⟩
          by_cases e : i = k
          · rw [e, HY.out]; exact NE.out
          · exact A.out i (by omega)
    · have : k = m := by omega
      subst this
      have Z : Hid _ := OUT.out A.out
      go_wp2
      go_ret
      exact ⟨-1, rfl, hB0, fun h => by omega, fun h => absurd h Z.out⟩
end Go.Proofs.Ytfcpgabimedjmaa

namespace Go.Proofs
open Go.Shelf
def Try.lays21_ren : Go.Shelf.Ren := ⟨fun | 21 => 93 | 27 => 99 | 28 => 100 | 35 => 102 | 39 => 103 | n => n, fun | 22 => 29 | 3 => 3 | 4 => 4 | 0 => 0 | n => n, fun | n => n⟩
theorem Try.lays21 : Go.Proofs.Lays2.n21 Try.prog Try.lays21_ren := {
  mixed := by kernel_rfl
  f21 := Try.func93.trans (congrArg some (by kernel_rfl))
  f27 := Try.func99.trans (congrArg some (by kernel_rfl))
  f28 := Try.func100.trans (congrArg some (by kernel_rfl))
  f35 := Try.func102.trans (congrArg some (by kernel_rfl))
  f39 := Try.func103.trans (congrArg some (by kernel_rfl))
  t0 := Try.underlying0
  a0 := Try.isAgg0
  z0 := Try.sizeOf0
  v0 := Try.zeroValue0
  t3 := Try.underlying3
  a3 := Try.isAgg3
  z3 := Try.sizeOf3
  v3 := Try.zeroValue3
  t4 := Try.underlying4
  a4 := Try.isAgg4
  z4 := Try.sizeOf4
  v4 := Try.zeroValue4
  t22 := Try.underlying29
  a22 := Try.isAgg29
  z22 := Try.sizeOf29
  v22 := Try.zeroValue29
  i3 := by kernel_rfl }
def Try.laysSlH10_del_ren : Go.Shelf.Ren := ⟨fun | 10 => 71 | 6 => 67 | n => n, fun | 22 => 29 | 23 => 3 | 25 => 86 | 3 => 3 | 4 => 4 | 0 => 0 | n => n, fun | n => n⟩
theorem Try.laysSlH10_del : Go.Proofs.SlLaysH.n10 Try.prog Try.laysSlH10_del_ren := {
  mixed := by kernel_rfl
  f6 := ⟨Try.f67.name, by decide, Try.func67.trans (congrArg some (by kernel_rfl))⟩
  f10 := ⟨Try.f71.name, by decide, Try.func71.trans (congrArg some (by kernel_rfl))⟩
  t0 := Try.underlying0
  a0 := Try.isAgg0
  z0 := Try.sizeOf0
  v0 := Try.zeroValue0
  t3 := Try.underlying3
  a3 := Try.isAgg3
  z3 := Try.sizeOf3
  v3 := Try.zeroValue3
  t4 := Try.underlying4
  a4 := Try.isAgg4
  z4 := Try.sizeOf4
  v4 := Try.zeroValue4
  t22 := Try.underlying29
  a22 := Try.isAgg29
  z22 := Try.sizeOf29
  v22 := Try.zeroValue29
  a23 := Try.isAgg3
  z23 := Try.sizeOf3
  t25 := Try.underlying86
  a25 := Try.isAgg86
  z25 := Try.sizeOf86
  v25 := Try.zeroValue86 }
end Go.Proofs

namespace Go.Proofs.Ytfcpgabimedjmaa
open Go.RowKit

/-- The list with one more ahead of place i. -/
def ins (ks : List Int) (i : Nat) (c : Int) : List Int := ks.take i ++ c :: ks.drop i

theorem ins_length (ks : List Int) (i : Nat) (c : Int) (h : i ≤ ks.length) : (ins ks i c).length = ks.length + 1 := by
  simp [ins]; omega
theorem ins_low (ks : List Int) (i j : Nat) (c : Int) (h : i ≤ ks.length) (hj : j < i) : (ins ks i c).getD j 0 = ks.getD j 0 := by
  simp [ins, List.getD, List.getElem?_append, hj]
  rw [if_pos (by omega)]
theorem ins_here (ks : List Int) (i : Nat) (c : Int) (h : i ≤ ks.length) : (ins ks i c).getD i 0 = c := by
  simp [ins, List.getD, Nat.min_eq_left h]
theorem ins_high (ks : List Int) (i j : Nat) (c : Int) (h : i ≤ ks.length) (hj : i < j) : (ins ks i c).getD j 0 = ks.getD (j - 1) 0 := by
  have e : j - i = (j - 1 - i) + 1 := by omega
  simp [ins, List.getD, List.getElem?_append, Nat.min_eq_left h]
  rw [if_neg (by omega), e, List.getElem?_cons_succ, List.getElem?_drop, show i + (j - 1 - i) = j - 1 by omega]

theorem row_setCells {b t n : Nat} : ∀ (vs : List Value) (o : Nat) (w : World) (F : Nat → Value), w.rowIs b t n F → (w.setCells b o vs).rowIs b t n (fun j => if o ≤ j ∧ j < o + vs.length then vs.getD (j - o) undef else F j)
  | [], o, w, F, h => h.congr (fun j _ => by rw [if_neg]; simp)
  | v :: r, o, w, F, h => by
    refine (row_setCells r (o + 1) (w.setCell ⟨b, o, none⟩ v) _ (h.set o v)).congr (fun j _ => ?_)
    by_cases e : j = o
    · subst e
      rw [if_neg (by omega), if_pos rfl, if_pos (by simp)]
      simp
    · by_cases e2 : o + 1 ≤ j ∧ j < o + 1 + r.length
      · rw [if_pos e2, if_pos (by simp; omega), show j - o = (j - (o + 1)) + 1 by omega]
        simp
      · rw [if_neg e2, if_neg e, if_neg (by simp; omega)]

theorem off_setCells {X : Nat → Prop} {b : Nat} (hX : X b) : ∀ (vs : List Value) (o : Nat) (w : World), Off X w (w.setCells b o vs)
  | [], _, w => Off.refl _ w
  | v :: r, o, w => by
    have step : Off X w (w.setCell ⟨b, o, none⟩ v) := ⟨rfl, rfl, rfl, by simp, fun k _ hx => Below.heap_setCell w ⟨b, o, none⟩ v k (fun e => hx (by rw [e]; exact hX))⟩
    exact step.trans (off_setCells hX r (o + 1) (w.setCell ⟨b, o, none⟩ v))

theorem Off.drew {X : Nat → Prop} {w w' : World} (h : Off X w w') : Off X w w'.drew := ⟨h.os, h.tape, h.output, h.size, h.block⟩
theorem Off.mono {X Y : Nat → Prop} {w w' : World} (h : Off X w w') (hxy : ∀ k, k < w.heap.size → X k → Y k) : Off Y w w' := ⟨h.os, h.tape, h.output, h.size, fun k hk hy => h.block k hk (fun hx => hy (hxy k hk hx))⟩

def Inserted (w : World) (kb : Nat) (l : List Int) (e : Ending) (w' : World) : Prop :=
  ∃ kb' kc', e = .returned (.slice (some ⟨kb', 0, none⟩) l.length kc') ∧ l.length ≤ kc' ∧ (kb' = kb ∨ w.heap.size ≤ kb') ∧ Off (fun b => b = kb) w w' ∧ ∃ G, w'.rowIs kb' 3 kc' G ∧ ∀ j, j < l.length → G j = .int .i64 (l.getD j 0)

theorem ints_get {ks : List Int} {j : Nat} {v : Value} (h : (ks.map (Value.int .i64))[j]? = some v) : j < ks.length ∧ v = .int .i64 (ks.getD j 0) := by
  obtain ⟨hl, hv⟩ := List.getElem?_eq_some_iff.1 h
  have hl' : j < ks.length := by simpa using hl
  refine ⟨hl', ?_⟩
  rw [← hv, List.getElem_map, getD_elem ks 0 hl']

theorem insert1_grow (kb L kc vb i : Nat) (ks : List Int) (ch : Int) (w : World) (hL : ks.length = L) (hi : i < L) (hkc : kc = L) (hsm : L ≤ 1000) (G : Nat → Value) (hG : w.rowIs kb 3 kc G) (hGk : ∀ j, j < L → G j = .int .i64 (ks.getD j 0)) (hv : w.cell? ⟨vb, 0, none⟩ = some (.int .i64 ch)) :
    Calls Try.prog 93 #[.slice (some ⟨kb, 0, none⟩) L kc, .int .i64 i, .slice (some ⟨vb, 0, none⟩) 1 1] w (Inserted w kb (ins ks i ch)) := by
  have h := Any2.slices_Insert_int_grow (P := Try.prog) (ρ := Try.lays21_ren) Try.lays21 kb 0 L kc i vb 0 1 1 (ks.map (Value.int .i64)) [.int .i64 ch] w hi (by omega) (by omega) (by omega) (by omega) (by simpa using hL) rfl
    (fun j v hj => by
      obtain ⟨h1, rfl⟩ := ints_get hj
      rw [Nat.zero_add, hG.cell (by omega), hGk j (by omega)])
    (fun j v hj => by
      match j, hj with
      | 0, hj => simp at hj; subst hj; simpa using hv)
    (fun v hv => by simp at hv; obtain ⟨y, _, rfl⟩ := hv; rfl) (fun v hv => by simp at hv; subst hv; rfl)
  refine Calls.mono (show Calls Try.prog 93 _ _ _ from h) ?_
  rintro e w' ⟨rfl, rfl⟩
  have hcap := grownCap_ge w (L + 1) kc (Try.lays21_ren.t 3)
  have hl := ins_length ks i ch (by omega)
  generalize grownCap w (L + 1) kc (Try.lays21_ren.t 3) = cap at *
  refine ⟨w.heap.size, cap, by rw [hl, hL], by omega, Or.inr (Nat.le_refl _), ?_, ?_⟩
  · refine Off.mono (X := fun b => b = w.heap.size) ?_ (fun k hk e => by omega)
    exact (((Off.of_below ((Below.refl _ _).alloc (Nat.le_refl _) _)).drew.trans (off_setCells (X := fun b => b = w.heap.size) rfl _ _ _)).drew).trans (off_setCells (X := fun b => b = w.heap.size) rfl _ _ _)
  · have hA : (((ks.map (Value.int .i64)).take i).toArray ++ Builtin.zeroCells (Value.int .i64 0).cells (L + 1 - i) ++ Builtin.zeroCells (Value.int .i64 0).cells (cap - (L + 1))).size = cap := by
      simp [size_zeroCells, Value.cells, hL]; omega
    have hlow : ∀ j, j < i → (((ks.map (Value.int .i64)).take i).toArray ++ Builtin.zeroCells (Value.int .i64 0).cells (L + 1 - i) ++ Builtin.zeroCells (Value.int .i64 0).cells (cap - (L + 1)))[j]? = some (.int .i64 (ks.getD j 0)) := fun j hj => by
      have hjk : j < ks.length := by omega
      rw [Array.getElem?_append_left (by simp; omega), Array.getElem?_append_left (by simp; omega)]
      simp [hj, hjk]
    generalize (((ks.map (Value.int .i64)).take i).toArray ++ Builtin.zeroCells (Value.int .i64 0).cells (L + 1 - i) ++ Builtin.zeroCells (Value.int .i64 0).cells (cap - (L + 1))) = A at *
    have hr := World.rowIs_alloc w A 3 (fun j => A[j]?.getD undef) (fun j hj => by simp [hj])
    rw [hA] at hr
    have hr2 := row_setCells [.int .i64 ch] i _ _ hr.drew
    have hr3 := row_setCells ((ks.map (Value.int .i64)).drop i) (i + 1) _ _ hr2.drew
    refine ⟨_, hr3, fun j hj => ?_⟩
    rw [hl, hL] at hj
    have hdl : ((ks.map (Value.int .i64)).drop i).length = L - i := by simp [hL]
    by_cases h1 : i < j
    · rw [if_pos (by rw [hdl]; omega), ins_high ks i j ch (by omega) h1, getD_elem ks 0 (by omega)]
      have : i + (j - (i + 1)) = j - 1 := by omega
      simp [List.getD, this, show j - 1 < ks.length by omega]
    · rw [if_neg (by omega)]
      by_cases h2 : j = i
      · subst h2
        rw [if_pos (by simp), ins_here ks j ch (by omega)]
        simp
      · rw [if_neg (by simp; omega), ins_low ks i j ch (by omega) (by omega), hlow j (by omega)]
        rfl

theorem insert1_end (kb L kc vb : Nat) (ks : List Int) (ch : Int) (w : World) (hL : ks.length = L) (hkc : kc = L) (hsm : L ≤ 1000) (G : Nat → Value) (hG : w.rowIs kb 3 kc G) (hGk : ∀ j, j < L → G j = .int .i64 (ks.getD j 0)) (hv : w.cell? ⟨vb, 0, none⟩ = some (.int .i64 ch)) :
    Calls Try.prog 93 #[.slice (some ⟨kb, 0, none⟩) L kc, .int .i64 L, .slice (some ⟨vb, 0, none⟩) 1 1] w (Inserted w kb (ins ks L ch)) := by
  have h := Any2.slices_Insert_int_end_grow (P := Try.prog) (ρ := Try.lays21_ren) Try.lays21 (some ⟨kb, 0, none⟩) L kc vb 0 1 1 (ks.map (Value.int .i64)) [.int .i64 ch] w (by omega) (by omega) (by omega) (by omega) (by simpa using hL) rfl (fun h => by cases h)
    (fun a ha j v hj => by
      cases ha
      obtain ⟨h1, rfl⟩ := ints_get hj
      rw [Addr.add_lit, Nat.zero_add, hG.cell (by omega), hGk j (by omega)])
    (fun j v hj => by
      match j, hj with
      | 0, hj => simp at hj; subst hj; simpa using hv)
    (fun v hv => by simp at hv; subst hv; rfl)
  refine Calls.mono (show Calls Try.prog 93 _ _ _ from h) ?_
  rintro e w' ⟨rfl, rfl⟩
  have hcap := grownCap_ge w (L + 1) kc (Try.lays21_ren.t 3)
  have hl := ins_length ks L ch (by omega)
  generalize grownCap w (L + 1) kc (Try.lays21_ren.t 3) = cap at *
  refine ⟨w.heap.size, cap, by rw [hl, hL], by omega, Or.inr (Nat.le_refl _), ?_, ?_⟩
  · exact Off.of_below ((Below.refl _ _).drew.alloc (Nat.le_refl _) _)
  · have hA : ((ks.map (Value.int .i64) ++ [Value.int .i64 ch]).toArray ++ Builtin.zeroCells (Value.int .i64 0).cells (cap - (L + 1))).size = cap := by
      simp [size_zeroCells, Value.cells, hL]; omega
    have hlow : ∀ j, j < L + 1 → ((ks.map (Value.int .i64) ++ [Value.int .i64 ch]).toArray ++ Builtin.zeroCells (Value.int .i64 0).cells (cap - (L + 1)))[j]? = some (.int .i64 ((ins ks L ch).getD j 0)) := fun j hj => by
      rw [Array.getElem?_append_left (by simp; omega)]
      by_cases e : j = L
      · rw [e, ins_here ks L ch (by omega), ← hL]
        simp
      · have hjk : j < ks.length := by omega
        rw [ins_low ks L j ch (by omega) (by omega)]
        simp [List.getElem?_append, hjk]
    generalize ((ks.map (Value.int .i64) ++ [Value.int .i64 ch]).toArray ++ Builtin.zeroCells (Value.int .i64 0).cells (cap - (L + 1))) = A at *
    have hr := World.rowIs_alloc w.drew A 3 (fun j => A[j]?.getD undef) (fun j hj => by simp [hj])
    rw [hA] at hr
    refine ⟨_, hr, fun j hj => ?_⟩
    rw [hl, hL] at hj
    rw [hlow j hj]
    rfl
end Go.Proofs.Ytfcpgabimedjmaa
