/-
  slices.Insert of one number into a row of the call's own, wherever, with room or without.
-/
import Derived.Test.YtiekhgpnmcffiacJTe
import Derived.Test.YtiekhgpnmcffiacJTfLay
namespace Go.Proofs.Ytiekhgpnmcffiac
open Go.RowKit

/-- The list with one more ahead of place i. -/
def ins (ks : List Int) (i : Nat) (c : Int) : List Int := ks.take i ++ c :: ks.drop i

theorem ins_length (ks : List Int) (i : Nat) (c : Int) (h : i ≤ ks.length) : (ins ks i c).length = ks.length + 1 := by
  simp [ins]; omega
theorem ins_low (ks : List Int) (i j : Nat) (c : Int) (h : i ≤ ks.length) (hj : j < i) : (ins ks i c).getD j 0 = ks.getD j 0 := by
  simp [ins, List.getD, List.getElem?_append, hj]
  rw [if_pos (by omega)]
theorem ins_here (ks : List Int) (i : Nat) (c : Int) (h : i ≤ ks.length) : (ins ks i c).getD i 0 = c := by
  simp [ins, List.getD, Nat.min_eq_left h]
theorem ins_high (ks : List Int) (i j : Nat) (c : Int) (h : i ≤ ks.length) (hj : i < j) : (ins ks i c).getD j 0 = ks.getD (j - 1) 0 := by
  have e : j - i = (j - 1 - i) + 1 := by omega
  simp [ins, List.getD, List.getElem?_append, Nat.min_eq_left h]
  rw [if_neg (by omega), e, List.getElem?_cons_succ, List.getElem?_drop, show i + (j - 1 - i) = j - 1 by omega]

theorem row_setCells {b t n : Nat} : ∀ (vs : List Value) (o : Nat) (w : World) (F : Nat → Value), w.rowIs b t n F → (w.setCells b o vs).rowIs b t n (fun j => if o ≤ j ∧ j < o + vs.length then vs.getD (j - o) undef else F j)
  | [], o, w, F, h => h.congr (fun j _ => by rw [if_neg]; simp)
  | v :: r, o, w, F, h => by
    refine (row_setCells r (o + 1) (w.setCell ⟨b, o, none⟩ v) _ (h.set o v)).congr (fun j _ => ?_)
    by_cases e : j = o
    · subst e
      rw [if_neg (by omega), if_pos rfl, if_pos (by simp)]
      simp
    · by_cases e2 : o + 1 ≤ j ∧ j < o + 1 + r.length
      · rw [if_pos e2, if_pos (by simp; omega), show j - o = (j - (o + 1)) + 1 by omega]
        simp
      · rw [if_neg e2, if_neg e, if_neg (by simp; omega)]

theorem off_setCells {X : Nat → Prop} {b : Nat} (hX : X b) : ∀ (vs : List Value) (o : Nat) (w : World), Off X w (w.setCells b o vs)
  | [], _, w => Off.refl _ w
  | v :: r, o, w => by
    have step : Off X w (w.setCell ⟨b, o, none⟩ v) := ⟨rfl, rfl, rfl, by simp, fun k _ hx => Below.heap_setCell w ⟨b, o, none⟩ v k (fun e => hx (by rw [e]; exact hX))⟩
    exact step.trans (off_setCells hX r (o + 1) (w.setCell ⟨b, o, none⟩ v))

theorem Off.drew {X : Nat → Prop} {w w' : World} (h : Off X w w') : Off X w w'.drew := ⟨h.os, h.tape, h.output, h.size, h.block⟩
theorem Off.mono {X Y : Nat → Prop} {w w' : World} (h : Off X w w') (hxy : ∀ k, k < w.heap.size → X k → Y k) : Off Y w w' := ⟨h.os, h.tape, h.output, h.size, fun k hk hy => h.block k hk (fun hx => hy (hxy k hk hx))⟩

def Inserted (w : World) (kb : Nat) (l : List Int) (e : Ending) (w' : World) : Prop :=
  ∃ kb' kc', e = .returned (.slice (some ⟨kb', 0, none⟩) l.length kc') ∧ l.length ≤ kc' ∧ (kb' = kb ∨ w.heap.size ≤ kb') ∧ Off (fun b => b = kb) w w' ∧ ∃ G, w'.rowIs kb' 3 kc' G ∧ ∀ j, j < l.length → G j = .int .i64 (l.getD j 0)

theorem ints_get {ks : List Int} {j : Nat} {v : Value} (h : (ks.map (Value.int .i64))[j]? = some v) : j < ks.length ∧ v = .int .i64 (ks.getD j 0) := by
  obtain ⟨hl, hv⟩ := List.getElem?_eq_some_iff.1 h
  have hl' : j < ks.length := by simpa using hl
  refine ⟨hl', ?_⟩
  rw [← hv, List.getElem_map, getD_elem ks 0 hl']

theorem insert1_grow (kb L kc vb i : Nat) (ks : List Int) (ch : Int) (w : World) (hL : ks.length = L) (hi : i < L) (hkc : kc = L) (hsm : L ≤ 1000) (G : Nat → Value) (hG : w.rowIs kb 3 kc G) (hGk : ∀ j, j < L → G j = .int .i64 (ks.getD j 0)) (hv : w.cell? ⟨vb, 0, none⟩ = some (.int .i64 ch)) :
    Calls Try.prog 106 #[.slice (some ⟨kb, 0, none⟩) L kc, .int .i64 i, .slice (some ⟨vb, 0, none⟩) 1 1] w (Inserted w kb (ins ks i ch)) := by
  have h := Any2.slices_Insert_int_grow (P := Try.prog) (ρ := Try.lays21_ren) Try.lays21 kb 0 L kc i vb 0 1 1 (ks.map (Value.int .i64)) [.int .i64 ch] w hi (by omega) (by omega) (by omega) (by omega) (by simpa using hL) rfl
    (fun j v hj => by
      obtain ⟨h1, rfl⟩ := ints_get hj
      rw [Nat.zero_add, hG.cell (by omega), hGk j (by omega)])
    (fun j v hj => by
      match j, hj with
      | 0, hj => simp at hj; subst hj; simpa using hv)
    (fun v hv => by simp at hv; obtain ⟨y, _, rfl⟩ := hv; rfl) (fun v hv => by simp at hv; subst hv; rfl)
  refine Calls.mono (show Calls Try.prog 106 _ _ _ from h) ?_
  rintro e w' ⟨rfl, rfl⟩
  have hcap := grownCap_ge w (L + 1) kc (Try.lays21_ren.t 3)
  have hl := ins_length ks i ch (by omega)
  generalize grownCap w (L + 1) kc (Try.lays21_ren.t 3) = cap at *
  refine ⟨w.heap.size, cap, by rw [hl, hL], by omega, Or.inr (Nat.le_refl _), ?_, ?_⟩
  · refine Off.mono (X := fun b => b = w.heap.size) ?_ (fun k hk e => by omega)
    exact (((Off.of_below ((Below.refl _ _).alloc (Nat.le_refl _) _)).drew.trans (off_setCells (X := fun b => b = w.heap.size) rfl _ _ _)).drew).trans (off_setCells (X := fun b => b = w.heap.size) rfl _ _ _)
  · have hA : (((ks.map (Value.int .i64)).take i).toArray ++ Builtin.zeroCells (Value.int .i64 0).cells (L + 1 - i) ++ Builtin.zeroCells (Value.int .i64 0).cells (cap - (L + 1))).size = cap := by
      simp [size_zeroCells, Value.cells, hL]; omega
    have hlow : ∀ j, j < i → (((ks.map (Value.int .i64)).take i).toArray ++ Builtin.zeroCells (Value.int .i64 0).cells (L + 1 - i) ++ Builtin.zeroCells (Value.int .i64 0).cells (cap - (L + 1)))[j]? = some (.int .i64 (ks.getD j 0)) := fun j hj => by
      have hjk : j < ks.length := by omega
      rw [Array.getElem?_append_left (by simp; omega), Array.getElem?_append_left (by simp; omega)]
      simp [hj, hjk]
    generalize (((ks.map (Value.int .i64)).take i).toArray ++ Builtin.zeroCells (Value.int .i64 0).cells (L + 1 - i) ++ Builtin.zeroCells (Value.int .i64 0).cells (cap - (L + 1))) = A at *
    have hr := World.rowIs_alloc w A 3 (fun j => A[j]?.getD undef) (fun j hj => by simp [hj])
    rw [hA] at hr
    have hr2 := row_setCells [.int .i64 ch] i _ _ hr.drew
    have hr3 := row_setCells ((ks.map (Value.int .i64)).drop i) (i + 1) _ _ hr2.drew
    refine ⟨_, hr3, fun j hj => ?_⟩
    rw [hl, hL] at hj
    have hdl : ((ks.map (Value.int .i64)).drop i).length = L - i := by simp [hL]
    by_cases h1 : i < j
    · rw [if_pos (by rw [hdl]; omega), ins_high ks i j ch (by omega) h1, getD_elem ks 0 (by omega)]
      have : i + (j - (i + 1)) = j - 1 := by omega
      simp [List.getD, this, show j - 1 < ks.length by omega]
    · rw [if_neg (by omega)]
      by_cases h2 : j = i
      · subst h2
        rw [if_pos (by simp), ins_here ks j ch (by omega)]
        simp
      · rw [if_neg (by simp; omega), ins_low ks i j ch (by omega) (by omega), hlow j (by omega)]
        rfl

theorem insert1_end (kb L kc vb : Nat) (ks : List Int) (ch : Int) (w : World) (hL : ks.length = L) (hkc : kc = L) (hsm : L ≤ 1000) (G : Nat → Value) (hG : w.rowIs kb 3 kc G) (hGk : ∀ j, j < L → G j = .int .i64 (ks.getD j 0)) (hv : w.cell? ⟨vb, 0, none⟩ = some (.int .i64 ch)) :
    Calls Try.prog 106 #[.slice (some ⟨kb, 0, none⟩) L kc, .int .i64 L, .slice (some ⟨vb, 0, none⟩) 1 1] w (Inserted w kb (ins ks L ch)) := by
  have h := Any2.slices_Insert_int_end_grow (P := Try.prog) (ρ := Try.lays21_ren) Try.lays21 (some ⟨kb, 0, none⟩) L kc vb 0 1 1 (ks.map (Value.int .i64)) [.int .i64 ch] w (by omega) (by omega) (by omega) (by omega) (by simpa using hL) rfl (fun h => by cases h)
    (fun a ha j v hj => by
      cases ha
      obtain ⟨h1, rfl⟩ := ints_get hj
      rw [Addr.add_lit, Nat.zero_add, hG.cell (by omega), hGk j (by omega)])
    (fun j v hj => by
      match j, hj with
      | 0, hj => simp at hj; subst hj; simpa using hv)
    (fun v hv => by simp at hv; subst hv; rfl)
  refine Calls.mono (show Calls Try.prog 106 _ _ _ from h) ?_
  rintro e w' ⟨rfl, rfl⟩
  have hcap := grownCap_ge w (L + 1) kc (Try.lays21_ren.t 3)
  have hl := ins_length ks L ch (by omega)
  generalize grownCap w (L + 1) kc (Try.lays21_ren.t 3) = cap at *
  refine ⟨w.heap.size, cap, by rw [hl, hL], by omega, Or.inr (Nat.le_refl _), ?_, ?_⟩
  · exact Off.of_below ((Below.refl _ _).drew.alloc (Nat.le_refl _) _)
  · have hA : ((ks.map (Value.int .i64) ++ [Value.int .i64 ch]).toArray ++ Builtin.zeroCells (Value.int .i64 0).cells (cap - (L + 1))).size = cap := by
      simp [size_zeroCells, Value.cells, hL]; omega
    have hlow : ∀ j, j < L + 1 → ((ks.map (Value.int .i64) ++ [Value.int .i64 ch]).toArray ++ Builtin.zeroCells (Value.int .i64 0).cells (cap - (L + 1)))[j]? = some (.int .i64 ((ins ks L ch).getD j 0)) := fun j hj => by
      rw [Array.getElem?_append_left (by simp; omega)]
      by_cases e : j = L
      · rw [e, ins_here ks L ch (by omega), ← hL]
        simp
      · have hjk : j < ks.length := by omega
        rw [ins_low ks L j ch (by omega) (by omega)]
        simp [List.getElem?_append, hjk]
    generalize ((ks.map (Value.int .i64) ++ [Value.int .i64 ch]).toArray ++ Builtin.zeroCells (Value.int .i64 0).cells (cap - (L + 1))) = A at *
    have hr := World.rowIs_alloc w.drew A 3 (fun j => A[j]?.getD undef) (fun j hj => by simp [hj])
    rw [hA] at hr
    refine ⟨_, hr, fun j hj => ?_⟩
    rw [hl, hL] at hj
    rw [hlow j hj]
    rfl
end Go.Proofs.Ytiekhgpnmcffiac
