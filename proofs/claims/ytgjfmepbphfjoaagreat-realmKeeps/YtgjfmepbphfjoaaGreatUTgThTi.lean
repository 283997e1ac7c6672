/-
  slices.Insert of one number into a row of the call's own, wherever, with room or without.
-/
import Derived.Test.YtgjfmepbphfjoaaGreatUTdTeSo
import Derived.Test.YtgjfmepbphfjoaaGreatUTbTcTfSn
import Derived.Test.YtgjfmepbphfjoaaGreatUSmBoSpLay
namespace Go.Proofs.YtgjfmepbphfjoaaGreat
open Go.RowKit

/-- The list with one more ahead of place i. -/
def ins (ks : List Int) (i : Nat) (c : Int) : List Int := ks.take i ++ c :: ks.drop i

theorem ins_length (ks : List Int) (i : Nat) (c : Int) (h : i ≤ ks.length) : (ins ks i c).length = ks.length + 1 := by
  simp [ins]; omega
theorem ins_low (ks : List Int) (i j : Nat) (c : Int) (h : i ≤ ks.length) (hj : j < i) : (ins ks i c).getD j 0 = ks.getD j 0 := by
  simp [ins, List.getD, List.getElem?_append, hj]
  rw [if_pos (by omega)]
theorem ins_here (ks : List Int) (i : Nat) (c : Int) (h : i ≤ ks.length) : (ins ks i c).getD i 0 = c := by
  simp [ins, List.getD, Nat.min_eq_left h]
theorem ins_high (ks : List Int) (i j : Nat) (c : Int) (h : i ≤ ks.length) (hj : i < j) : (ins ks i c).getD j 0 = ks.getD (j - 1) 0 := by
  have e : j - i = (j - 1 - i) + 1 := by omega
  simp [ins, List.getD, List.getElem?_append, Nat.min_eq_left h]
  rw [if_neg (by omega), e, List.getElem?_cons_succ, List.getElem?_drop, show i + (j - 1 - i) = j - 1 by omega]

theorem row_setCells {b t n : Nat} : ∀ (vs : List Value) (o : Nat) (w : World) (F : Nat → Value), w.rowIs b t n F → (w.setCells b o vs).rowIs b t n (fun j => if o ≤ j ∧ j < o + vs.length then vs.getD (j - o) undef else F j)
  | [], o, w, F, h => h.congr (fun j _ => by rw [if_neg]; simp)
  | v :: r, o, w, F, h => by
    refine (row_setCells r (o + 1) (w.setCell ⟨b, o, none⟩ v) _ (h.set o v)).congr (fun j _ => ?_)
    by_cases e : j = o
    · subst e
      rw [if_neg (by omega), if_pos rfl, if_pos (by simp)]
      simp
    · by_cases e2 : o + 1 ≤ j ∧ j < o + 1 + r.length
      · rw [if_pos e2, if_pos (by simp; omega), show j - o = (j - (o + 1)) + 1 by omega]
        simp
      · rw [if_neg e2, if_neg e, if_neg (by simp; omega)]

theorem off_setCells {X : Nat → Prop} {b : Nat} (hX : X b) : ∀ (vs : List Value) (o : Nat) (w : World), Off X w (w.setCells b o vs)
  | [], _, w => Off.refl _ w
  | v :: r, o, w => by
    have step : Off X w (w.setCell ⟨b, o, none⟩ v) := ⟨rfl, rfl, rfl, by simp, fun k _ hx => Below.heap_setCell w ⟨b, o, none⟩ v k (fun e => hx (by rw [e]; exact hX))⟩
    exact step.trans (off_setCells hX r (o + 1) (w.setCell ⟨b, o, none⟩ v))

theorem Off.drew {X : Nat → Prop} {w w' : World} (h : Off X w w') : Off X w w'.drew := ⟨h.os, h.tape, h.output, h.size, h.block⟩
theorem Off.mono {X Y : Nat → Prop} {w w' : World} (h : Off X w w') (hxy : ∀ k, k < w.heap.size → X k → Y k) : Off Y w w' := ⟨h.os, h.tape, h.output, h.size, fun k hk hy => h.block k hk (fun hx => hy (hxy k hk hx))⟩

def Inserted (w : World) (kb : Nat) (l : List Int) (e : Ending) (w' : World) : Prop :=
  ∃ kb' kc', e = .returned (.slice (some ⟨kb', 0, none⟩) l.length kc') ∧ l.length ≤ kc' ∧ (kb' = kb ∨ w.heap.size ≤ kb') ∧ Off (fun b => b = kb) w w' ∧ ∃ G, w'.rowIs kb' 3 kc' G ∧ ∀ j, j < l.length → G j = .int .i64 (l.getD j 0)

theorem ints_get {ks : List Int} {j : Nat} {v : Value} (h : (ks.map (Value.int .i64))[j]? = some v) : j < ks.length ∧ v = .int .i64 (ks.getD j 0) := by
  obtain ⟨hl, hv⟩ := List.getElem?_eq_some_iff.1 h
  have hl' : j < ks.length := by simpa using hl
  refine ⟨hl', ?_⟩
  rw [← hv, List.getElem_map, getD_elem ks 0 hl']

theorem insert1_grow (kb L kc vb i : Nat) (ks : List Int) (ch : Int) (w : World) (hL : ks.length = L) (hi : i < L) (hkc : kc = L) (hsm : L ≤ 1000) (G : Nat → Value) (hG : w.rowIs kb 3 kc G) (hGk : ∀ j, j < L → G j = .int .i64 (ks.getD j 0)) (hv : w.cell? ⟨vb, 0, none⟩ = some (.int .i64 ch)) :
    Calls Tryz.prog 145 #[.slice (some ⟨kb, 0, none⟩) L kc, .int .i64 i, .slice (some ⟨vb, 0, none⟩) 1 1] w (Inserted w kb (ins ks i ch)) := by
  have h := Any2.slices_Insert_int_grow (P := Tryz.prog) (ρ := Tryz.lays21_ren) Tryz.lays21 kb 0 L kc i vb 0 1 1 (ks.map (Value.int .i64)) [.int .i64 ch] w hi (by omega) (by omega) (by omega) (by omega) (by simpa using hL) rfl
    (fun j v hj => by
      obtain ⟨h1, rfl⟩ := ints_get hj
      rw [Nat.zero_add, hG.cell (by omega), hGk j (by omega)])
    (fun j v hj => by
      match j, hj with
      | 0, hj => simp at hj; subst hj; simpa using hv)
    (fun v hv => by simp at hv; obtain ⟨y, _, rfl⟩ := hv; rfl) (fun v hv => by simp at hv; subst hv; rfl)
  refine Calls.mono (show Calls Tryz.prog 145 _ _ _ from h) ?_
  rintro e w' ⟨rfl, rfl⟩
  have hcap := grownCap_ge w (L + 1) kc (Tryz.lays21_ren.t 3)
  have hl := ins_length ks i ch (by omega)
  generalize grownCap w (L + 1) kc (Tryz.lays21_ren.t 3) = cap at *
  refine ⟨w.heap.size, cap, by rw [hl, hL], by omega, Or.inr (Nat.le_refl _), ?_, ?_⟩
  · refine Off.mono (X := fun b => b = w.heap.size) ?_ (fun k hk e => by omega)
    exact (((Off.of_below ((Below.refl _ _).alloc (Nat.le_refl _) _)).drew.trans (off_setCells (X := fun b => b = w.heap.size) rfl _ _ _)).drew).trans (off_setCells (X := fun b => b = w.heap.size) rfl _ _ _)
  · have hA : (((ks.map (Value.int .i64)).take i).toArray ++ Builtin.zeroCells (Value.int .i64 0).cells (L + 1 - i) ++ Builtin.zeroCells (Value.int .i64 0).cells (cap - (L + 1))).size = cap := by
      simp [size_zeroCells, Value.cells, hL]; omega
    have hlow : ∀ j, j < i → (((ks.map (Value.int .i64)).take i).toArray ++ Builtin.zeroCells (Value.int .i64 0).cells (L + 1 - i) ++ Builtin.zeroCells (Value.int .i64 0).cells (cap - (L + 1)))[j]? = some (.int .i64 (ks.getD j 0)) := fun j hj => by
      have hjk : j < ks.length := by omega
      rw [Array.getElem?_append_left (by simp; omega), Array.getElem?_append_left (by simp; omega)]
      simp [hj, hjk]
    generalize (((ks.map (Value.int .i64)).take i).toArray ++ Builtin.zeroCells (Value.int .i64 0).cells (L + 1 - i) ++ Builtin.zeroCells (Value.int .i64 0).cells (cap - (L + 1))) = A at *
    have hr := World.rowIs_alloc w A 3 (fun j => A[j]?.getD undef) (fun j hj => by simp [hj])
    rw [hA] at hr
    have hr2 := row_setCells [.int .i64 ch] i _ _ hr.drew
    have hr3 := row_setCells ((ks.map (Value.int .i64)).drop i) (i + 1) _ _ hr2.drew
    refine ⟨_, hr3, fun j hj => ?_⟩
    rw [hl, hL] at hj
    have hdl : ((ks.map (Value.int .i64)).drop i).length = L - i := by simp [hL]
    by_cases h1 : i < j
    · rw [if_pos (by rw [hdl]; omega), ins_high ks i j ch (by omega) h1, getD_elem ks 0 (by omega)]
      have : i + (j - (i + 1)) = j - 1 := by omega
      simp [List.getD, this, show j - 1 < ks.length by omega]
    · rw [if_neg (by omega)]
      by_cases h2 : j = i
      · subst h2
        rw [if_pos (by simp), ins_here ks j ch (by omega)]
        simp
      · rw [if_neg (by simp; omega), ins_low ks i j ch (by omega) (by omega), hlow j (by omega)]
        rfl

theorem insert1_end (kb L kc vb : Nat) (ks : List Int) (ch : Int) (w : World) (hL : ks.length = L) (hkc : kc = L) (hsm : L ≤ 1000) (G : Nat → Value) (hG : w.rowIs kb 3 kc G) (hGk : ∀ j, j < L → G j = .int .i64 (ks.getD j 0)) (hv : w.cell? ⟨vb, 0, none⟩ = some (.int .i64 ch)) :
    Calls Tryz.prog 145 #[.slice (some ⟨kb, 0, none⟩) L kc, .int .i64 L, .slice (some ⟨vb, 0, none⟩) 1 1] w (Inserted w kb (ins ks L ch)) := by
  have h := Any2.slices_Insert_int_end_grow (P := Tryz.prog) (ρ := Tryz.lays21_ren) Tryz.lays21 (some ⟨kb, 0, none⟩) L kc vb 0 1 1 (ks.map (Value.int .i64)) [.int .i64 ch] w (by omega) (by omega) (by omega) (by omega) (by simpa using hL) rfl (fun h => by cases h)
    (fun a ha j v hj => by
      cases ha
      obtain ⟨h1, rfl⟩ := ints_get hj
      rw [Addr.add_lit, Nat.zero_add, hG.cell (by omega), hGk j (by omega)])
    (fun j v hj => by
      match j, hj with
      | 0, hj => simp at hj; subst hj; simpa using hv)
    (fun v hv => by simp at hv; subst hv; rfl)
  refine Calls.mono (show Calls Tryz.prog 145 _ _ _ from h) ?_
  rintro e w' ⟨rfl, rfl⟩
  have hcap := grownCap_ge w (L + 1) kc (Tryz.lays21_ren.t 3)
  have hl := ins_length ks L ch (by omega)
  generalize grownCap w (L + 1) kc (Tryz.lays21_ren.t 3) = cap at *
  refine ⟨w.heap.size, cap, by rw [hl, hL], by omega, Or.inr (Nat.le_refl _), ?_, ?_⟩
  · exact Off.of_below ((Below.refl _ _).drew.alloc (Nat.le_refl _) _)
  · have hA : ((ks.map (Value.int .i64) ++ [Value.int .i64 ch]).toArray ++ Builtin.zeroCells (Value.int .i64 0).cells (cap - (L + 1))).size = cap := by
      simp [size_zeroCells, Value.cells, hL]; omega
    have hlow : ∀ j, j < L + 1 → ((ks.map (Value.int .i64) ++ [Value.int .i64 ch]).toArray ++ Builtin.zeroCells (Value.int .i64 0).cells (cap - (L + 1)))[j]? = some (.int .i64 ((ins ks L ch).getD j 0)) := fun j hj => by
      rw [Array.getElem?_append_left (by simp; omega)]
      by_cases e : j = L
      · rw [e, ins_here ks L ch (by omega), ← hL]
        simp
      · have hjk : j < ks.length := by omega
        rw [ins_low ks L j ch (by omega) (by omega)]
        simp [List.getElem?_append, hjk]
    generalize ((ks.map (Value.int .i64) ++ [Value.int .i64 ch]).toArray ++ Builtin.zeroCells (Value.int .i64 0).cells (cap - (L + 1))) = A at *
    have hr := World.rowIs_alloc w.drew A 3 (fun j => A[j]?.getD undef) (fun j hj => by simp [hj])
    rw [hA] at hr
    refine ⟨_, hr, fun j hj => ?_⟩
    rw [hl, hL] at hj
    rw [hlow j hj]
    rfl
end Go.Proofs.YtgjfmepbphfjoaaGreat

namespace Go.Proofs.YtgjfmepbphfjoaaGreat
open Go.RowKit

theorem insert1_room (kb L kc vb : Nat) (ks : List Int) (ch : Int) (w : World) (hL : ks.length = L) (hkc : L + 1 ≤ kc) (hsm : kc ≤ 1000000000) (G : Nat → Value) (hG : w.rowIs kb 3 kc G) (hGk : ∀ j, j < L → G j = .int .i64 (ks.getD j 0)) (hv : w.cell? ⟨vb, 0, none⟩ = some (.int .i64 ch)) :
    Calls Tryz.prog 145 #[.slice (some ⟨kb, 0, none⟩) L kc, .int .i64 L, .slice (some ⟨vb, 0, none⟩) 1 1] w (Inserted w kb (ins ks L ch)) := by
  have h := Any2.slices_Insert_int_end_room (P := Tryz.prog) (ρ := Tryz.lays21_ren) Tryz.lays21 kb 0 L kc vb 0 1 1 [.int .i64 ch] w (by omega) (by omega) (by omega) rfl
    (fun j hj => by rw [hG.cell (by omega)]; rfl) (fun j _ => hG.frozen _)
    (fun j v hj => by
      match j, hj with
      | 0, hj => simp at hj; subst hj; simpa using hv)
    (fun v hv => by simp at hv; subst hv; rfl)
  refine Calls.mono (show Calls Tryz.prog 145 _ _ _ from h) ?_
  rintro e w' ⟨rfl, rfl⟩
  have hl := ins_length ks L ch (by omega)
  refine ⟨kb, kc, by rw [hl, hL], by omega, Or.inl rfl, off_setCells (X := fun b => b = kb) rfl _ _ _, _, row_setCells _ _ _ _ hG, fun j hj => ?_⟩
  rw [hl, hL] at hj
  by_cases e : j = L
  · rw [if_pos (by simp; omega), e, ins_here ks L ch (by omega)]
    simp
  · rw [if_neg (by simp; omega), ins_low ks L j ch (by omega) (by omega), hGk j (by omega)]

theorem insert1_shift (kb L kc vb i : Nat) (ks : List Int) (ch : Int) (w : World) (hL : ks.length = L) (hi : i < L) (hkc : L + 1 ≤ kc) (hsm : kc ≤ 1000000000) (G : Nat → Value) (hG : w.rowIs kb 3 kc G) (hGk : ∀ j, j < L → G j = .int .i64 (ks.getD j 0)) (hvb : vb ≠ kb) (hv : w.heap[vb]? = some (.cells #[.int .i64 ch] 3 (0, 0))) :
    Calls Tryz.prog 145 #[.slice (some ⟨kb, 0, none⟩) L kc, .int .i64 i, .slice (some ⟨vb, 0, none⟩) 1 1] w (Inserted w kb (ins ks i ch)) := by
  have hvc : w.cell? ⟨vb, 0, none⟩ = some (.int .i64 ch) := by simp [World.cell?, hv]
  have hvf : ∀ o, w.frozen? ⟨vb, o, none⟩ = false := fun o => by simp [World.frozen?, hv]
  have hsb : w.shape? kb = some (3, kc) := by
    obtain ⟨c, hc, hs, _⟩ := hG
    simp [World.shape?, hc, hs]
  have h := Any2.slices_Insert_int_shift (P := Tryz.prog) (ρ := Tryz.lays21_ren) Tryz.lays21 kb 0 L kc i vb 0 1 1 (ks.map (Value.int .i64)) [.int .i64 ch] w hi (by omega) (by omega) (by omega) hvb (by simpa using hL) rfl
    (fun j v hj => by
      obtain ⟨h1, rfl⟩ := ints_get hj
      rw [Nat.zero_add, hG.cell (by omega), hGk j (by omega)])
    (fun j hj => by rw [hG.cell (by omega)]; rfl) (fun j _ => hG.frozen _)
    (fun j v hj => by
      match j, hj with
      | 0, hj => simp at hj; subst hj; simpa using hvc)
    (fun v hv => by simp at hv; obtain ⟨y, _, rfl⟩ := hv; rfl) (fun v hv => by simp at hv; subst hv; rfl)
    3 3 1 kc (by simp [World.shape?, hv]) hsb (by omega) (hvf _) (hvf _)
  refine Calls.mono (show Calls Tryz.prog 145 _ _ _ from h) ?_
  rintro e w' ⟨rfl, rfl⟩
  have hl := ins_length ks i ch (by omega)
  refine ⟨kb, kc, by rw [hl, hL], by omega, Or.inl rfl, (Off.refl _ _).drew.trans ((off_setCells (X := fun b => b = kb) rfl _ _ _).trans (off_setCells (X := fun b => b = kb) rfl _ _ _)), _, row_setCells _ _ _ _ (row_setCells _ _ _ _ hG.drew), fun j hj => ?_⟩
  rw [hl, hL] at hj
  have hdl : ((ks.map (Value.int .i64)).drop i).length = L - i := by simp [hL]
  by_cases h2 : j = i
  · subst h2
    rw [if_pos (by simp), ins_here ks j ch (by omega)]
    simp
  · rw [if_neg (by simp; omega)]
    by_cases h1 : i < j
    · rw [if_pos (by rw [hdl]; omega), ins_high ks i j ch (by omega) h1, getD_elem ks 0 (by omega)]
      simp [List.getD]
      rw [show i + (j - (i + 1)) = j - 1 by omega]
      simp [show j - 1 < ks.length by omega]
    · rw [if_neg (by omega), ins_low ks i j ch (by omega) (by omega), hGk j (by omega)]

theorem insert1_any (kb L kc vb i : Nat) (ks : List Int) (ch : Int) (w : World) (hL : ks.length = L) (hi : i ≤ L) (hkc : L ≤ kc) (hsm : kc ≤ 1000) (G : Nat → Value) (hG : w.rowIs kb 3 kc G) (hGk : ∀ j, j < L → G j = .int .i64 (ks.getD j 0)) (hvb : vb ≠ kb) (hv : w.heap[vb]? = some (.cells #[.int .i64 ch] 3 (0, 0))) :
    Calls Tryz.prog 145 #[.slice (some ⟨kb, 0, none⟩) L kc, .int .i64 i, .slice (some ⟨vb, 0, none⟩) 1 1] w (Inserted w kb (ins ks i ch)) := by
  have hvc : w.cell? ⟨vb, 0, none⟩ = some (.int .i64 ch) := by simp [World.cell?, hv]
  by_cases h1 : i = L
  · subst h1
    by_cases h2 : kc = i
    · exact insert1_end kb i kc vb ks ch w hL h2 (by omega) G hG hGk hvc
    · exact insert1_room kb i kc vb ks ch w hL (by omega) (by omega) G hG hGk hvc
  · by_cases h2 : kc = L
    · exact insert1_grow kb L kc vb i ks ch w hL (by omega) h2 (by omega) G hG hGk hvc
    · exact insert1_shift kb L kc vb i ks ch w hL (by omega) (by omega) (by omega) G hG hGk hvb hv
end Go.Proofs.YtgjfmepbphfjoaaGreat

namespace Go.Proofs.YtgjfmepbphfjoaaGreat
open Go.RowKit

theorem nds_of_row {w : World} {g : Nat} {S : List Nd} {F : Nat → Value} (hF : w.rowIs g 47 (S.length * 8) F)
    (h : ∀ i, i < S.length → F (i * 8) = .bool (nd S i).u ∧ F (i * 8 + 1) = .int .i64 (nd S i).n ∧ F (i * 8 + 2) = .int .i64 (nd S i).t ∧ F (i * 8 + 3) = .int .i64 (nd S i).m ∧ F (i * 8 + 4) = .int .i64 (nd S i).p ∧ (∃ ka kc, F (i * 8 + 5) = .slice ka (nd S i).ks.length kc ∧ IntsAt w ka (nd S i).ks) ∧ F (i * 8 + 6) = .int .i64 (nd S i).h ∧ F (i * 8 + 7) = .bool (nd S i).c) :
    NdsAt w (some ⟨g, 0, none⟩) S := fun i hi => by
  obtain ⟨e0, e1, e2, e3, e4, ⟨ka, kc, e5, hk⟩, e6, e7⟩ := h i hi
  refine ⟨g, 0, rfl, ?_⟩
  rw [Nat.zero_add]
  refine ⟨?_, ?_, ?_, ?_, ?_, ⟨ka, kc, ?_, hk⟩, ?_, ?_⟩
  · rw [hF.cell (by omega), e0]
  · rw [hF.cell (by omega), e1]
  · rw [hF.cell (by omega), e2]
  · rw [hF.cell (by omega), e3]
  · rw [hF.cell (by omega), e4]
  · rw [hF.cell (by omega), e5]
  · rw [hF.cell (by omega), e6]
  · rw [hF.cell (by omega), e7]

theorem ints_of_row {w : World} {kb kc : Nat} {ks : List Int} {G : Nat → Value} (hG : w.rowIs kb 3 kc G) (hl : ks.length ≤ kc) (h : ∀ j, j < ks.length → G j = .int .i64 (ks.getD j 0)) : IntsAt w (some ⟨kb, 0, none⟩) ks := fun j hj =>
  ⟨kb, 0, rfl, by rw [Nat.zero_add, hG.cell (by omega), h j hj]⟩

def enterNd (S : List Nd) (pa ch i : Nat) (j : Nat) : Nd :=
  if j = ch then ⟨(nd S ch).u, (nd S ch).n, (nd S ch).t, (nd S ch).m, pa, (nd S ch).ks, (nd S ch).h, (nd S ch).c⟩
  else if j = pa then ⟨(nd S pa).u, (nd S pa).n, (nd S pa).t, (nd S pa).m, (nd S pa).p, ins (nd S pa).ks i ch, (nd S pa).h, (nd S pa).c⟩
  else nd S j

/-- The store with ch among pa's children, ahead of place i. -/
def enterS (S : List Nd) (pa ch i : Nat) : List Nd := (List.range S.length).map (enterNd S pa ch i)

theorem enterS_length (S : List Nd) (pa ch i : Nat) : (enterS S pa ch i).length = S.length := by simp [enterS]
theorem nd_enterS (S : List Nd) (pa ch i j : Nat) (hj : j < S.length) : nd (enterS S pa ch i) j = enterNd S pa ch i j := by
  rw [nd_elem (by rw [enterS_length]; exact hj)]
  simp [enterS]

/-- Where in the children the node is put. -/
def atS (ks : List Int) : List (Int × Int) → Int
  | [] => ks.length
  | h :: _ => idx ks h.1

/-- What lies behind: the row turned in two cells. -/
theorem enter_after {w w2 : World} {B g : Nat} {S : List Nd} {kb kc : Nat → Nat} (hO : Own w B g S kb kc S.length) {W : World} (hb : Below w.heap.size w W) {pa ch i kb' kc' : Nat} (hpa : pa < S.length) (hch : ch < S.length) (hne : pa ≠ ch)
    (hi : i ≤ (nd S pa).ks.length) (hkb : kb' = kb pa ∨ W.heap.size ≤ kb') (hoff : Off (fun b => b = kb pa) W w2) {G : Nat → Value} (hG : w2.rowIs kb' 3 kc' G) (hkc : (ins (nd S pa).ks i ch).length ≤ kc') (hGk : ∀ j, j < (ins (nd S pa).ks i ch).length → G j = .int .i64 ((ins (nd S pa).ks i ch).getD j 0)) :
    ∀ w3 : World, (∀ b, g ≤ b → w3.heap[b]? = ((w2.setCell ⟨g, pa * 8 + 5, none⟩ (.slice (some ⟨kb', 0, none⟩) (ins (nd S pa).ks i ch).length kc')).setCell ⟨g, ch * 8 + 4, none⟩ (.int .i64 pa)).heap[b]?) → NdsAt w3 (some ⟨g, 0, none⟩) (enterS S pa ch i) := by
  intro w3 hup
  obtain ⟨_, F, hF, hN, hg, hd⟩ := hO
  have hgl := hF.lt
  have hW : ∀ b, b < w.heap.size → b ≠ kb pa → w2.heap[b]? = w.heap[b]? := fun b h1 h2 => (hoff.block b (Nat.lt_of_lt_of_le h1 hb.size) h2).trans (hb.block b h1)
  have hgk : g ≠ kb pa := by have := hg pa hpa; omega
  have hF2 := (((hF.of_block (hW g hgl hgk)).set (pa * 8 + 5) (.slice (some ⟨kb', 0, none⟩) (ins (nd S pa).ks i ch).length kc')).set (ch * 8 + 4) (.int .i64 pa)).of_block (hup g (Nat.le_refl _))
  have hkb'g : kb' ≠ g := by
    rcases hkb with h | h
    · rw [h]; exact fun e => hgk e.symm
    · have := hb.size; omega
  have hkb'2 : g ≤ kb' := by
    rcases hkb with h | h
    · rw [h]; exact Nat.le_of_lt (hg pa hpa)
    · have := hb.size; omega
  rw [← enterS_length S pa ch i] at hF2
  refine nds_of_row hF2 (fun j hj => ?_)
  rw [enterS_length] at hj
  rw [nd_enterS S pa ch i j hj]
  obtain ⟨e0, e1, e2, e3, e4, e5, e6, e7, e8, e8b, G0, hG0, e9⟩ := hN j hj
  unfold enterNd
  by_cases h1 : j = ch
  · subst h1
    rw [if_pos rfl]
    have hr : w3.rowIs (kb j) 3 (kc j) G0 :=
      (((hG0.of_block (hW (kb j) hG0.lt (fun e => hne (hd pa hpa j hj e.symm)))).setOther (by have := hg j hj; simp; omega) _).setOther (by have := hg j hj; simp; omega) _).of_block (hup (kb j) (Nat.le_of_lt (hg j hj)))
    refine ⟨?_, ?_, ?_, ?_, ?_, ⟨some ⟨kb j, 0, none⟩, kc j, ?_, ints_of_row hr e8 e9⟩, ?_, ?_⟩
    all_goals dsimp only
    · rw [if_neg (by omega), if_neg (by omega), e0]
    · rw [if_neg (by omega), if_neg (by omega), e1]
    · rw [if_neg (by omega), if_neg (by omega), e2]
    · rw [if_neg (by omega), if_neg (by omega), e3]
    · rw [if_pos rfl]
    · rw [if_neg (by omega), if_neg (by omega), e5]
    · rw [if_neg (by omega), if_neg (by omega), e6]
    · rw [if_neg (by omega), if_neg (by omega), e7]
  · rw [if_neg h1]
    by_cases h2 : j = pa
    · subst h2
      rw [if_pos rfl]
      have hr := ((hG.setOther (a := ⟨g, j * 8 + 5, none⟩) (by simp; omega) (.slice (some ⟨kb', 0, none⟩) (ins (nd S j).ks i ch).length kc')).setOther (a := ⟨g, ch * 8 + 4, none⟩) (by simp; omega) (.int .i64 j)).of_block (hup kb' hkb'2)
      refine ⟨?_, ?_, ?_, ?_, ?_, ⟨some ⟨kb', 0, none⟩, kc', ?_, ints_of_row hr hkc hGk⟩, ?_, ?_⟩
      all_goals dsimp only
      · rw [if_neg (by omega), if_neg (by omega), e0]
      · rw [if_neg (by omega), if_neg (by omega), e1]
      · rw [if_neg (by omega), if_neg (by omega), e2]
      · rw [if_neg (by omega), if_neg (by omega), e3]
      · rw [if_neg (by omega), if_neg (by omega), e4]
      · rw [if_neg (by omega), if_pos rfl]
      · rw [if_neg (by omega), if_neg (by omega), e6]
      · rw [if_neg (by omega), if_neg (by omega), e7]
    · rw [if_neg h2]
      have hr : w3.rowIs (kb j) 3 (kc j) G0 :=
        (((hG0.of_block (hW (kb j) hG0.lt (fun e => h2 (hd j hj pa hpa e)))).setOther (by have := hg j hj; simp; omega) _).setOther (by have := hg j hj; simp; omega) _).of_block (hup (kb j) (Nat.le_of_lt (hg j hj)))
      refine ⟨?_, ?_, ?_, ?_, ?_, ⟨some ⟨kb j, 0, none⟩, kc j, ?_, ints_of_row hr e8 e9⟩, ?_, ?_⟩
      all_goals
        rw [if_neg (by omega), if_neg (by omega)]
        assumption
end Go.Proofs.YtgjfmepbphfjoaaGreat
