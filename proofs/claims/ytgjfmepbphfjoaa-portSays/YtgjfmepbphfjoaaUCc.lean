/-
  What brings a place to what is there: the function that copyFrom makes.
-/
import Derived.Test.YtgjfmepbphfjoaaUCb
import Derived.Test.YtgjfmepbphfjoaaUNa
import Derived.Maps.AppendAt
import Derived.Laws.EntriesVeiled
namespace Go.Proofs.Ytgjfmepbphfjoaa
open Go.RowKit Go.ChangeShapes Go.WideShapes

theorem infoIntC : (Try.prog.info? 3).map (fun i => (i.zero, i.size, i.bytes)) = some (some (.int .i64 0), 1, 8) := by kernel_rfl
set_option maxRecDepth 100000 in
theorem zeroIntC (w : World) : (zeroValue 3).run Try.prog w = .ok (.int .i64 0) w := by kernel_rfl

/-- What the map says: of what is there its place. -/
def lk (T : List Int) : Lit → Option Value
  | .int .i64 k => if k ∈ T then some (.int .i64 (at1 T k)) else none
  | _ => none

theorem lk_int (T : List Int) (k : Int) : lk T (.int .i64 k) = if k ∈ T then some (.int .i64 (at1 T k)) else none := rfl
theorem lk_new {T : List Int} {k : Int} (h : k ∉ T) : lk (T ++ [k]) (.int .i64 k) = some (.int .i64 (T.length : Int)) := by
  rw [lk_int, if_pos (by simp), at1_new h]
theorem lk_old {T : List Int} {k : Int} (j : Lit) (h : j ≠ .int .i64 k) : lk (T ++ [k]) j = lk T j := by
  unfold lk
  split
  · rename_i x
    have hne : x ≠ k := fun e => h (by rw [e])
    by_cases hx : x ∈ T
    · rw [if_pos (by simp [hx]), if_pos hx, at1_pre hx]
    · rw [if_neg (by simp [hx, hne]), if_neg hx]
  · rfl

structure BrAt (w : World) (B bm bt mb n : Nat) (v : Value) (T : List Int) : Prop where
  bmE : w.heap[bm]? = some (.cells #[.map (some mb)] 85 (0, 0))
  btE : w.heap[bt]? = some (.cells #[v] 40 (0, 0))
  mp : RawAt Try.prog 3 w mb n (lk T)
  own : w.ownsRow B 3 1 v T.length (T.map (Value.int .i64))

/-- What changes while places are brought: the two boxes' contents, and the row. -/
def BrOff (bt mb : Nat) (v : Value) : Nat → Prop := fun j => j = bt ∨ j = mb ∨ v.ownBlock = some j

structure OffC (X : Nat → Prop) (w w' : World) : Prop where
  os : w'.os = w.os
  tape : w'.tape = w.tape
  output : w'.output = w.output
  size : w.heap.size ≤ w'.heap.size
  block : ∀ k, k < w.heap.size → ¬ X k → w'.heap[k]? = w.heap[k]?

theorem OffC.refl (X : Nat → Prop) (w : World) : OffC X w w := ⟨rfl, rfl, rfl, Nat.le_refl _, fun _ _ _ => rfl⟩
theorem OffC.of_below {X : Nat → Prop} {w w' : World} (h : Below w.heap.size w w') : OffC X w w' := ⟨h.os, h.tape, h.output, h.size, fun k hk _ => h.block k hk⟩
theorem OffC.below {X : Nat → Prop} {w w' : World} (h : OffC X w w') {B : Nat} (hB : B ≤ w.heap.size) (hX : ∀ k, X k → B ≤ k) : Below B w w' :=
  ⟨h.os, h.tape, h.output, h.size, fun k hk => h.block k (by omega) (fun hx => by have := hX k hx; omega)⟩
theorem OffC.cell {X : Nat → Prop} {w w' : World} (h : OffC X w w') {p : Addr} (hp : p.block < w.heap.size) (hx : ¬ X p.block) : w'.cell? p = w.cell? p := by
  unfold World.cell?
  rw [h.block _ hp hx]
/-- One step behind the other; what the second may change the first may, or it was not there. -/
theorem OffC.trans {X Y : Nat → Prop} {a b c : World} (h : OffC X a b) (k : OffC Y b c) (hXY : ∀ j, j < a.heap.size → Y j → X j) : OffC X a c :=
  ⟨k.os.trans h.os, k.tape.trans h.tape, k.output.trans h.output, Nat.le_trans h.size k.size, fun i hi hx => (k.block i (Nat.lt_of_lt_of_le hi h.size) (fun hy => hx (hXY i hi hy))).trans (h.block i hi hx)⟩

/-- The row stays where it is, or lies in a new block. -/
def Later (w : World) (v v' : Value) : Prop := v'.ownBlock = v.ownBlock ∨ ∃ j, v'.ownBlock = some j ∧ w.heap.size ≤ j

theorem intKey {k : Int} (h : (Lit.int .i64 k).wf = true) : keyOf Try.prog 3 (.int .i64 k) = some (.int .i64 k) := Maps.keyOf_int_mk Try.underlying3 h

theorem setCell_off (w : World) (bt o : Nat) (v : Value) {X : Nat → Prop} (hX : X bt) : OffC X w (w.setCell ⟨bt, o, none⟩ v) := ⟨rfl, rfl, rfl, by simp [World.setCell], fun k _ hk => Below.heap_setCell _ _ _ _ (fun e => hk (by rw [e]; exact hX))⟩
theorem grown_off {w w' : World} {r : Option Nat} (h : w.grownBy w' r) {X : Nat → Prop} (hX : ∀ j, r = some j → X j) : OffC X w w' := ⟨h.os, h.tape, h.output, h.size, fun k hk hx => h.block k hk (fun e => hx (hX k e.symm))⟩

set_option maxRecDepth 100000 in
set_option maxHeartbeats 2000000 in
theorem bring_any (B bm bt mb n : Nat) (v : Value) (T : List Int) (k : Int) (w : World) (h : BrAt w B bm bt mb n v T) (hk : (Lit.int .i64 k).wf = true) (hn : n < 100000) (hT : T.length < 100000) (hB : B ≤ w.heap.size) :
    Calls Try.prog 65 #[.int .i64 k, .pointer (some ⟨bm, 0, none⟩), .pointer (some ⟨bt, 0, none⟩)] w fun e w' => ∃ v', e = .returned (.int .i64 (at1 (bring T k) k)) ∧ BrAt w' B bm bt mb (n + 1) v' (bring T k) ∧ Later w v v' ∧ OffC (BrOff bt mb v) w w' := by
  obtain ⟨i0, hi0, hz0, hz1, hz2⟩ := info_parts infoIntC
  have c1 := box_cell h.bmE
  have c2 := box_cell h.btE
  obtain ⟨pa, pc, hv, _⟩ := ints_own h.own
  have hlook := h.mp.look_ok (Maps.int_keyed Try.underlying3) (t := 85) Try.underlying85 (zeroIntC w) (intKey hk) trivial
  by_cases hm : k ∈ T
  · have e1 : lk T (.int .i64 k) = some (.int .i64 (at1 T k)) := by rw [lk_int, if_pos hm]
    have e2 : bring T k = T := by unfold bring; rw [if_pos hm]
    rw [e1] at hlook
    dsimp only [Option.getD, Option.isSome] at hlook
    rw [e2]
    have FIN : Hid (BrAt w B bm bt mb (n + 1) v T) := ⟨h.bmE, h.btE, h.mp.mono (by omega), h.own⟩
    clear h e1 e2
    generalize at1 T k = A at *
    go_enter Try.func65, Try.ntmps65
    go_wp2_with fail
    go_ret
    exact ⟨v, rfl, FIN.out, Or.inl rfl, OffC.refl _ _⟩
  · have e1 : lk T (.int .i64 k) = none := by rw [lk_int, if_neg hm]
    have e2 : bring T k = T ++ [k] := by unfold bring; rw [if_neg hm]
    rw [e1] at hlook
    dsimp only [Option.getD, Option.isSome] at hlook
    rw [e2, at1_new hm]
    have nbm := h.mp.ne h.bmE
    have nbt := h.mp.ne h.btE
    obtain ⟨w1, hput, mk1, gr1⟩ := h.mp.put (Maps.int_keyed Try.underlying3) (t := 85) Try.underlying85 (by unfold maxLen; omega) (intKey hk) trivial (.int .i64 (T.length : Int))
    have MK1 : Hid (RawAt Try.prog 3 w1 mb (n + 1) (lk (T ++ [k]))) := mk1 _ (lk_new hm) (fun j hj => lk_old j hj)
    have x1 : w1.heap[bm]? = some (.cells #[.map (some mb)] 85 (0, 0)) := (gr1.block bm (box_lt h.bmE) (by intro e; exact nbm (Option.some.inj e))).trans h.bmE
    have x2 : w1.heap[bt]? = some (.cells #[v] 40 (0, 0)) := (gr1.block bt (box_lt h.btE) (by intro e; exact nbt (Option.some.inj e))).trans h.btE
    have nrow : ∀ j, v.ownBlock = some j → j ≠ mb ∧ j ≠ bt ∧ j ≠ bm := fun j hj => by
      obtain ⟨_, ho⟩ := h.own
      rcases ho with ⟨rfl, _⟩ | ⟨g, cap, cur, rfl, _, h2, _⟩
      · cases hj
      · cases hj
        refine ⟨h.mp.ne h2, ?_, ?_⟩
        · intro e
          have e : g = bt := e
          rw [e, h.btE] at h2
          cases h2
        · intro e
          have e : g = bm := e
          rw [e, h.bmE] at h2
          cases h2
    have OW : Hid (∀ o1, (w1.alloc o1).ownsRow B 3 1 v T.length (T.map (Value.int .i64))) := fun o1 => owns_block h.own (fun j hj => (Below.heap_alloc _ _ _ (Nat.lt_of_lt_of_le (h.own.lt j hj).2 gr1.size)).trans (gr1.block j (h.own.lt j hj).2 (by intro e; exact (nrow j hj).1 (Option.some.inj e))))
    have NR : Hid (∀ j, v.ownBlock = some j → j ≠ mb ∧ j ≠ bt ∧ j ≠ bm) := nrow
    have X1 : Hid _ := x1
    have X2 : Hid _ := x2
    have G1 : Hid (w.grownBy w1 (some mb)) := gr1
    have LT : Hid (bm < w.heap.size ∧ bt < w.heap.size ∧ mb < w.heap.size) := ⟨box_lt h.bmE, box_lt h.btE, h.mp.lt⟩
    have HNE : Hid (bm ≠ mb ∧ bt ≠ mb ∧ bm ≠ bt) := ⟨nbm, nbt, fun e => by have h1 := h.bmE; rw [e, h.btE] at h1; cases h1⟩
    have y1 := box_cell x1
    have y2 := box_cell x2
    have s1 := gr1.size
    have hsz : bt < w1.heap.size := box_lt x2
    clear h mk1 nrow x1 x2 e1 e2 gr1 hm nbm nbt
    subst hv
    obtain ⟨l, hl⟩ : ∃ z, T.length = z := ⟨_, rfl⟩
    have HL : Hid (T.length = l) := hl
    rw [hl] at OW hput hT y2 X2 NR c2 ⊢
    clear hl
    go_enter Try.func65, Try.ntmps65
    go_wp2_with (at_builtin; refine wpList_append_own_at _ rfl _ _ 40 rfl B 3 i0 (.int .i64 0) 1 8 Try.underlying40 hi0 hz0 hz1 hz2 rfl (by decide) (.slice pa l pc) l (T.map (Value.int .i64)) rfl ?how ⟨w1.heap.size, 0, none⟩ 1 1 [.int .i64 k] rfl rfl ?c1 ?c2 ?c3 ?c4 ?c5 ?_)
    case how => exact OW.out _
    case c1 => exact cell_one_new _ _ _
    case c2 => intro u hu; simp at hu; subst hu; rfl
    case c3 => unfold maxLen; omega
    case c4 => omega
    case c5 => simp; omega
    intro v2 w2 own2 grow2 _ hat
    have e6 : (T ++ [k]).map (Value.int .i64) = T.map (Value.int .i64) ++ [.int .i64 k] := by simp
    rw [← e6] at own2
    obtain ⟨na, nc, hv2, _⟩ := ints_own own2
    have e5 : (T ++ [k]).length = l + 1 := by simp [HL.out]
    rw [e5] at hv2
    subst hv2
    have b2 : w2.heap[bt]? = some (.cells #[.slice pa l pc] 40 (0, 0)) := (grow2.block bt (by simp; omega) (by intro e; exact (NR.out bt e.symm).2.1 rfl)).trans ((Below.heap_alloc _ _ _ hsz).trans X2.out)
    have y3 := box_cell b2
    have y4 := box_frozen (o := 0) b2
    have s2 := grow2.size
    simp only [World.size_alloc] at s2
    have z2 : bt < w2.heap.size := by omega
    have FIN : Hid (BrAt (w2.setCell ⟨bt, 0, none⟩ (.slice na (l + 1) nc)) B bm bt mb (n + 1) (.slice na (l + 1) nc) (T ++ [k])) := by
      have kp : ∀ j, j < w1.heap.size → (Value.slice pa l pc).ownBlock ≠ some j → j ≠ bt → (w2.setCell ⟨bt, 0, none⟩ (.slice na (l + 1) nc)).heap[j]? = w1.heap[j]? := fun j h1 h2 h3 =>
        (Below.heap_setCell _ _ _ _ h3).trans ((grow2.block j (by simp; omega) (fun e => h2 e.symm)).trans (Below.heap_alloc _ _ _ h1))
      have ob := own2.lt
      refine ⟨(kp bm (by have := LT.out.1; omega) (fun e => (NR.out bm e).2.2 rfl) HNE.out.2.2).trans X1.out, box_set b2, MK1.out.kept (kp mb (by have := LT.out.2.2; omega) (fun e => (NR.out mb e).1 rfl) (fun e => HNE.out.2.1 e.symm)), ?_⟩
      rw [e5]
      refine owns_block own2 (fun j hj => Below.heap_setCell _ _ _ _ ?_)
      intro e
      have e : j = bt := e
      subst e
      rcases hat with h1 | h1
      · rw [h1] at hj
        exact (NR.out j hj).2.1 rfl
      · rw [h1] at hj
        have := Option.some.inj hj
        first | omega | (simp only [World.size_alloc] at this; omega)
    have LAT : Hid (Later w (.slice pa l pc) (.slice na (l + 1) nc)) := by
      rcases hat with h1 | h1
      · exact Or.inl h1
      · exact Or.inr ⟨_, h1, by first | omega | (simp; omega)⟩
    have OFF : Hid (OffC (BrOff bt mb (.slice pa l pc)) w (w2.setCell ⟨bt, 0, none⟩ (.slice na (l + 1) nc))) := by
      refine OffC.trans (Y := BrOff bt mb (.slice pa l pc)) (grown_off G1.out (fun j e => Or.inr (Or.inl (Option.some.inj e).symm))) ?_ (fun _ _ h => h)
      have g2 : OffC (BrOff bt mb (.slice pa l pc)) _ w2 := grown_off grow2 (fun j e => Or.inr (Or.inr e))
      have g3 := OffC.trans (X := BrOff bt mb (.slice pa l pc)) (Y := BrOff bt mb (.slice pa l pc)) (OffC.of_below (one_belowS w1 _)) g2 (fun _ _ h => h)
      exact OffC.trans (Y := BrOff bt mb (.slice pa l pc)) g3 (setCell_off _ _ _ _ (Or.inl rfl)) (fun _ _ h => h)
    clear own2 grow2 hat b2 e5 e6
    go_wp2_with fail
    go_ret
    exact ⟨_, rfl, FIN.out, LAT.out, OFF.out⟩
end Go.Proofs.Ytgjfmepbphfjoaa
