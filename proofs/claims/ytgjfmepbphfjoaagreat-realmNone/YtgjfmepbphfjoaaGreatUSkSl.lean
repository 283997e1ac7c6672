/-
  The contracts of Holds and of tree.check: a store, and hands on its nodes.
-/
import Derived.Test.YtgjfmepbphfjoaaGreatUShSiSj
import Derived.Laws.AppendOwn
namespace Go.Proofs.YtgjfmepbphfjoaaGreat
open Go.RowKit

def holdX (x : Nd) (u : Int) : Int := if decide (1 ≤ u ∧ u ≤ x.n) then (if x.u then (if x.n = u then 0 else 5) else 5) else 4
def holdsE (S : List Nd) (p u : Int) : Int := if isPl S.length p then holdX (nd S p.toNat) u else 4

theorem holds_low {w w1 : World} {v : Value} {p u : Int} (hb : Below (w.heap.size + 1 + 1) ((w.alloc (.cells #[v] 24)).alloc (.cells #[.int .i64 p, .int .i64 u] 39)) w1) :
    w1.cell? ⟨w.heap.size, 0, none⟩ = some v ∧ w1.cell? ⟨w.heap.size + 1, 0, none⟩ = some (.int .i64 p) ∧ w1.cell? ⟨w.heap.size + 1, 1, none⟩ = some (.int .i64 u) ∧ Below w.heap.size w w1 :=
  ⟨(hb.cell (by simp; omega)).trans (by go_simp), (hb.cell (by simp)).trans (by go_simp), (hb.cell (by simp)).trans (by go_simp), (((Below.refl _ _).alloc (Nat.le_refl _) _).alloc (by simp) _).trans (hb.mono (by omega))⟩

set_option maxHeartbeats 2000000 in
theorem holds_any (a : Option Addr) (c : Nat) (S : List Nd) (p u : Int) (w : World) (hN : S.length ≤ 9223372036854775807) (hS : NdsAt w a S) :
    Calls Tryz.prog 25 #[.agg #[.slice a S.length c], .agg #[.int .i64 p, .int .i64 u]] w fun e w' => e = .returned (.int .i64 (holdsE S p u)) ∧ Below w.heap.size w w' := by
  unfold holdsE
  have d1 := fun W => isPlace_any a c S.length p W hN
  cases hq : isPl S.length p with
  | false =>
    rw [hq] at d1
    simp only [Bool.false_eq_true, if_false]
    generalize S.length = n at *
    clear hS
    go_enter Tryz.func25, Tryz.ntmps25
    go_wp2_with (go_at_call 74; refine (d1 _).mono ?_; rintro e w' ⟨rfl, hb⟩)
    go_ret
    simp only [World.size_alloc] at hb
    exact ⟨rfl, (holds_low hb).2.2.2⟩
  | true =>
    rw [hq] at d1
    simp only [if_true]
    have hq' : 0 ≤ p ∧ p ≤ (S.length : Int) - 1 := of_decide_eq_true hq
    clear hq
    obtain ⟨k, rfl⟩ : ∃ k : Nat, p = (k : Int) := ⟨p.toNat, by omega⟩
    have hk : k < S.length := by omega
    have hk2 : (k : Int) < (S.length : Int) := by omega
    simp only [Int.toNat_natCast]
    obtain ⟨b, o, rfl, hnd⟩ := hS k hk
    have NX : Hid (∀ w1, Below w.heap.size w w1 → NdAt w1 b (o + k * 8) (nd S k)) := fun w1 h1 => hnd.below h1
    clear hS hq' hnd
    generalize nd S k = x at *
    unfold holdX
    obtain ⟨xu, xn, xt, xm, xp, xks, xh, xc⟩ := x
    unfold NdAt at NX
    dsimp only at *
    generalize xks.length = kl at *
    generalize S.length = n at *
    have d2 := within_any u 1 xn
    generalize hb1 : decide (1 ≤ u ∧ u ≤ xn) = b1 at *
    have B1 : Hid (decide (1 ≤ u ∧ u ≤ xn) = b1) := hb1
    clear hb1
    cases b1 with
    | false =>
      simp only [Bool.false_eq_true, if_false]
      go_enter Tryz.func25, Tryz.ntmps25
      go_wp2_with (first | (go_at_call 74; refine (d1 _).mono ?_; rintro e w1 ⟨rfl, hb⟩; simp only [World.size_alloc] at hb; obtain ⟨l0, l1, l2, l3⟩ := holds_low hb; obtain ⟨c0, c1, c2, c3, c4, ⟨ka, kc, c5, _⟩, c6, c7⟩ := NX.out _ l3; have hbw := World.block_lt_of_cell? w1 _ c0; have hbl := World.block_lt_of_cell? w1 _ l1; have hbm := World.block_lt_of_cell? w1 _ l0; have HB : Hid _ := l3; clear hb l3) | (go_at_call 54; refine (d2 _).mono ?_; rintro e w' ⟨rfl, rfl⟩))
      go_ret
      exact ⟨rfl, HB.out.alloc HB.out.size _⟩
    | true =>
      simp only [if_true]
      cases xu with
      | false =>
        simp only [Bool.false_eq_true, if_false]
        go_enter Tryz.func25, Tryz.ntmps25
        go_wp2_with (first | (go_at_call 74; refine (d1 _).mono ?_; rintro e w1 ⟨rfl, hb⟩; simp only [World.size_alloc] at hb; obtain ⟨l0, l1, l2, l3⟩ := holds_low hb; obtain ⟨c0, c1, c2, c3, c4, ⟨ka, kc, c5, _⟩, c6, c7⟩ := NX.out _ l3; have hbw := World.block_lt_of_cell? w1 _ c0; have hbl := World.block_lt_of_cell? w1 _ l1; have hbm := World.block_lt_of_cell? w1 _ l0; have HB : Hid _ := l3; clear hb l3) | (go_at_call 54; refine (d2 _).mono ?_; rintro e w' ⟨rfl, rfl⟩))
        go_ret
        exact ⟨rfl, HB.out.alloc HB.out.size _⟩
      | true =>
        simp only [if_true]
        by_cases he : xn = u
        · subst he
          simp only [if_true]
          go_enter Tryz.func25, Tryz.ntmps25
          go_wp2_with (first | (go_at_call 74; refine (d1 _).mono ?_; rintro e w1 ⟨rfl, hb⟩; simp only [World.size_alloc] at hb; obtain ⟨l0, l1, l2, l3⟩ := holds_low hb; obtain ⟨c0, c1, c2, c3, c4, ⟨ka, kc, c5, _⟩, c6, c7⟩ := NX.out _ l3; have hbw := World.block_lt_of_cell? w1 _ c0; have hbl := World.block_lt_of_cell? w1 _ l1; have hbm := World.block_lt_of_cell? w1 _ l0; have HB : Hid _ := l3; clear hb l3) | (go_at_call 54; refine (d2 _).mono ?_; rintro e w' ⟨rfl, rfl⟩))
          go_ret
          exact ⟨rfl, HB.out.alloc HB.out.size _⟩
        · simp only [if_neg he]
          have he2 : (xn == u) = false := by simp [he]
          go_enter Tryz.func25, Tryz.ntmps25
          go_wp2_with (first | (go_at_call 74; refine (d1 _).mono ?_; rintro e w1 ⟨rfl, hb⟩; simp only [World.size_alloc] at hb; obtain ⟨l0, l1, l2, l3⟩ := holds_low hb; obtain ⟨c0, c1, c2, c3, c4, ⟨ka, kc, c5, _⟩, c6, c7⟩ := NX.out _ l3; have hbw := World.block_lt_of_cell? w1 _ c0; have hbl := World.block_lt_of_cell? w1 _ l1; have hbm := World.block_lt_of_cell? w1 _ l0; have HB : Hid _ := l3; clear hb l3) | (go_at_call 54; refine (d2 _).mono ?_; rintro e w' ⟨rfl, rfl⟩))
          go_ret
          exact ⟨rfl, HB.out.alloc HB.out.size _⟩

/-- Hands in a row. -/
def HandsAt (w : World) (a : Option Addr) (hs : List (Int × Int)) : Prop :=
  ∀ i, i < hs.length → ∃ b o, a = some ⟨b, o, none⟩ ∧ w.cell? ⟨b, o + i * 2, none⟩ = some (.int .i64 (hs.getD i (0, 0)).1) ∧ w.cell? ⟨b, o + i * 2 + 1, none⟩ = some (.int .i64 (hs.getD i (0, 0)).2)

theorem HandsAt.below {w w' : World} {a : Option Addr} {hs : List (Int × Int)} (h : HandsAt w a hs) (hb : Below w.heap.size w w') : HandsAt w' a hs := fun i hi => by
  obtain ⟨b, o, e, h1, h2⟩ := h i hi
  exact ⟨b, o, e, (hb.cell (World.block_lt_of_cell? w ⟨b, o + i * 2, none⟩ h1)).trans h1, (hb.cell (World.block_lt_of_cell? w ⟨b, o + i * 2 + 1, none⟩ h2)).trans h2⟩

def handsE (S : List Nd) : List (Int × Int) → Int
  | [] => 0
  | h :: r => if holdsE S h.1 h.2 = 0 then handsE S r else holdsE S h.1 h.2

def tcheckE (S : List Nd) (hs : List (Int × Int)) : Int := if checkE S = 0 then handsE S hs else checkE S

theorem drop_cons {α : Type} {l : List α} {d : α} {k : Nat} (h : k < l.length) : l.drop k = l.getD k d :: l.drop (k + 1) := by
  rw [getD_elem l d h]; exact List.drop_eq_getElem_cons h

set_option maxHeartbeats 2000000 in
theorem tcheck_any (a : Option Addr) (c : Nat) (S : List Nd) (ha : Option Addr) (hc : Nat) (hs : List (Int × Int)) (w : World) (hN : S.length ≤ 9223372036854775807) (hB : Big S) (hS : NdsAt w a S) (hL : hs.length ≤ 9223372036854775807) (hH : HandsAt w ha hs) :
    Calls Tryz.prog 105 #[.agg #[.slice a S.length c], .slice ha hs.length hc] w fun e w' => e = .returned (.int .i64 (tcheckE S hs)) ∧ Below w.heap.size w w' := by
  have R0 : Hid (checkE S = 0 → tcheckE S hs = handsE S (hs.drop 0)) := fun h => by unfold tcheckE; rw [if_pos h]; rfl
  have R1 : Hid (checkE S ≠ 0 → tcheckE S hs = checkE S) := fun h => by unfold tcheckE; rw [if_neg h]
  have dc := fun (W : World) (hW : NdsAt W a S) => check_any a c S W hN hB hW
  have dh := fun (p u : Int) (W : World) (hW : NdsAt W a S) => holds_any a c S p u W hN hW
  have DH : Hid _ := dh
  have HS : Hid (NdsAt w a S) := hS
  have HH : Hid (HandsAt w ha hs) := hH
  clear hS hH dh hB
  generalize tcheckE S hs = RES at *
  generalize hn : S.length = n at *
  generalize hm : hs.length = m at *
  have HM : Hid (hs.length = m) := hm
  clear hm hn
  by_cases hz : checkE S = 0
  · rw [hz] at dc
    have R2 : Hid _ := R0.out hz
    clear R0 R1 hz
    go_enter Tryz.func105, Tryz.ntmps105
    go_wp2_with (go_at_call 20; refine (dc _ (HS.out.below ((Below.refl _ _).alloc (Nat.le_refl _) _))).mono ?_; rintro e w1 ⟨rfl, hb1⟩)
    have lb : w1.cell? ⟨w.heap.size, 0, none⟩ = some (.slice a n c) := store_low (by simpa using hb1)
    have hB1 : Below w.heap.size w w1 := ((Below.refl _ _).alloc (Nat.le_refl _) _).trans (hb1.mono (by simp))
    clear hb1 dc
    go_loopg [16] m (fun g s16 wr => ∃ k : Nat, k ≤ m ∧ m - k ≤ g ∧ s16 = .int .i64 k ∧ Below w.heap.size w wr ∧ wr.cell? ⟨w.heap.size, 0, none⟩ = some (.slice a n c) ∧ Hid (RES = handsE S (hs.drop k)))
    case atStart => exact ⟨0, by omega, by omega, rfl, hB1, lb, R2⟩
    case round =>
      obtain ⟨k, hk, hg, rfl, hb, lb2, A⟩ := hrel
      have hlb := World.block_lt_of_cell? _ _ lb2
      clear lb hB1 R2
      by_cases hlt : k < m
      · obtain ⟨b, o, rfl, c0, c1⟩ := (HH.out.below hb) k (by rw [HM.out]; exact hlt)
        have hbw := World.block_lt_of_cell? _ _ c0
        have EQ := A.out
        rw [drop_cons (d := (0, 0)) (by rw [HM.out]; exact hlt)] at EQ
        simp only [handsE] at EQ
        generalize (hs.getD k (0, 0)).1 = p at *
        generalize (hs.getD k (0, 0)).2 = u at *
        have d1 := fun W hW => DH.out p u W hW
        have HB : Hid (∀ o1, NdsAt (wr.alloc o1) a S) := fun o1 => (HS.out.below hb).below ((Below.refl _ _).alloc (Nat.le_refl _) _)
        generalize holdsE S p u = ev at *
        by_cases hz : ev = 0
        · subst hz
          rw [if_pos rfl] at EQ
          have E2 : Hid _ := EQ
          clear EQ
          go_wp2_with (go_at_call 25; refine (d1 _ (HB.out _)).mono ?_; rintro e w2 ⟨rfl, hb2⟩)
          go_roundg (m - (k + 1))
          case measure => omega
          case rel =>
            have hb3 : Below wr.heap.size wr w2 := ((Below.refl _ _).alloc (Nat.le_refl _) _).trans (hb2.mono (by simp))
            exact ⟨k + 1, by omega, by omega, by go_num, hb.trans (hb3.mono hb.size), (hb3.cell hlb).trans lb2, E2⟩
        · rw [if_neg hz] at EQ
          have hz2 : (ev == 0) = false := by simp [hz]
          have E2 : Hid _ := EQ
          clear EQ
          go_wp2_with (go_at_call 25; refine (d1 _ (HB.out _)).mono ?_; rintro e w2 ⟨rfl, hb2⟩)
          go_ret
          have hb3 : Below wr.heap.size wr w2 := ((Below.refl _ _).alloc (Nat.le_refl _) _).trans (hb2.mono (by simp))
          exact ⟨by rw [E2.out]; rfl, hb.trans (hb3.mono hb.size)⟩
      · have : k = m := by omega
        subst this
        have EQ := A.out
        rw [← HM.out, List.drop_length] at EQ
        have E2 : Hid _ := EQ
        clear EQ
        go_wp2
        go_ret
        exact ⟨by rw [E2.out]; rfl, hb⟩
  · have R2 : Hid _ := R1.out hz
    clear R0 R1
    generalize checkE S = ev at *
    have hz2 : (ev == 0) = false := by simp [hz]
    go_enter Tryz.func105, Tryz.ntmps105
    go_wp2_with (go_at_call 20; refine (dc _ (HS.out.below ((Below.refl _ _).alloc (Nat.le_refl _) _))).mono ?_; rintro e w1 ⟨rfl, hb1⟩)
    go_ret
    exact ⟨by rw [R2.out]; rfl, ((Below.refl _ _).alloc (Nat.le_refl _) _).trans (hb1.mono (by simp))⟩
end Go.Proofs.YtgjfmepbphfjoaaGreat

namespace Go.Proofs.YtgjfmepbphfjoaaGreat
open Go.RowKit

/-- A node and all under it, each ahead of its children, down to f steps. -/
def orderF (S : List Nd) : Nat → Nat → List Int
  | 0, p => [(p : Int)]
  | f + 1, p => (p : Int) :: (nd S p).ks.flatMap fun k => orderF S f k.toNat

/-- No way down from p is longer than f; who is named on it is a place. -/
def Deep (S : List Nd) : Nat → Nat → Prop
  | 0, p => (nd S p).ks = []
  | f + 1, p => ∀ k ∈ (nd S p).ks, (0 ≤ k ∧ k < S.length) ∧ Deep S f k.toNat

/-- The same, over whatever is right below. -/
def orderG (ks : Nat → List Int) : Nat → Nat → List Int
  | 0, p => [(p : Int)]
  | f + 1, p => (p : Int) :: (ks p).flatMap fun k => orderG ks f k.toNat

def DeepG (ks : Nat → List Int) (n : Nat) : Nat → Nat → Prop
  | 0, p => ks p = []
  | f + 1, p => ∀ k ∈ ks p, (0 ≤ k ∧ k < n) ∧ DeepG ks n f k.toNat

theorem orderG_eq (S : List Nd) : ∀ f p, orderG (fun p => (nd S p).ks) f p = orderF S f p
  | 0, _ => rfl
  | f + 1, p => by
    simp only [orderG, orderF]
    congr 1
    congr 1
    funext k
    exact orderG_eq S f k.toNat

theorem deepG_of {S : List Nd} : ∀ {f p : Nat}, Deep S f p → DeepG (fun p => (nd S p).ks) S.length f p
  | 0, _, h => h
  | _ + 1, _, h => fun k hk => ⟨(h k hk).1, deepG_of (h k hk).2⟩

/-- What is appended to so far. -/
def OrdI (W : World) (bo : Nat) (l : List Int) (w1 : World) : Prop :=
  Off (fun k => k = bo) W w1 ∧ ∃ v, w1.cell? ⟨bo, 0, none⟩ = some v ∧ w1.frozen? ⟨bo, 0, none⟩ = false ∧ w1.ownsRow W.heap.size 3 1 v l.length (l.map (Value.int .i64))

theorem grownBy_setCell (w : World) (a : Addr) (v : Value) : w.grownBy (w.setCell a v) (some a.block) :=
  ⟨rfl, rfl, rfl, by simp [World.setCell], fun k _ hne => Below.heap_setCell _ _ _ _ (fun e => hne (by rw [e]))⟩

theorem OrdI.step {W w1 w2 : World} {bo : Nat} {l : List Int} {p : Int} {v v' : Value} (hbo : bo < W.heap.size) (hO : Off (fun k => k = bo) W w1) (hc : w1.cell? ⟨bo, 0, none⟩ = some v) (hf : w1.frozen? ⟨bo, 0, none⟩ = false)
    (hown : w1.ownsRow W.heap.size 3 1 v l.length (l.map (Value.int .i64))) (o1 : Obj)
    (hown' : w2.ownsRow W.heap.size 3 1 v' (l.length + 1) (l.map (Value.int .i64) ++ [.int .i64 p])) (hg : (w1.alloc o1).grownBy w2 v.ownBlock) :
    w2.cell? ⟨bo, 0, none⟩ = some v ∧ w2.frozen? ⟨bo, 0, none⟩ = false ∧ OrdI W bo (l ++ [p]) (w2.setCell ⟨bo, 0, none⟩ v') := by
  have hrow : ∀ k, v.ownBlock = some k → W.heap.size ≤ k := fun k hk => (hown.lt k hk).1
  have hbw : bo < w1.heap.size := Nat.lt_of_lt_of_le hbo hO.size
  have hblk : ∀ k, k < W.heap.size → w2.heap[k]? = w1.heap[k]? := fun k hk =>
    (hg.block k (by have := hO.size; simp; omega) (fun e => by have := hrow k e.symm; omega)).trans (Below.heap_alloc _ _ _ (by have := hO.size; omega))
  have hc2 : w2.cell? ⟨bo, 0, none⟩ = some v := (World.cell?_of_block (hblk bo hbo)).trans hc
  refine ⟨hc2, (World.frozen?_of_block (hblk bo hbo)).trans hf, ?_, v', World.cell?_setCell_same _ _ _ hc2, ?_, ?_⟩
  · refine ⟨?_, ?_, ?_, ?_, fun k hk hx => ?_⟩
    · exact hg.os.trans hO.os
    · exact hg.tape.trans hO.tape
    · exact hg.output.trans hO.output
    · have := hg.size; have h2 := hO.size; simp [World.setCell] at *; omega
    · rw [Below.heap_setCell _ _ _ _ (by exact hx), hblk k hk]; exact hO.block k hk hx
  · rw [World.frozen?_setCell]; exact (World.frozen?_of_block (hblk bo hbo)).trans hf
  · have h3 := hown'.kept (grownBy_setCell w2 ⟨bo, 0, none⟩ v') (by
      cases hb : v'.ownBlock with
      | none => exact Or.inl rfl
      | some k => right; intro e; have := (hown'.lt k hb).1; simp at e; omega)
    simpa using h3

theorem OrdI.below {W w1 w2 : World} {bo : Nat} {l : List Int} (h : OrdI W bo l w1) (hbo : bo < W.heap.size) (hb : Below w1.heap.size w1 w2) : OrdI W bo l w2 := by
  obtain ⟨hO, v, hc, hf, hown⟩ := h
  have hbw : bo < w1.heap.size := Nat.lt_of_lt_of_le hbo hO.size
  exact ⟨hO.trans (Off.of_below hb), v, (hb.cell (by exact hbw)).trans hc, (hb.frozen (by exact hbw)).trans hf, hown.kept (row := none) ⟨hb.os, hb.tape, hb.output, hb.size, fun k hk _ => hb.block k hk⟩ (by
    cases hv : v.ownBlock with
    | none => exact Or.inl rfl
    | some k => exact Or.inr (fun e => by cases e))⟩

theorem flat_take (ks : List Int) (sub : Int → List Int) (q : Nat) (hq : q < ks.length) : (ks.take (q + 1)).flatMap sub = (ks.take q).flatMap sub ++ sub (ks.getD q 0) := by
  rw [List.take_succ_eq_append_getElem hq, List.flatMap_append, getD_elem ks 0 hq]
  simp
theorem flat_take_le (ks : List Int) (sub : Int → List Int) (q : Nat) : ((ks.take q).flatMap sub).length ≤ (ks.flatMap sub).length := by
  have h := List.take_append_drop q ks
  have : (ks.flatMap sub).length = ((ks.take q).flatMap sub).length + ((ks.drop q).flatMap sub).length := by
    rw [← List.length_append, ← List.flatMap_append, h]
  omega

set_option maxHeartbeats 1000000 in
theorem walk_step (ks : Nat → List Int) (n : Nat) (K : Nat) (caps : Array Value) (W : World) (bo bb bw : Nat) (hbo : bo < W.heap.size) (hbb : bb < W.heap.size) (hbw : bw < W.heap.size) (hob : bb ≠ bo) (how : bw ≠ bo)
    (eg : ∀ args w, (callFunc K args).run Tryz.prog w = .ok (.enter K args) w)
    (hcb : W.cell? ⟨bb, 0, none⟩ = some (.func (.func K) #[] caps)) (hcw : W.cell? ⟨bw, 0, none⟩ = some (.func (.func 143) #[] #[.pointer (some ⟨bo, 0, none⟩), .pointer (some ⟨bb, 0, none⟩), .pointer (some ⟨bw, 0, none⟩)]))
    (hrow : ∀ p, p < n → ∃ ka kc, (ks p).length ≤ 9223372036854775807 ∧ (∀ w1, Off (fun k => k = bo) W w1 → IntsAt w1 ka (ks p)) ∧ ∀ w1, Off (fun k => k = bo) W w1 → Calls Tryz.prog K (#[.int .i64 p] ++ caps) w1 fun e w2 => e = .returned (.slice ka (ks p).length kc) ∧ Below w1.heap.size w1 w2) (p : Nat) (hp : p < n) (sub : Int → List Int)
    (hsub : ∀ k ∈ ks p, ∀ l w1, l.length + (sub k).length ≤ 1000000 → OrdI W bo l w1 →
      Calls Tryz.prog 143 #[.int .i64 k, .pointer (some ⟨bo, 0, none⟩), .pointer (some ⟨bb, 0, none⟩), .pointer (some ⟨bw, 0, none⟩)] w1 fun e w2 => e = .returned (.tuple #[]) ∧ OrdI W bo (l ++ sub k) w2)
    (l : List Int) (w1 : World) (hlen : l.length + 1 + ((ks p).flatMap sub).length ≤ 1000000) (hI : OrdI W bo l w1) :
    Calls Tryz.prog 143 #[.int .i64 p, .pointer (some ⟨bo, 0, none⟩), .pointer (some ⟨bb, 0, none⟩), .pointer (some ⟨bw, 0, none⟩)] w1 fun e w2 => e = .returned (.tuple #[]) ∧ OrdI W bo (l ++ (p : Int) :: (ks p).flatMap sub) w2 := by
  obtain ⟨i0, hi0, hz0, hz1, hz2⟩ := info_parts info3
  obtain ⟨hO, v, hc, hf, hown⟩ := hI
  obtain ⟨ka, kc, hbig, hints, hcall0⟩ := hrow p hp
  have hlen2 : l.length + 1 ≤ 1000000 := by omega
  have hsz := hO.size
  have hcell : ∀ w2, Off (fun k => k = bo) W w2 → w2.cell? ⟨bb, 0, none⟩ = some (.func (.func K) #[] caps) ∧ w2.cell? ⟨bw, 0, none⟩ = some (.func (.func 143) #[] #[.pointer (some ⟨bo, 0, none⟩), .pointer (some ⟨bb, 0, none⟩), .pointer (some ⟨bw, 0, none⟩)]) := fun w2 h2 =>
    ⟨(h2.cell (by exact hbb) (by exact hob)).trans hcb, (h2.cell (by exact hbw) (by exact how)).trans hcw⟩
  have CELL : Hid _ := hcell
  have SUB : Hid _ := hsub
  have HL : Hid _ := hlen
  have HO : Hid (Off (fun k => k = bo) W w1) := hO
  have HOWN : Hid (w1.ownsRow W.heap.size 3 1 v l.length (l.map (Value.int .i64))) := hown
  have HC : Hid _ := hc
  have HF : Hid _ := hf
  have HINTS : Hid _ := hints
  have HCALL : Hid _ := hcall0
  clear hcell hsub hlen hO hown hcb hcw hrow hints hcall0 hp
  generalize ks p = ks at *
  go_enter Tryz.func143, Tryz.ntmps143
  go_wp2_with (at_builtin; refine wpList_append_own _ rfl _ _ 29 rfl W.heap.size 3 i0 (.int .i64 0) 1 8 Tryz.underlying29 hi0 hz0 hz1 hz2 rfl (by decide) _ _ _ rfl (HOWN.out.alloc _) ⟨w1.heap.size, 0, none⟩ 1 1 [.int .i64 (p : Int)] rfl rfl ?c1 ?c2 ?c3 ?c4 ?c5 ?_)
  case c1 =>
    intro j u hj
    match j, hj with
    | 0, hj => simp at hj; subst hj; simp [Addr.add]
  case c2 => intro u hu; simp at hu; subst hu; rfl
  case c3 => unfold maxLen; omega
  case c4 => omega
  case c5 => simp; omega
  intro v' w2 hown' hgrow _
  obtain ⟨g', cap', rfl⟩ : ∃ g' cap', v' = .slice (some ⟨g', 0, none⟩) (l.length + 1) cap' := by
    rcases hown'.2 with ⟨_, h⟩ | ⟨g', cap', cur, h, _⟩
    · omega
    · exact ⟨g', cap', h⟩
  obtain ⟨hc2, hf2, hI2⟩ := OrdI.step hbo HO.out HC.out HF.out HOWN.out _ hown' hgrow
  obtain ⟨hcb, hcw⟩ := CELL.out _ hI2.1
  have HI2 : Hid (OrdI W bo (l ++ (p : Int) :: (ks.take 0).flatMap sub) _) := (show OrdI W bo (l ++ (p : Int) :: []) _ from hI2)
  clear hown' hgrow hI2 hc hf hcw
  generalize hkl : ks.length = L at *
  have KL : Hid (ks.length = L) := hkl
  clear hkl
  go_wp2_with (go_at_fn K; refine (HCALL.out _ HI2.out.1).mono ?_; rintro e w4 ⟨rfl, hb4⟩)
  have HI4 : Hid (OrdI W bo (l ++ (p : Int) :: (ks.take 0).flatMap sub) w4) := HI2.out.below hbo hb4
  clear HI2 hb4 hc2 hf2 hcb HCALL
  go_wp2
  go_loopg [15] L (fun g s18 wr => ∃ q : Nat, q ≤ L ∧ L - q ≤ g ∧ s18 = .int .i64 q ∧ Hid (OrdI W bo (l ++ (p : Int) :: (ks.take q).flatMap sub) wr))
  case atStart => exact ⟨0, by omega, by omega, rfl, HI4⟩
  case round =>
    obtain ⟨q, hq, hg, rfl, I3⟩ := hrel
    by_cases hql : q < L
    · obtain ⟨hcb, hcw⟩ := CELL.out _ I3.out.1
      obtain ⟨kb, ko, rfl, hkc⟩ := (HINTS.out _ I3.out.1) q (by rw [KL.out]; exact hql)
      have hmem : ks.getD q 0 ∈ ks := by rw [getD_elem ks 0 (by rw [KL.out]; exact hql)]; exact List.getElem_mem _
      have hft := flat_take ks sub q (by rw [KL.out]; exact hql)
      have hfl := flat_take_le ks sub (q + 1)
      rw [hft] at hfl
      have hcall := SUB.out (ks.getD q 0) hmem _ wr (by have := HL.out; simp only [List.length_append, List.length_cons] at hfl this ⊢; omega) I3.out
      have FT : Hid _ := hft
      clear hmem hft hfl I3 hcb
      generalize ks.getD q 0 = y at *
      go_wp2_with (go_at_call 143; refine hcall.mono ?_; rintro e w3 ⟨rfl, I4⟩)
      go_roundg (L - (q + 1))
      case measure => omega
      case rel =>
        refine ⟨q + 1, by omega, by omega, by go_num, ?_⟩
        have I5 : OrdI W bo (l ++ (p : Int) :: (ks.take (q + 1)).flatMap sub) w3 := by
          rw [FT.out]
          simpa using I4
        exact I5
    · have : q = L := by omega
      subst this
      have E : (ks.take q) = ks := by rw [← KL.out]; exact List.take_length
      have I4 := I3.out
      rw [E] at I4
      have I5 : Hid _ := I4
      clear I4 E
      go_wp2
      exact bodyPost_end (v := .tuple #[]) (by simp [results, Tryz.results143, go_sem]) rfl ⟨rfl, I5.out⟩

theorem walkc_any (ks : Nat → List Int) (n : Nat) (K : Nat) (caps : Array Value) (W : World) (bo bb bw : Nat) (hbo : bo < W.heap.size) (hbb : bb < W.heap.size) (hbw : bw < W.heap.size) (hob : bb ≠ bo) (how : bw ≠ bo)
    (eg : ∀ args w, (callFunc K args).run Tryz.prog w = .ok (.enter K args) w)
    (hcb : W.cell? ⟨bb, 0, none⟩ = some (.func (.func K) #[] caps)) (hcw : W.cell? ⟨bw, 0, none⟩ = some (.func (.func 143) #[] #[.pointer (some ⟨bo, 0, none⟩), .pointer (some ⟨bb, 0, none⟩), .pointer (some ⟨bw, 0, none⟩)]))
    (hrow : ∀ p, p < n → ∃ ka kc, (ks p).length ≤ 9223372036854775807 ∧ (∀ w1, Off (fun k => k = bo) W w1 → IntsAt w1 ka (ks p)) ∧ ∀ w1, Off (fun k => k = bo) W w1 → Calls Tryz.prog K (#[.int .i64 p] ++ caps) w1 fun e w2 => e = .returned (.slice ka (ks p).length kc) ∧ Below w1.heap.size w1 w2) :
    ∀ (f p : Nat) (l : List Int) (w1 : World), p < n → DeepG ks n f p → l.length + (orderG ks f p).length ≤ 1000000 → OrdI W bo l w1 →
    Calls Tryz.prog 143 #[.int .i64 p, .pointer (some ⟨bo, 0, none⟩), .pointer (some ⟨bb, 0, none⟩), .pointer (some ⟨bw, 0, none⟩)] w1 fun e w2 => e = .returned (.tuple #[]) ∧ OrdI W bo (l ++ orderG ks f p) w2 := by
  intro f
  induction f with
  | zero =>
    intro p l w1 hp hD hlen hI
    have hk : ks p = [] := hD
    have h := walk_step ks n K caps W bo bb bw hbo hbb hbw hob how eg hcb hcw hrow p hp (fun _ => []) (fun k hk' => by rw [hk] at hk'; cases hk') l w1 (by simp only [orderG] at hlen; rw [hk]; simpa using hlen) hI
    rw [hk] at h
    exact h
  | succ f ih =>
    intro p l w1 hp hD hlen hI
    exact walk_step ks n K caps W bo bb bw hbo hbb hbw hob how eg hcb hcw hrow p hp (fun k => orderG ks f k.toNat) (fun k hk l w1 hl hI1 => by
      obtain ⟨⟨h1, h2⟩, h3⟩ := hD k hk
      have := ih k.toNat l w1 (by omega) h3 hl hI1
      rwa [Int.toNat_of_nonneg h1] at this) l w1 (by simp only [orderG, List.length_cons] at hlen; omega) hI

end Go.Proofs.YtgjfmepbphfjoaaGreat
