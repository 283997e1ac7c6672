/-
  A store in memory of the call's own, and the contract of Copy.
-/
import Derived.Test.YtgjfmepbphfjoaaGreatUTaBeBf
import Derived.Test.YtgjfmepbphfjoaaGreatUSmBoSpLay
import Derived.BigQuiet
import Derived.Laws.StructEq
import Derived.Test.YtgjfmepbphfjoaaGreatUSkSl
namespace Go.Proofs.YtgjfmepbphfjoaaGreat
open Go.RowKit

/-- A node in a row F, its children in a row of their own. -/
def NdR (w : World) (F : Nat → Value) (o : Nat) (x : Nd) (kb kc : Nat) : Prop :=
  F o = .bool x.u ∧ F (o + 1) = .int .i64 x.n ∧ F (o + 2) = .int .i64 x.t ∧ F (o + 3) = .int .i64 x.m ∧ F (o + 4) = .int .i64 x.p ∧ F (o + 5) = .slice (some ⟨kb, 0, none⟩) x.ks.length kc ∧ F (o + 6) = .int .i64 x.h ∧ F (o + 7) = .bool x.c ∧
  x.ks.length ≤ kc ∧ kc ≤ 1000 ∧ ∃ G, w.rowIs kb 3 kc G ∧ ∀ j, j < x.ks.length → G j = .int .i64 (x.ks.getD j 0)

/-- A store in a row of the call's own; each list of children in a row of its own. -/
def Own (w : World) (B g : Nat) (S : List Nd) (kb kc : Nat → Nat) (k : Nat) : Prop :=
  B ≤ g ∧ ∃ F, w.rowIs g 47 (S.length * 8) F ∧ (∀ i, i < k → NdR w F (i * 8) (nd S i) (kb i) (kc i)) ∧ (∀ i, i < k → g < kb i) ∧ (∀ i, i < k → ∀ j, j < k → kb i = kb j → i = j)

theorem NdR.below {w w' : World} {F : Nat → Value} {o : Nat} {x : Nd} {kb kc B : Nat} (h : NdR w F o x kb kc) (hb : Below B w w') (hB : kb < B) : NdR w' F o x kb kc := by
  obtain ⟨e0, e1, e2, e3, e4, e5, e6, e7, e8, e8b, G, hG, e9⟩ := h
  exact ⟨e0, e1, e2, e3, e4, e5, e6, e7, e8, e8b, G, hG.of_block (hb.block kb hB), e9⟩

theorem NdR.row {w : World} {F : Nat → Value} {o : Nat} {x : Nd} {kb kc : Nat} (h : NdR w F o x kb kc) : kb < w.heap.size := by
  obtain ⟨_, _, _, _, _, _, _, _, _, _, G, hG, _⟩ := h
  exact hG.lt

theorem Own.nds {w : World} {B g : Nat} {S : List Nd} {kb kc : Nat → Nat} (h : Own w B g S kb kc S.length) : NdsAt w (some ⟨g, 0, none⟩) S := fun i hi => by
  obtain ⟨_, F, hF, hN, _, _⟩ := h
  obtain ⟨e0, e1, e2, e3, e4, e5, e6, e7, e8, e8b, G, hG, e9⟩ := hN i hi
  refine ⟨g, 0, rfl, ?_⟩
  rw [Nat.zero_add]
  refine ⟨?_, ?_, ?_, ?_, ?_, ⟨some ⟨kb i, 0, none⟩, kc i, ?_, fun j hj => ⟨kb i, 0, rfl, ?_⟩⟩, ?_, ?_⟩
  · rw [hF.cell (by omega), e0]
  · rw [hF.cell (by omega), e1]
  · rw [hF.cell (by omega), e2]
  · rw [hF.cell (by omega), e3]
  · rw [hF.cell (by omega), e4]
  · rw [hF.cell (by omega), e5]
  · rw [Nat.zero_add, hG.cell (by omega), e9 j hj]
  · rw [hF.cell (by omega), e6]
  · rw [hF.cell (by omega), e7]

def put8 (F : Nat → Value) (o : Nat) (v0 v1 v2 v3 v4 v5 v6 v7 : Value) : Nat → Value := fun j =>
  if j = o + 7 then v7 else if j = o + 6 then v6 else if j = o + 5 then v5 else if j = o + 4 then v4 else if j = o + 3 then v3 else if j = o + 2 then v2 else if j = o + 1 then v1 else if j = o then v0 else F j

theorem row_set8 {w : World} {g t n : Nat} {F : Nat → Value} (h : w.rowIs g t n F) (o : Nat) (v0 v1 v2 v3 v4 v5 v6 v7 : Value) :
    ((((((((w.setCell ⟨g, o, none⟩ v0).setCell ⟨g, o + 1, none⟩ v1).setCell ⟨g, o + 2, none⟩ v2).setCell ⟨g, o + 3, none⟩ v3).setCell ⟨g, o + 4, none⟩ v4).setCell ⟨g, o + 5, none⟩ v5).setCell ⟨g, o + 6, none⟩ v6).setCell ⟨g, o + 7, none⟩ v7).rowIs g t n (put8 F o v0 v1 v2 v3 v4 v5 v6 v7) :=
  (((((((h.set _ _).set _ _).set _ _).set _ _).set _ _).set _ _).set _ _).set _ _

theorem put8_other {F : Nat → Value} {o j : Nat} {v0 v1 v2 v3 v4 v5 v6 v7 : Value} (h : j < o ∨ o + 8 ≤ j) : put8 F o v0 v1 v2 v3 v4 v5 v6 v7 j = F j := by
  unfold put8
  rw [if_neg (by omega), if_neg (by omega), if_neg (by omega), if_neg (by omega), if_neg (by omega), if_neg (by omega), if_neg (by omega), if_neg (by omega)]

theorem NdR.put8_other {w : World} {F : Nat → Value} {o o' : Nat} {x : Nd} {kb kc : Nat} {v0 v1 v2 v3 v4 v5 v6 v7 : Value} (h : NdR w F o x kb kc) (ho : o + 8 ≤ o' ∨ o' + 8 ≤ o) : NdR w (put8 F o' v0 v1 v2 v3 v4 v5 v6 v7) o x kb kc := by
  obtain ⟨e0, e1, e2, e3, e4, e5, e6, e7, e8, e8b, G, hG, e9⟩ := h
  refine ⟨?_, ?_, ?_, ?_, ?_, ?_, ?_, ?_, e8, e8b, G, hG, e9⟩
  all_goals
    rw [YtgjfmepbphfjoaaGreat.put8_other (by omega)]
    assumption

theorem NdR.put8_here {w : World} {F : Nat → Value} {o : Nat} {x : Nd} {kb kc : Nat} {G : Nat → Value} (hG : w.rowIs kb 3 kc G) (hl : x.ks.length ≤ kc) (hl2 : kc ≤ 1000) (hg : ∀ j, j < x.ks.length → G j = .int .i64 (x.ks.getD j 0)) :
    NdR w (put8 F o (.bool x.u) (.int .i64 x.n) (.int .i64 x.t) (.int .i64 x.m) (.int .i64 x.p) (.slice (some ⟨kb, 0, none⟩) x.ks.length kc) (.int .i64 x.h) (.bool x.c)) o x kb kc := by
  refine ⟨?_, ?_, ?_, ?_, ?_, ?_, ?_, ?_, hl, hl2, G, hG, hg⟩
  all_goals unfold put8
  · rw [if_neg (by omega), if_neg (by omega), if_neg (by omega), if_neg (by omega), if_neg (by omega), if_neg (by omega), if_neg (by omega), if_pos rfl]
  · rw [if_neg (by omega), if_neg (by omega), if_neg (by omega), if_neg (by omega), if_neg (by omega), if_neg (by omega), if_pos rfl]
  · rw [if_neg (by omega), if_neg (by omega), if_neg (by omega), if_neg (by omega), if_neg (by omega), if_pos rfl]
  · rw [if_neg (by omega), if_neg (by omega), if_neg (by omega), if_neg (by omega), if_pos rfl]
  · rw [if_neg (by omega), if_neg (by omega), if_neg (by omega), if_pos rfl]
  · rw [if_neg (by omega), if_neg (by omega), if_pos rfl]
  · rw [if_neg (by omega), if_pos rfl]
  · rw [if_pos rfl]

def zeroVs : Array Value := #[.bool false, .int .i64 0, .int .i64 0, .int .i64 0, .int .i64 0, .slice none 0 0, .int .i64 0, .bool false]
theorem info47 : (Tryz.prog.info? 47).map (fun i => (i.zero, i.size, i.bytes)) = some (some (.agg #[.bool false, .int .i64 0, .int .i64 0, .int .i64 0, .int .i64 0, .slice none 0 0, .int .i64 0, .bool false]), 8, 80) := by kernel_rfl

theorem makeNodes (n : Nat) (hn : n ≤ 24) (w : World) : (Instr.makeSlice 22 (.int .i64 (n : Int)) (.int .i64 (n : Int))).run Tryz.prog w = .ok (.slice (some ⟨w.heap.size, 0, none⟩) n n) (w.alloc (.cells (madeCells zeroVs (n * 8)) 47)) := by
  obtain ⟨i, hi, hz0, hz1, hz2⟩ := info_parts info47
  have h := run_make (P := Tryz.prog) w 22 47 i _ Tryz.underlying22 hi hz0 .i64 .i64 n n (by omega) (by omega) (by rw [hz2]; omega) (by omega)
  rw [hz1] at h
  simp only [Int.toNat_natCast] at h
  exact h

theorem row_madeNodes (w : World) (n : Nat) : (w.alloc (.cells (madeCells zeroVs (n * 8)) 47)).rowIs w.heap.size 47 (n * 8) (fun j => zeroVs[j % 8]!) := by
  have h := World.rowIs_alloc w (madeCells zeroVs (n * 8)) 47 (fun j => zeroVs[j % 8]!) (fun i hi => by rw [size_madeCells] at hi; simp [madeCells, hi, zeroVs])
  rw [size_madeCells] at h
  exact h
end Go.Proofs.YtgjfmepbphfjoaaGreat

namespace Go.Proofs.YtgjfmepbphfjoaaGreat
open Go.RowKit

theorem Own.below {w w' : World} {B g k : Nat} {S : List Nd} {kb kc : Nat → Nat} (h : Own w B g S kb kc k) (hb : Below w.heap.size w w') : Own w' B g S kb kc k := by
  obtain ⟨hB, F, hF, hN, hg, hd⟩ := h
  exact ⟨hB, F, hF.of_block (hb.block g hF.lt), fun i hi => (hN i hi).below hb (hN i hi).row, hg, hd⟩

/-- A store elsewhere. -/
theorem Own.setOther {w : World} {B g k : Nat} {S : List Nd} {kb kc : Nat → Nat} (h : Own w B g S kb kc k) {a : Addr} (ha : a.block < g) (v : Value) : Own (w.setCell a v) B g S kb kc k := by
  obtain ⟨hB, F, hF, hN, hg, hd⟩ := h
  refine ⟨hB, F, hF.setOther (by omega) v, fun i hi => ?_, hg, hd⟩
  obtain ⟨e0, e1, e2, e3, e4, e5, e6, e7, e8, e8b, G, hG, e9⟩ := hN i hi
  exact ⟨e0, e1, e2, e3, e4, e5, e6, e7, e8, e8b, G, hG.setOther (by have := hg i hi; omega) v, e9⟩

/-- A node as it comes out of CopyNode, its children in a row between lo and hi. -/
def RNd (S : List Nd) (i : Nat) (y : ENd) (lo hi : Nat) (V : World) : Prop :=
  y.u = (nd S i).u ∧ y.n = (nd S i).n ∧ y.t = (nd S i).t ∧ y.m = (nd S i).m ∧ y.p = (nd S i).p ∧ y.h = (nd S i).h ∧ y.c = (nd S i).c ∧ y.kl = (nd S i).ks.length ∧ y.kc = (nd S i).ks.length ∧ ∃ kb, y.ka = some ⟨kb, 0, none⟩ ∧ lo ≤ kb ∧ kb < hi ∧ V.rowIs kb 3 (nd S i).ks.length (fun j => .int .i64 ((nd S i).ks.getD j 0))
theorem own_each {w : World} {B g : Nat} {S : List Nd} (hB : B ≤ g) (hK : ∀ i, i < S.length → (nd S i).ks.length ≤ 1000) (h : EachI cvNd 47 8 S.length (RNd S) g S.length w) : ∃ kb kc, Own w B g S kb kc S.length := by
  obtain ⟨v, lo, hi, F, hF, hv⟩ := h
  have key : ∀ i, i < S.length → (v i).ka = some ⟨((v i).ka.getD ⟨0, 0, none⟩).block, 0, none⟩ ∧ lo i ≤ ((v i).ka.getD ⟨0, 0, none⟩).block ∧ ((v i).ka.getD ⟨0, 0, none⟩).block < hi i := fun i hi' => by
    obtain ⟨_, _, _, _, _, _, _, _, _, kb, e, h1, h2, _⟩ := (hv i hi').2.2.2.2.2.at
    rw [e]
    exact ⟨rfl, h1, h2⟩
  refine ⟨fun i => ((v i).ka.getD ⟨0, 0, none⟩).block, fun i => (nd S i).ks.length, hB, F, hF, fun i hi' => ?_, fun i hi' => ?_, fun i hi' j hj e => ?_⟩
  · obtain ⟨h1, _, _, _, _, h6⟩ := hv i hi'
    obtain ⟨e0, e1, e2, e3, e4, e6, e7, el, ec, kb, ek, _, _, hr⟩ := h6.at
    refine ⟨?_, ?_, ?_, ?_, ?_, ?_, ?_, ?_, Nat.le_refl _, hK i hi', _, ?_, fun j _ => rfl⟩
    · exact (h1 0 (by omega)).trans (congrArg Value.bool e0)
    · exact (h1 1 (by omega)).trans (congrArg (Value.int .i64) e1)
    · exact (h1 2 (by omega)).trans (congrArg (Value.int .i64) e2)
    · exact (h1 3 (by omega)).trans (congrArg (Value.int .i64) e3)
    · exact (h1 4 (by omega)).trans (congrArg (Value.int .i64) e4)
    · refine (h1 5 (by omega)).trans ?_
      show Value.slice (v i).ka (v i).kl (v i).kc = Value.slice (some ⟨((v i).ka.getD ⟨0, 0, none⟩).block, 0, none⟩) (nd S i).ks.length (nd S i).ks.length
      rw [el, ec, ek]
      rfl
    · exact (h1 6 (by omega)).trans (congrArg (Value.int .i64) e6)
    · exact (h1 7 (by omega)).trans (congrArg Value.bool e7)
    · show w.rowIs ((v i).ka.getD ⟨0, 0, none⟩).block _ _ _
      rw [ek]
      exact hr
  · have := (hv i hi').2.1
    have := (key i hi').2.1
    show g < ((v i).ka.getD ⟨0, 0, none⟩).block
    omega
  · have k1 := (key i hi').2
    have k2 := (key j hj).2
    rcases Nat.lt_trichotomy i j with h | h | h
    · have := (hv j hj).2.2.2.2.1 i h
      dsimp only at e
      omega
    · exact h
    · have := (hv i hi').2.2.2.2.1 j h
      dsimp only at e
      omega
theorem copyEachNd (a : Option Addr) (c : Nat) (S : List Nd) (w : World) (hN : S.length ≤ 24) (hK : ∀ i, i < S.length → (nd S i).ks.length ≤ 1000) (hS : NdsAt w a S) :
    Calls Tryz.prog 114 #[.slice a S.length c, .func (.func 26) #[] #[]] w fun e w' => e = .returned (.slice (some ⟨w.heap.size, 0, none⟩) S.length S.length) ∧ Below w.heap.size w w' ∧ EachI cvNd 47 8 S.length (RNd S) w.heap.size S.length w' := by
  obtain ⟨f, hf⟩ := Classical.skolem.1 (fun i => show ∃ x : Option Addr × Nat, i < S.length → (∃ b o, a = some ⟨b, o, none⟩ ∧ w.cell? ⟨b, o + i * 8, none⟩ = some (.bool (nd S i).u) ∧ w.cell? ⟨b, o + i * 8 + 1, none⟩ = some (.int .i64 (nd S i).n) ∧ w.cell? ⟨b, o + i * 8 + 2, none⟩ = some (.int .i64 (nd S i).t) ∧ w.cell? ⟨b, o + i * 8 + 3, none⟩ = some (.int .i64 (nd S i).m) ∧ w.cell? ⟨b, o + i * 8 + 4, none⟩ = some (.int .i64 (nd S i).p) ∧ w.cell? ⟨b, o + i * 8 + 5, none⟩ = some (.slice x.1 (nd S i).ks.length x.2) ∧ w.cell? ⟨b, o + i * 8 + 6, none⟩ = some (.int .i64 (nd S i).h) ∧ w.cell? ⟨b, o + i * 8 + 7, none⟩ = some (.bool (nd S i).c)) ∧ IntsAt w x.1 (nd S i).ks by
    by_cases hi : i < S.length
    · obtain ⟨b, o, e, c0, c1, c2, c3, c4, ⟨ka, kc, c5, hks⟩, c6, c7⟩ := hS i hi
      exact ⟨(ka, kc), fun _ => ⟨⟨b, o, e, c0, c1, c2, c3, c4, c5, c6, c7⟩, hks⟩⟩
    · exact ⟨(none, 0), fun h => absurd h hi⟩)
  refine eachNd 26 (enters_of Tryz.func26 (by kernel_rfl) rfl) a c S.length (fun i => ⟨(nd S i).u, (nd S i).n, (nd S i).t, (nd S i).m, (nd S i).p, (f i).1, (nd S i).ks.length, (f i).2, (nd S i).h, (nd S i).c⟩) (RNd S) w (by omega) (fun i hi => (hf i hi).1) (fun i hi W hW => ?_)
  refine (copyNode_any (nd S i) (f i).1 (f i).2 W (by have := hK i hi; omega) ((hf i hi).2.below hW)).mono ?_
  rintro e w' ⟨g, rfl, hb, hg, hr⟩
  refine ⟨⟨(nd S i).u, (nd S i).n, (nd S i).t, (nd S i).m, (nd S i).p, some ⟨g, 0, none⟩, (nd S i).ks.length, (nd S i).ks.length, (nd S i).h, (nd S i).c⟩, rfl, hb, fun w2 ho => ⟨rfl, rfl, rfl, rfl, rfl, rfl, rfl, rfl, rfl, g, rfl, hg, hr.lt, hr.of_block (ho.block g hr.lt (fun hx => ?_))⟩⟩
  have := hr.lt
  rcases hx with hx | hx <;> omega

set_option maxHeartbeats 1000000 in
theorem copy_any (a : Option Addr) (c : Nat) (S : List Nd) (w : World) (hN : S.length ≤ 24) (hK : ∀ i, i < S.length → (nd S i).ks.length ≤ 1000) (hS : NdsAt w a S) :
    Calls Tryz.prog 70 #[.agg #[.slice a S.length c]] w fun e w' => ∃ g kb kc, e = .returned (.agg #[.slice (some ⟨g, 0, none⟩) S.length S.length]) ∧ Below w.heap.size w w' ∧ Own w' w.heap.size g S kb kc S.length := by
  have D : Hid (∀ o1 o2, Calls _ _ _ _ _) := fun o1 o2 => copyEachNd a c S ((w.alloc o1).alloc o2) hN hK (hS.below (two_belowS _ _ _))
  have FN : Hid (∀ V, EachI cvNd 47 8 S.length (RNd S) (w.heap.size + 1 + 1) S.length V → ∃ kb kc, Own V w.heap.size (w.heap.size + 1 + 1) S kb kc S.length) := fun V h => own_each (by omega) hK h
  clear hS hK
  simp only [World.size_alloc] at D
  generalize S.length = n at *
  go_enter Tryz.func70, Tryz.ntmps70
  go_wp2_with (go_at_call 114; refine (D.out _ _).mono ?_; rintro e w3 ⟨rfl, hb3, h3⟩; have H3 : Hid _ := h3; clear h3; have y1 : w3.cell? ⟨w.heap.size + 1, 0, none⟩ = some (.slice none 0 0) := (hb3.cell (by simp)).trans (by go_simp); have y2 : ∀ o, w3.frozen? ⟨w.heap.size + 1, o, none⟩ = false := fun o => (hb3.frozen (by simp)).trans (by go_simp); have B3 : Hid (Below w.heap.size w w3) := (two_belowS _ _ _).trans (hb3.mono (by omega)); clear hb3)
  obtain ⟨kb, kc, O⟩ := FN.out w3 H3.out
  refine bodyPost_ret (v := .agg #[.slice (some ⟨w.heap.size + 1 + 1, 0, none⟩) n n]) (by simp [results, Tryz.results70, go_sem, y1]) rfl ⟨w.heap.size + 1 + 1, kb, kc, rfl, B3.out.setCell (by simp) _, O.setOther (by simp) _⟩
end Go.Proofs.YtgjfmepbphfjoaaGreat

namespace Go.Proofs.YtgjfmepbphfjoaaGreat
open Go.RowKit

def fitsB (S : List Nd) (ch pa : Nat) : Bool := decide ((nd S ch).h = -1) && (!decide ((pa : Int) = ch) && !underB S pa ch)

set_option maxHeartbeats 1000000 in
theorem fitsUnder_any (a : Option Addr) (c : Nat) (S : List Nd) (ch pa : Nat) (w : World) (hN : S.length ≤ 9223372036854775807) (hc : ch < S.length) (hS : NdsAt w a S) :
    Calls Tryz.prog 133 #[.agg #[.slice a S.length c], .int .i64 ch, .int .i64 pa] w fun e w' => e = .returned (.bool (fitsB S ch pa)) ∧ Below w.heap.size w w' := by
  unfold fitsB
  have du := fun (W : World) (hW : NdsAt W a S) => under_any a c S pa ch W hN hW
  have DU : Hid _ := du
  have HS : Hid (NdsAt w a S) := hS
  have hc2 : (ch : Int) < (S.length : Int) := by omega
  obtain ⟨b, o, rfl, c0, _, _, _, _, _, c6, _⟩ := hS ch hc
  have hbw := World.block_lt_of_cell? _ _ c0
  clear hS du
  generalize underB S pa ch = b3 at *
  generalize (nd S ch).h = hh at *
  generalize S.length = n at *
  by_cases h1 : hh = -1
  · subst h1
    by_cases h2 : (pa : Int) = ch
    · have e : decide ((pa : Int) = ch) = true := decide_eq_true h2
      have h3 : pa = ch := by omega
      subst h3
      rw [e]
      simp only [decide_true, Bool.not_true, Bool.false_and, Bool.and_false]
      go_enter Tryz.func133, Tryz.ntmps133
      go_wp2
      go_ret
      exact ⟨rfl, (Below.refl _ _).alloc (Nat.le_refl _) _⟩
    · have e : decide ((pa : Int) = ch) = false := decide_eq_false h2
      rw [e]
      have e1 : ((pa : Int) == (ch : Int)) = false := beq_eq_false_iff_ne.2 h2
      have e2 : ((pa : Int) != (ch : Int)) = true := by simp [bne, e1]
      have h2n : ¬ pa = ch := by omega
      simp only [decide_true, Bool.not_false, Bool.true_and]
      cases b3
      all_goals
        go_enter Tryz.func133, Tryz.ntmps133
        go_wp2_with (go_at_call 98; refine (DU.out _ (HS.out.below ((Below.refl _ _).alloc (Nat.le_refl _) _))).mono ?_; rintro e w1 ⟨rfl, hb1⟩)
        go_ret
        exact ⟨rfl, ((Below.refl _ _).alloc (Nat.le_refl _) _).trans (hb1.mono (by simp))⟩
  · have e : decide (hh = -1) = false := decide_eq_false h1
    have e1 : (hh == -1) = false := beq_eq_false_iff_ne.2 h1
    rw [e]
    simp only [Bool.false_and]
    go_enter Tryz.func133, Tryz.ntmps133
    go_wp2
    go_ret
    exact ⟨rfl, (Below.refl _ _).alloc (Nat.le_refl _) _⟩

set_option maxHeartbeats 1000000 in
theorem hasHand_any (ha : Option Addr) (hc : Nat) (hs : List (Int × Int)) (p u : Int) (w : World) (hL : hs.length ≤ 9223372036854775807) (hH : HandsAt w ha hs) :
    Calls Tryz.prog 144 #[.slice ha hs.length hc, .agg #[.int .i64 p, .int .i64 u]] w fun e w' => ∃ r : Int, e = .returned (.int .i64 r) ∧ Below w.heap.size w w' ∧ ((0 ≤ r) ↔ (p, u) ∈ hs) := by
  have HH : Hid (HandsAt w ha hs) := hH
  have IN : Hid (∀ k, k < hs.length → hs.getD k (0, 0) = (p, u) → (p, u) ∈ hs) := fun k hk h => by rw [← h, getD_elem hs _ hk]; exact List.getElem_mem hk
  have OUT : Hid ((∀ k, k < hs.length → hs.getD k (0, 0) ≠ (p, u)) → (p, u) ∉ hs) := fun h hm => by
    obtain ⟨i, hi, e⟩ := List.getElem_of_mem hm
    exact h i hi (by rw [getD_elem hs _ hi]; exact e)
  clear hH
  generalize hm : hs.length = m at *
  have HM : Hid _ := hm
  clear hm
  generalize ((p, u) ∈ hs) = Q at *
  go_enter Tryz.func144, Tryz.ntmps144
  go_wp2
  go_loopg [8] m (fun g s8 wr => ∃ k : Nat, k ≤ m ∧ m - k ≤ g ∧ s8 = .int .i64 k ∧ Below (w.heap.size + 1) (w.alloc (.cells #[.int .i64 p, .int .i64 u] 39)) wr ∧ Hid (∀ i, i < k → hs.getD i (0, 0) ≠ (p, u)))
  case atStart => exact ⟨0, by omega, by omega, rfl, Below.refl _ _, (show Hid _ from fun i hi => absurd hi (Nat.not_lt_zero _))⟩
  case round =>
    obtain ⟨k, hk, hg, rfl, hb, A⟩ := hrel
    have hB0 : Below w.heap.size w wr := ((Below.refl _ _).alloc (Nat.le_refl _) _).trans (hb.mono (by omega))
    have x0 : wr.cell? ⟨w.heap.size, 0, none⟩ = some (.int .i64 p) := (hb.cell (by simp)).trans (by go_simp)
    have x1 : wr.cell? ⟨w.heap.size, 1, none⟩ = some (.int .i64 u) := (hb.cell (by simp)).trans (by go_simp)
    by_cases hlt : k < m
    · have hlt2 : (k : Int) < (m : Int) := by omega
      obtain ⟨b, o, rfl, c0, c1⟩ := (HH.out.below hB0) k (by rw [HM.out]; exact hlt)
      generalize hy : hs.getD k (0, 0) = y at *
      obtain ⟨yp, yu⟩ := y
      dsimp only at c0 c1
      have HY : Hid _ := hy
      clear hy
      by_cases e1 : p = yp
      · by_cases e2 : u = yu
        · subst e1
          subst e2
          have Z : Hid _ := IN.out k hlt HY.out
          go_wp2_with fail
          go_quiet (fail)
          go_wp2
          go_ret
          exact ⟨k, rfl, Below.drewNs hB0 _, fun _ => Z.out, fun _ => by omega⟩
        · have e3 : (u == yu) = false := beq_eq_false_iff_ne.2 e2
          have NE : Hid ((yp, yu) ≠ (p, u)) := fun h => e2 (by cases h; rfl)
          subst e1
          go_wp2_with fail
          go_quiet (fail)
          go_wp2
          go_roundg (m - (k + 1))
          case measure => omega
          case rel =>
            refine ⟨k + 1, by omega, by omega, by go_num, Below.drewNs hb _, (show Hid _ from fun i hi => ?_)⟩
            by_cases e : i = k
            · rw [e, HY.out]; exact NE.out
            · exact A.out i (by omega)
      · have e3 : (p == yp) = false := beq_eq_false_iff_ne.2 e1
        have NE : Hid ((yp, yu) ≠ (p, u)) := fun h => e1 (by cases h; rfl)
        go_wp2_with fail
        go_quiet (fail)
        go_wp2
        go_roundg (m - (k + 1))
        case measure => omega
        case rel =>
          refine ⟨k + 1, by omega, by omega, by go_num, Below.drewNs hb _, (show Hid _ from fun i hi => ?_)⟩
          by_cases e : i = k
          · rw [e, HY.out]; exact NE.out
          · exact A.out i (by omega)
    · have : k = m := by omega
      subst this
      have Z : Hid _ := OUT.out A.out
      go_wp2
      go_ret
      exact ⟨-1, rfl, hB0, fun h => by omega, fun h => absurd h Z.out⟩
end Go.Proofs.YtgjfmepbphfjoaaGreat

namespace Go.Proofs.YtgjfmepbphfjoaaGreat
open Go.RowKit

/-- A right store. -/
structure WF (S : List Nd) : Prop where
  small : S.length ≤ 24
  node : ∀ i, i < S.length → nodeE S.length (nd S i) = 0
  kids : KidsOk S
  hosts : HostU S S.length
  noring : ∀ i, i < S.length → underB S i i = false

theorem firstE_zero (N : Int) : ∀ l : List Nd, firstE N l = 0 ↔ ∀ x ∈ l, nodeE N x = 0
  | [] => by simp [firstE]
  | x :: r => by
    simp only [firstE, List.mem_cons]
    by_cases h : nodeE N x = 0
    · rw [if_pos h, firstE_zero N r]
      exact ⟨fun H y hy => hy.elim (fun e => by rw [e]; exact h) (H y), fun H y hy => H y (Or.inr hy)⟩
    · rw [if_neg h]
      exact ⟨fun H => absurd H h, fun H => absurd (H x (Or.inl rfl)) h⟩

theorem wf_iff (S : List Nd) : checkE S = 0 ↔ WF S := by
  unfold checkE treeE ringB
  constructor
  · intro h
    split at h
    · omega
    · rename_i h24
      split at h
      · rename_i h1
        rw [firstE_zero] at h1
        split at h
        · rename_i h2
          split at h
          · rename_i h3
            split at h
            · omega
            · rename_i h4
              refine ⟨by omega, fun i hi => h1 _ (by rw [nd_elem hi]; exact List.getElem_mem hi), of_decide_eq_true h2, of_decide_eq_true h3, fun i hi => ?_⟩
              simp only [Bool.not_eq_true, List.any_eq_false, List.mem_range] at h4
              have := h4 i hi
              simpa using this
          · omega
        · omega
      · exact absurd h (by assumption)
  · rintro ⟨h0, h1, h2, h3, h4⟩
    rw [if_neg (by omega), if_pos ((firstE_zero _ _).2 fun x hx => by
      obtain ⟨i, hi, rfl⟩ := List.getElem_of_mem hx
      have := h1 i hi
      rwa [nd_elem hi] at this), if_pos (decide_eq_true h2), if_pos (decide_eq_true h3), if_neg]
    simp only [Bool.not_eq_true, List.any_eq_false, List.mem_range]
    intro i hi
    rw [h4 i hi]

theorem node_parts {N : Int} {x : Nd} (h : nodeE N x = 0) : rangeB x = true ∧ namesB N x = true ∧ formB x = true := by
  unfold nodeE at h
  split at h
  · split at h
    · split at h
      · exact ⟨by assumption, by assumption, by assumption⟩
      · omega
    · omega
  · omega

theorem WF.kid {S : List Nd} (h : WF S) {i : Nat} (hi : i < S.length) {x : Int} (hx : x ∈ (nd S i).ks) :
    ∃ k : Nat, x = k ∧ k < S.length ∧ (nd S k).u = true ∧ (nd S k).p = i ∧ rightUnder (nd S k) = i := by
  have h1 := (names_ks (names_of (h.node i hi))).1 x hx
  obtain ⟨h2, h3, h4⟩ := h.kids.1 i hi x hx
  obtain ⟨k, rfl⟩ : ∃ k : Nat, x = (k : Int) := ⟨x.toNat, by omega⟩
  have hk : k < S.length := by omega
  simp only [Int.toNat_natCast] at h3 h4
  refine ⟨k, rfl, hk, h3, h4, ?_⟩
  have hf := (node_parts (h.node k hk)).2.2
  unfold formB at hf
  rw [if_pos h3] at hf
  unfold rightUnder
  split at hf
  · cases hf
  · split at hf
    · rename_i hh
      rw [if_pos hh]; exact h4
    · have := of_decide_eq_true hf
      omega

/-- x climbs to p in so many steps, all of them places. -/
def Up (S : List Nd) : Nat → Nat → Nat → Prop
  | 0, x, p => x = p
  | j + 1, x, p => ∃ y : Nat, y < S.length ∧ rightUnder (nd S x) = y ∧ Up S j y p

theorem Up.det {S : List Nd} : ∀ {j x p q : Nat}, Up S j x p → Up S j x q → p = q
  | 0, _, _, _, h, k => by cases h; cases k; rfl
  | j + 1, _, _, _, ⟨y, _, h2, h3⟩, ⟨y', _, k2, k3⟩ => by
    have : y = y' := by omega
    subst this
    exact Up.det h3 k3

theorem Up.trans {S : List Nd} : ∀ {i j x y z : Nat}, Up S i x y → Up S j y z → Up S (i + j) x z
  | 0, j, _, _, _, h, k => by cases h; simpa using k
  | i + 1, j, _, _, _, ⟨y', h1, h2, h3⟩, k => by
    rw [show i + 1 + j = (i + j) + 1 by omega]
    exact ⟨y', h1, h2, Up.trans h3 k⟩

theorem Up.split {S : List Nd} : ∀ {i j x z : Nat}, Up S (i + j) x z → ∃ y, Up S i x y ∧ Up S j y z
  | 0, j, x, _, h => ⟨x, rfl, by simpa using h⟩
  | i + 1, j, x, z, h => by
    rw [show i + 1 + j = (i + j) + 1 by omega] at h
    obtain ⟨y', h1, h2, h3⟩ := h
    obtain ⟨y, k1, k2⟩ := Up.split h3
    exact ⟨y, ⟨y', h1, h2, k1⟩, k2⟩

theorem climb_up {S : List Nd} : ∀ {j x above f : Nat} (st : Bool), Up S (j + 1) x above → j + 1 ≤ f → climbF S rightUnder (underStep above) f (rightUnder (nd S x)) st = true
  | j, x, above, 0, _, _, hf => by omega
  | j, x, above, f + 1, st, ⟨y, h1, h2, h3⟩, hf => by
    rw [h2]
    have hp : isPl S.length (y : Int) = true := decide_eq_true ⟨by omega, by omega⟩
    simp only [climbF, hp, if_true, underStep, Int.toNat_natCast]
    by_cases e : (y : Int) = (above : Int)
    · simp [e]
    · simp only [decide_eq_false e, Bool.not_false, if_true]
      cases j with
      | zero => exact absurd (by cases h3; rfl) e
      | succ j => exact climb_up _ h3 (by omega)

theorem WF.no_ring {S : List Nd} (h : WF S) {x j : Nat} (hx : x < S.length) (h1 : 1 ≤ j) (h2 : j ≤ S.length) : ¬ Up S j x x := fun hu => by
  obtain ⟨j, rfl⟩ : ∃ i, j = i + 1 := ⟨j - 1, by omega⟩
  have := h.noring x hx
  unfold underB at this
  have hp : isPl S.length (x : Int) = true := decide_eq_true ⟨by omega, by omega⟩
  rw [hp, if_pos rfl, Int.toNat_natCast, climb_up false hu h2] at this
  cases this

theorem WF.up_one {S : List Nd} {i k : Nat} (hi : i < S.length) (hr : rightUnder (nd S k) = i) : Up S 1 k i := ⟨i, hi, hr, rfl⟩

theorem nodup_le {N : Nat} {l : List Nat} (h : l.Nodup) (hl : ∀ y ∈ l, y < N) : l.length ≤ N := by
  have := h.length_le_of_subset (l₂ := List.range N) (fun y hy => List.mem_range.2 (hl y hy))
  simpa using this

theorem WF.deep {S : List Nd} (h : WF S) : ∀ (f x : Nat) (r : List Nat), x < S.length → (x :: r).Nodup → (∀ y ∈ r, y < S.length) → (∀ y ∈ r, ∃ j, 1 ≤ j ∧ j ≤ r.length ∧ Up S j x y) → S.length ≤ f + r.length + 1 → Deep S f x := by
  have step : ∀ (x : Nat) (r : List Nat), x < S.length → (x :: r).Nodup → (∀ y ∈ r, y < S.length) → (∀ y ∈ r, ∃ j, 1 ≤ j ∧ j ≤ r.length ∧ Up S j x y) → ∀ k : Nat, k < S.length → rightUnder (nd S k) = x →
      (k :: x :: r).Nodup ∧ (∀ y ∈ x :: r, y < S.length) ∧ (∀ y ∈ x :: r, ∃ j, 1 ≤ j ∧ j ≤ (x :: r).length ∧ Up S j k y) := fun x r hx hn hr hu k hk hrk => by
    have hall : ∀ y ∈ x :: r, y < S.length := fun y hy => by
      rcases List.mem_cons.1 hy with rfl | hy
      · exact hx
      · exact hr y hy
    have hlen := nodup_le hn hall
    have hup : ∀ y ∈ x :: r, ∃ j, 1 ≤ j ∧ j ≤ (x :: r).length ∧ Up S j k y := fun y hy => by
      rcases List.mem_cons.1 hy with rfl | hy
      · exact ⟨1, by omega, by simp, WF.up_one hx hrk⟩
      · obtain ⟨j, j1, j2, j3⟩ := hu y hy
        exact ⟨1 + j, by omega, by simp; omega, (WF.up_one hx hrk).trans j3⟩
    refine ⟨List.nodup_cons.2 ⟨fun hm => ?_, hn⟩, hall, hup⟩
    obtain ⟨j, j1, j2, j3⟩ := hup k hm
    exact h.no_ring hk j1 (by omega) j3
  intro f
  induction f with
  | zero =>
    intro x r hx hn hr hu hf
    show (nd S x).ks = []
    cases hks : (nd S x).ks with
    | nil => rfl
    | cons k ks =>
      obtain ⟨k', rfl, hk, _, _, hrk⟩ := h.kid hx (x := k) (by rw [hks]; simp)
      obtain ⟨h1, h2, h3⟩ := step x r hx hn hr hu k' hk hrk
      have := nodup_le h1 (fun y hy => by
        rcases List.mem_cons.1 hy with rfl | hy
        · exact hk
        · exact h2 y hy)
      simp at this
      omega
  | succ f ih =>
    intro x r hx hn hr hu hf k hk
    obtain ⟨k', rfl, hk', _, _, hrk⟩ := h.kid hx hk
    obtain ⟨h1, h2, h3⟩ := step x r hx hn hr hu k' hk' hrk
    refine ⟨⟨by omega, by omega⟩, ?_⟩
    rw [Int.toNat_natCast]
    exact ih k' (x :: r) hk' h1 h2 h3 (by simp; omega)

theorem WF.deep_all {S : List Nd} (h : WF S) {p : Nat} (hp : p < S.length) : Deep S S.length p :=
  h.deep S.length p [] hp (by simp) (fun y hy => by cases hy) (fun y hy => by cases hy) (by omega)
end Go.Proofs.YtgjfmepbphfjoaaGreat
