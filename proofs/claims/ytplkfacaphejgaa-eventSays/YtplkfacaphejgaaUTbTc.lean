/-
  A store in memory of the call's own, and the contract of Copy.
-/
import Derived.Test.YtplkfacaphejgaaUTaBeBf
import Derived.Test.YtplkfacaphejgaaUSpTf
namespace Go.Proofs.Ytplkfacaphejgaa
open Go.RowKit

/-- A node in a row F, its children in a row of their own. -/
def NdR (w : World) (F : Nat → Value) (o : Nat) (x : Nd) (kb kc : Nat) : Prop :=
  F o = .bool x.u ∧ F (o + 1) = .int .i64 x.n ∧ F (o + 2) = .int .i64 x.t ∧ F (o + 3) = .int .i64 x.m ∧ F (o + 4) = .int .i64 x.p ∧ F (o + 5) = .slice (some ⟨kb, 0, none⟩) x.ks.length kc ∧ F (o + 6) = .int .i64 x.h ∧ F (o + 7) = .bool x.c ∧
  x.ks.length ≤ kc ∧ kc ≤ 1000 ∧ ∃ G, w.rowIs kb 3 kc G ∧ ∀ j, j < x.ks.length → G j = .int .i64 (x.ks.getD j 0)

/-- A store in a row of the call's own; each list of children in a row of its own. -/
def Own (w : World) (B g : Nat) (S : List Nd) (kb kc : Nat → Nat) (k : Nat) : Prop :=
  B ≤ g ∧ ∃ F, w.rowIs g 73 (S.length * 8) F ∧ (∀ i, i < k → NdR w F (i * 8) (nd S i) (kb i) (kc i)) ∧ (∀ i, i < k → g < kb i) ∧ (∀ i, i < k → ∀ j, j < k → kb i = kb j → i = j)

theorem NdR.below {w w' : World} {F : Nat → Value} {o : Nat} {x : Nd} {kb kc B : Nat} (h : NdR w F o x kb kc) (hb : Below B w w') (hB : kb < B) : NdR w' F o x kb kc := by
  obtain ⟨e0, e1, e2, e3, e4, e5, e6, e7, e8, e8b, G, hG, e9⟩ := h
  exact ⟨e0, e1, e2, e3, e4, e5, e6, e7, e8, e8b, G, hG.of_block (hb.block kb hB), e9⟩

theorem NdR.row {w : World} {F : Nat → Value} {o : Nat} {x : Nd} {kb kc : Nat} (h : NdR w F o x kb kc) : kb < w.heap.size := by
  obtain ⟨_, _, _, _, _, _, _, _, _, _, G, hG, _⟩ := h
  exact hG.lt

theorem Own.nds {w : World} {B g : Nat} {S : List Nd} {kb kc : Nat → Nat} (h : Own w B g S kb kc S.length) : NdsAt w (some ⟨g, 0, none⟩) S := fun i hi => by
  obtain ⟨_, F, hF, hN, _, _⟩ := h
  obtain ⟨e0, e1, e2, e3, e4, e5, e6, e7, e8, e8b, G, hG, e9⟩ := hN i hi
  refine ⟨g, 0, rfl, ?_⟩
  rw [Nat.zero_add]
  refine ⟨?_, ?_, ?_, ?_, ?_, ⟨some ⟨kb i, 0, none⟩, kc i, ?_, fun j hj => ⟨kb i, 0, rfl, ?_⟩⟩, ?_, ?_⟩
  · rw [hF.cell (by omega), e0]
  · rw [hF.cell (by omega), e1]
  · rw [hF.cell (by omega), e2]
  · rw [hF.cell (by omega), e3]
  · rw [hF.cell (by omega), e4]
  · rw [hF.cell (by omega), e5]
  · rw [Nat.zero_add, hG.cell (by omega), e9 j hj]
  · rw [hF.cell (by omega), e6]
  · rw [hF.cell (by omega), e7]

def put8 (F : Nat → Value) (o : Nat) (v0 v1 v2 v3 v4 v5 v6 v7 : Value) : Nat → Value := fun j =>
  if j = o + 7 then v7 else if j = o + 6 then v6 else if j = o + 5 then v5 else if j = o + 4 then v4 else if j = o + 3 then v3 else if j = o + 2 then v2 else if j = o + 1 then v1 else if j = o then v0 else F j

theorem row_set8 {w : World} {g t n : Nat} {F : Nat → Value} (h : w.rowIs g t n F) (o : Nat) (v0 v1 v2 v3 v4 v5 v6 v7 : Value) :
    ((((((((w.setCell ⟨g, o, none⟩ v0).setCell ⟨g, o + 1, none⟩ v1).setCell ⟨g, o + 2, none⟩ v2).setCell ⟨g, o + 3, none⟩ v3).setCell ⟨g, o + 4, none⟩ v4).setCell ⟨g, o + 5, none⟩ v5).setCell ⟨g, o + 6, none⟩ v6).setCell ⟨g, o + 7, none⟩ v7).rowIs g t n (put8 F o v0 v1 v2 v3 v4 v5 v6 v7) :=
  (((((((h.set _ _).set _ _).set _ _).set _ _).set _ _).set _ _).set _ _).set _ _

theorem put8_other {F : Nat → Value} {o j : Nat} {v0 v1 v2 v3 v4 v5 v6 v7 : Value} (h : j < o ∨ o + 8 ≤ j) : put8 F o v0 v1 v2 v3 v4 v5 v6 v7 j = F j := by
  unfold put8
  rw [if_neg (by omega), if_neg (by omega), if_neg (by omega), if_neg (by omega), if_neg (by omega), if_neg (by omega), if_neg (by omega), if_neg (by omega)]

theorem NdR.put8_other {w : World} {F : Nat → Value} {o o' : Nat} {x : Nd} {kb kc : Nat} {v0 v1 v2 v3 v4 v5 v6 v7 : Value} (h : NdR w F o x kb kc) (ho : o + 8 ≤ o' ∨ o' + 8 ≤ o) : NdR w (put8 F o' v0 v1 v2 v3 v4 v5 v6 v7) o x kb kc := by
  obtain ⟨e0, e1, e2, e3, e4, e5, e6, e7, e8, e8b, G, hG, e9⟩ := h
  refine ⟨?_, ?_, ?_, ?_, ?_, ?_, ?_, ?_, e8, e8b, G, hG, e9⟩
  all_goals
    rw [Ytplkfacaphejgaa.put8_other (by omega)]
    assumption

theorem NdR.put8_here {w : World} {F : Nat → Value} {o : Nat} {x : Nd} {kb kc : Nat} {G : Nat → Value} (hG : w.rowIs kb 3 kc G) (hl : x.ks.length ≤ kc) (hl2 : kc ≤ 1000) (hg : ∀ j, j < x.ks.length → G j = .int .i64 (x.ks.getD j 0)) :
    NdR w (put8 F o (.bool x.u) (.int .i64 x.n) (.int .i64 x.t) (.int .i64 x.m) (.int .i64 x.p) (.slice (some ⟨kb, 0, none⟩) x.ks.length kc) (.int .i64 x.h) (.bool x.c)) o x kb kc := by
  refine ⟨?_, ?_, ?_, ?_, ?_, ?_, ?_, ?_, hl, hl2, G, hG, hg⟩
  all_goals unfold put8
  · rw [if_neg (by omega), if_neg (by omega), if_neg (by omega), if_neg (by omega), if_neg (by omega), if_neg (by omega), if_neg (by omega), if_pos rfl]
  · rw [if_neg (by omega), if_neg (by omega), if_neg (by omega), if_neg (by omega), if_neg (by omega), if_neg (by omega), if_pos rfl]
  · rw [if_neg (by omega), if_neg (by omega), if_neg (by omega), if_neg (by omega), if_neg (by omega), if_pos rfl]
  · rw [if_neg (by omega), if_neg (by omega), if_neg (by omega), if_neg (by omega), if_pos rfl]
  · rw [if_neg (by omega), if_neg (by omega), if_neg (by omega), if_pos rfl]
  · rw [if_neg (by omega), if_neg (by omega), if_pos rfl]
  · rw [if_neg (by omega), if_pos rfl]
  · rw [if_pos rfl]

def zeroVs : Array Value := #[.bool false, .int .i64 0, .int .i64 0, .int .i64 0, .int .i64 0, .slice none 0 0, .int .i64 0, .bool false]
theorem info73 : (Try.prog.info? 73).map (fun i => (i.zero, i.size, i.bytes)) = some (some (.agg #[.bool false, .int .i64 0, .int .i64 0, .int .i64 0, .int .i64 0, .slice none 0 0, .int .i64 0, .bool false]), 8, 80) := by kernel_rfl

theorem makeNodes (n : Nat) (hn : n ≤ 24) (w : World) : (Instr.makeSlice 22 (.int .i64 (n : Int)) (.int .i64 (n : Int))).run Try.prog w = .ok (.slice (some ⟨w.heap.size, 0, none⟩) n n) (w.alloc (.cells (madeCells zeroVs (n * 8)) 73)) := by
  obtain ⟨i, hi, hz0, hz1, hz2⟩ := info_parts info73
  have h := run_make (P := Try.prog) w 22 73 i _ Try.underlying22 hi hz0 .i64 .i64 n n (by omega) (by omega) (by rw [hz2]; omega) (by omega)
  rw [hz1] at h
  simp only [Int.toNat_natCast] at h
  exact h

theorem row_madeNodes (w : World) (n : Nat) : (w.alloc (.cells (madeCells zeroVs (n * 8)) 73)).rowIs w.heap.size 73 (n * 8) (fun j => zeroVs[j % 8]!) := by
  have h := World.rowIs_alloc w (madeCells zeroVs (n * 8)) 73 (fun j => zeroVs[j % 8]!) (fun i hi => by rw [size_madeCells] at hi; simp [madeCells, hi, zeroVs])
  rw [size_madeCells] at h
  exact h
end Go.Proofs.Ytplkfacaphejgaa

namespace Go.Proofs.Ytplkfacaphejgaa
open Go.RowKit

theorem Own.below {w w' : World} {B g k : Nat} {S : List Nd} {kb kc : Nat → Nat} (h : Own w B g S kb kc k) (hb : Below w.heap.size w w') : Own w' B g S kb kc k := by
  obtain ⟨hB, F, hF, hN, hg, hd⟩ := h
  exact ⟨hB, F, hF.of_block (hb.block g hF.lt), fun i hi => (hN i hi).below hb (hN i hi).row, hg, hd⟩

/-- A store elsewhere. -/
theorem Own.setOther {w : World} {B g k : Nat} {S : List Nd} {kb kc : Nat → Nat} (h : Own w B g S kb kc k) {a : Addr} (ha : a.block < g) (v : Value) : Own (w.setCell a v) B g S kb kc k := by
  obtain ⟨hB, F, hF, hN, hg, hd⟩ := h
  refine ⟨hB, F, hF.setOther (by omega) v, fun i hi => ?_, hg, hd⟩
  obtain ⟨e0, e1, e2, e3, e4, e5, e6, e7, e8, e8b, G, hG, e9⟩ := hN i hi
  exact ⟨e0, e1, e2, e3, e4, e5, e6, e7, e8, e8b, G, hG.setOther (by have := hg i hi; omega) v, e9⟩

/-- A node as it comes out of CopyNode, its children in a row between lo and hi. -/
def RNd (S : List Nd) (i : Nat) (y : ENd) (lo hi : Nat) (V : World) : Prop :=
  y.u = (nd S i).u ∧ y.n = (nd S i).n ∧ y.t = (nd S i).t ∧ y.m = (nd S i).m ∧ y.p = (nd S i).p ∧ y.h = (nd S i).h ∧ y.c = (nd S i).c ∧ y.kl = (nd S i).ks.length ∧ y.kc = (nd S i).ks.length ∧ ∃ kb, y.ka = some ⟨kb, 0, none⟩ ∧ lo ≤ kb ∧ kb < hi ∧ V.rowIs kb 3 (nd S i).ks.length (fun j => .int .i64 ((nd S i).ks.getD j 0))
theorem own_each {w : World} {B g : Nat} {S : List Nd} (hB : B ≤ g) (hK : ∀ i, i < S.length → (nd S i).ks.length ≤ 1000) (h : EachI cvNd 73 8 S.length (RNd S) g S.length w) : ∃ kb kc, Own w B g S kb kc S.length := by
  obtain ⟨v, lo, hi, F, hF, hv⟩ := h
  have key : ∀ i, i < S.length → (v i).ka = some ⟨((v i).ka.getD ⟨0, 0, none⟩).block, 0, none⟩ ∧ lo i ≤ ((v i).ka.getD ⟨0, 0, none⟩).block ∧ ((v i).ka.getD ⟨0, 0, none⟩).block < hi i := fun i hi' => by
    obtain ⟨_, _, _, _, _, _, _, _, _, kb, e, h1, h2, _⟩ := (hv i hi').2.2.2.2.2.at
    rw [e]
    exact ⟨rfl, h1, h2⟩
  refine ⟨fun i => ((v i).ka.getD ⟨0, 0, none⟩).block, fun i => (nd S i).ks.length, hB, F, hF, fun i hi' => ?_, fun i hi' => ?_, fun i hi' j hj e => ?_⟩
  · obtain ⟨h1, _, _, _, _, h6⟩ := hv i hi'
    obtain ⟨e0, e1, e2, e3, e4, e6, e7, el, ec, kb, ek, _, _, hr⟩ := h6.at
    refine ⟨?_, ?_, ?_, ?_, ?_, ?_, ?_, ?_, Nat.le_refl _, hK i hi', _, ?_, fun j _ => rfl⟩
    · exact (h1 0 (by omega)).trans (congrArg Value.bool e0)
    · exact (h1 1 (by omega)).trans (congrArg (Value.int .i64) e1)
    · exact (h1 2 (by omega)).trans (congrArg (Value.int .i64) e2)
    · exact (h1 3 (by omega)).trans (congrArg (Value.int .i64) e3)
    · exact (h1 4 (by omega)).trans (congrArg (Value.int .i64) e4)
    · refine (h1 5 (by omega)).trans ?_
      show Value.slice (v i).ka (v i).kl (v i).kc = Value.slice (some ⟨((v i).ka.getD ⟨0, 0, none⟩).block, 0, none⟩) (nd S i).ks.length (nd S i).ks.length
      rw [el, ec, ek]
      rfl
    · exact (h1 6 (by omega)).trans (congrArg (Value.int .i64) e6)
    · exact (h1 7 (by omega)).trans (congrArg Value.bool e7)
    · show w.rowIs ((v i).ka.getD ⟨0, 0, none⟩).block _ _ _
      rw [ek]
      exact hr
  · have := (hv i hi').2.1
    have := (key i hi').2.1
    show g < ((v i).ka.getD ⟨0, 0, none⟩).block
    omega
  · have k1 := (key i hi').2
    have k2 := (key j hj).2
    rcases Nat.lt_trichotomy i j with h | h | h
    · have := (hv j hj).2.2.2.2.1 i h
      dsimp only at e
      omega
    · exact h
    · have := (hv i hi').2.2.2.2.1 j h
      dsimp only at e
      omega
theorem copyEachNd (a : Option Addr) (c : Nat) (S : List Nd) (w : World) (hN : S.length ≤ 24) (hK : ∀ i, i < S.length → (nd S i).ks.length ≤ 1000) (hS : NdsAt w a S) :
    Calls Try.prog 62 #[.slice a S.length c, .func (.func 47) #[] #[]] w fun e w' => e = .returned (.slice (some ⟨w.heap.size, 0, none⟩) S.length S.length) ∧ Below w.heap.size w w' ∧ EachI cvNd 73 8 S.length (RNd S) w.heap.size S.length w' := by
  obtain ⟨f, hf⟩ := Classical.skolem.1 (fun i => show ∃ x : Option Addr × Nat, i < S.length → (∃ b o, a = some ⟨b, o, none⟩ ∧ w.cell? ⟨b, o + i * 8, none⟩ = some (.bool (nd S i).u) ∧ w.cell? ⟨b, o + i * 8 + 1, none⟩ = some (.int .i64 (nd S i).n) ∧ w.cell? ⟨b, o + i * 8 + 2, none⟩ = some (.int .i64 (nd S i).t) ∧ w.cell? ⟨b, o + i * 8 + 3, none⟩ = some (.int .i64 (nd S i).m) ∧ w.cell? ⟨b, o + i * 8 + 4, none⟩ = some (.int .i64 (nd S i).p) ∧ w.cell? ⟨b, o + i * 8 + 5, none⟩ = some (.slice x.1 (nd S i).ks.length x.2) ∧ w.cell? ⟨b, o + i * 8 + 6, none⟩ = some (.int .i64 (nd S i).h) ∧ w.cell? ⟨b, o + i * 8 + 7, none⟩ = some (.bool (nd S i).c)) ∧ IntsAt w x.1 (nd S i).ks by
    by_cases hi : i < S.length
    · obtain ⟨b, o, e, c0, c1, c2, c3, c4, ⟨ka, kc, c5, hks⟩, c6, c7⟩ := hS i hi
      exact ⟨(ka, kc), fun _ => ⟨⟨b, o, e, c0, c1, c2, c3, c4, c5, c6, c7⟩, hks⟩⟩
    · exact ⟨(none, 0), fun h => absurd h hi⟩)
  refine eachNd 47 (enters_of Try.func47 (by kernel_rfl) rfl) a c S.length (fun i => ⟨(nd S i).u, (nd S i).n, (nd S i).t, (nd S i).m, (nd S i).p, (f i).1, (nd S i).ks.length, (f i).2, (nd S i).h, (nd S i).c⟩) (RNd S) w (by omega) (fun i hi => (hf i hi).1) (fun i hi W hW => ?_)
  refine (copyNode_any (nd S i) (f i).1 (f i).2 W (by have := hK i hi; omega) ((hf i hi).2.below hW)).mono ?_
  rintro e w' ⟨g, rfl, hb, hg, hr⟩
  refine ⟨⟨(nd S i).u, (nd S i).n, (nd S i).t, (nd S i).m, (nd S i).p, some ⟨g, 0, none⟩, (nd S i).ks.length, (nd S i).ks.length, (nd S i).h, (nd S i).c⟩, rfl, hb, fun w2 ho => ⟨rfl, rfl, rfl, rfl, rfl, rfl, rfl, rfl, rfl, g, rfl, hg, hr.lt, hr.of_block (ho.block g hr.lt (fun hx => ?_))⟩⟩
  have := hr.lt
  rcases hx with hx | hx <;> omega

set_option maxHeartbeats 1000000 in
theorem copy_any (a : Option Addr) (c : Nat) (S : List Nd) (w : World) (hN : S.length ≤ 24) (hK : ∀ i, i < S.length → (nd S i).ks.length ≤ 1000) (hS : NdsAt w a S) :
    Calls Try.prog 41 #[.agg #[.slice a S.length c]] w fun e w' => ∃ g kb kc, e = .returned (.agg #[.slice (some ⟨g, 0, none⟩) S.length S.length]) ∧ Below w.heap.size w w' ∧ Own w' w.heap.size g S kb kc S.length := by
  have D : Hid (∀ o1 o2, Calls _ _ _ _ _) := fun o1 o2 => copyEachNd a c S ((w.alloc o1).alloc o2) hN hK (hS.below (two_belowS _ _ _))
  have FN : Hid (∀ V, EachI cvNd 73 8 S.length (RNd S) (w.heap.size + 1 + 1) S.length V → ∃ kb kc, Own V w.heap.size (w.heap.size + 1 + 1) S kb kc S.length) := fun V h => own_each (by omega) hK h
  clear hS hK
  simp only [World.size_alloc] at D
  generalize S.length = n at *
  go_enter Try.func41, Try.ntmps41
  go_wp2_with (go_at_call 62; refine (D.out _ _).mono ?_; rintro e w3 ⟨rfl, hb3, h3⟩; have H3 : Hid _ := h3; clear h3; have y1 : w3.cell? ⟨w.heap.size + 1, 0, none⟩ = some (.slice none 0 0) := (hb3.cell (by simp)).trans (by go_simp); have y2 : ∀ o, w3.frozen? ⟨w.heap.size + 1, o, none⟩ = false := fun o => (hb3.frozen (by simp)).trans (by go_simp); have B3 : Hid (Below w.heap.size w w3) := (two_belowS _ _ _).trans (hb3.mono (by omega)); clear hb3)
  obtain ⟨kb, kc, O⟩ := FN.out w3 H3.out
  refine bodyPost_ret (v := .agg #[.slice (some ⟨w.heap.size + 1 + 1, 0, none⟩) n n]) (by simp [results, Try.results41, go_sem, y1]) rfl ⟨w.heap.size + 1 + 1, kb, kc, rfl, B3.out.setCell (by simp) _, O.setOther (by simp) _⟩
end Go.Proofs.Ytplkfacaphejgaa
