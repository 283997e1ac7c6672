/-
  The contract of CopyNode: a node of new memory.
-/
import Derived.Test.YtgjfmepbphfjoaaGreatUSmBoSpLay
import Derived.Test.YtgjfmepbphfjoaaGreatUSdSeBk
namespace Go.Proofs.YtgjfmepbphfjoaaGreat
open Go.RowKit

theorem makeIntsBig (n : Nat) (hn : n ≤ 1000000) (w : World) : (Instr.makeSlice 29 (.int .i64 (n : Int)) (.int .i64 (n : Int))).run Tryz.prog w = .ok (.slice (some ⟨w.heap.size, 0, none⟩) n n) (w.alloc (.cells (madeCells #[.int .i64 0] n) 3)) :=
  run_make_row' (P := Tryz.prog) 29 3 (.int .i64 0) 8 Tryz.underlying29 info3 rfl .i64 .i64 n (by omega) (by omega) w

theorem copy_low {w w1 : World} {u : Bool} {n t m p : Int} {k : Value} {h : Int} {c : Bool} (hb : Below (w.heap.size + 1 + 1) ((w.alloc (.cells #[.bool u, .int .i64 n, .int .i64 t, .int .i64 m, .int .i64 p, k, .int .i64 h, .bool c] 47)).alloc (.cells #[.bool false, .int .i64 0, .int .i64 0, .int .i64 0, .int .i64 0, .slice none 0 0, .int .i64 0, .bool false] 47)) w1) :
    (w1.cell? ⟨w.heap.size, 0, none⟩ = some (.bool u) ∧ w1.cell? ⟨w.heap.size, 1, none⟩ = some (.int .i64 n) ∧ w1.cell? ⟨w.heap.size, 2, none⟩ = some (.int .i64 t) ∧ w1.cell? ⟨w.heap.size, 3, none⟩ = some (.int .i64 m) ∧ w1.cell? ⟨w.heap.size, 4, none⟩ = some (.int .i64 p) ∧ w1.cell? ⟨w.heap.size, 5, none⟩ = some k ∧ w1.cell? ⟨w.heap.size, 6, none⟩ = some (.int .i64 h) ∧ w1.cell? ⟨w.heap.size, 7, none⟩ = some (.bool c)) ∧
    (w1.cell? ⟨w.heap.size + 1, 0, none⟩ = some (.bool false) ∧ w1.cell? ⟨w.heap.size + 1, 1, none⟩ = some (.int .i64 0) ∧ w1.cell? ⟨w.heap.size + 1, 2, none⟩ = some (.int .i64 0) ∧ w1.cell? ⟨w.heap.size + 1, 3, none⟩ = some (.int .i64 0) ∧ w1.cell? ⟨w.heap.size + 1, 4, none⟩ = some (.int .i64 0) ∧ w1.cell? ⟨w.heap.size + 1, 5, none⟩ = some (.slice none 0 0) ∧ w1.cell? ⟨w.heap.size + 1, 6, none⟩ = some (.int .i64 0) ∧ w1.cell? ⟨w.heap.size + 1, 7, none⟩ = some (.bool false)) ∧
    (∀ o, w1.frozen? ⟨w.heap.size, o, none⟩ = false) ∧ (∀ o, w1.frozen? ⟨w.heap.size + 1, o, none⟩ = false) := by
  refine ⟨⟨?_, ?_, ?_, ?_, ?_, ?_, ?_, ?_⟩, ⟨?_, ?_, ?_, ?_, ?_, ?_, ?_, ?_⟩, fun o => ?_, fun o => ?_⟩
  · exact (hb.cell (by simp; omega)).trans (by go_simp)
  · exact (hb.cell (by simp; omega)).trans (by go_simp)
  · exact (hb.cell (by simp; omega)).trans (by go_simp)
  · exact (hb.cell (by simp; omega)).trans (by go_simp)
  · exact (hb.cell (by simp; omega)).trans (by go_simp)
  · exact (hb.cell (by simp; omega)).trans (by go_simp)
  · exact (hb.cell (by simp; omega)).trans (by go_simp)
  · exact (hb.cell (by simp; omega)).trans (by go_simp)
  · exact (hb.cell (by simp)).trans (by go_simp)
  · exact (hb.cell (by simp)).trans (by go_simp)
  · exact (hb.cell (by simp)).trans (by go_simp)
  · exact (hb.cell (by simp)).trans (by go_simp)
  · exact (hb.cell (by simp)).trans (by go_simp)
  · exact (hb.cell (by simp)).trans (by go_simp)
  · exact (hb.cell (by simp)).trans (by go_simp)
  · exact (hb.cell (by simp)).trans (by go_simp)
  · exact (hb.frozen (by simp; omega)).trans (by go_simp)
  · exact (hb.frozen (by simp)).trans (by go_simp)

set_option maxHeartbeats 1000000 in
theorem copyNode_any (x : Nd) (ka : Option Addr) (kc : Nat) (w : World) (hk : x.ks.length ≤ 1000000) (hks : IntsAt w ka x.ks) :
    Calls Tryz.prog 26 #[.agg #[.bool x.u, .int .i64 x.n, .int .i64 x.t, .int .i64 x.m, .int .i64 x.p, .slice ka x.ks.length kc, .int .i64 x.h, .bool x.c]] w fun e w' => ∃ g, e = .returned (.agg #[.bool x.u, .int .i64 x.n, .int .i64 x.t, .int .i64 x.m, .int .i64 x.p, .slice (some ⟨g, 0, none⟩) x.ks.length x.ks.length, .int .i64 x.h, .bool x.c]) ∧ Below w.heap.size w w' ∧ w.heap.size ≤ g ∧ w'.rowIs g 3 x.ks.length (fun j => .int .i64 (x.ks.getD j 0)) := by
  obtain ⟨u, n, t, m, p, ks, h, c⟩ := x
  dsimp only at *
  have D : Hid (∀ o1 o2 : Obj, _) := fun o1 o2 => copyKids_any ka kc ks ((w.alloc o1).alloc o2) hk (hks.below (two_belowS _ _ _))
  clear hks
  obtain ⟨l, hl⟩ : ∃ l, ks.length = l := ⟨_, rfl⟩
  rw [hl] at D
  rw [hl]
  clear hl hk
  go_enter Tryz.func26, Tryz.ntmps26
  go_wp2_with fail
  refine Calls.mono (D.out _ _) ?_
  rintro e w3 ⟨rfl, hb3, hrow⟩
  simp only [World.size_alloc] at hb3 hrow
  obtain ⟨⟨l0, l1, l2, l3, l4, l5, l6, l7⟩, ⟨z0, z1, z2, z3, z4, z5, z6, z7⟩, f1, f2⟩ := copy_low hb3
  have hsz3 : w.heap.size + 1 + 1 < w3.heap.size := World.rowIs.lt hrow
  have HW3 : Hid (w3.rowIs (w.heap.size + 1 + 1) 3 l (fun j => .int .i64 (ks.getD j 0))) := hrow
  have HB3 : Hid (Below w.heap.size w w3) := (two_belowS _ _ _).trans (hb3.mono (by omega))
  clear hb3 hrow D
  simp only [World.size_alloc]
  go_wp2
  refine bodyPost_ret (v := .agg #[.bool u, .int .i64 n, .int .i64 t, .int .i64 m, .int .i64 p, .slice (some ⟨w.heap.size + 1 + 1, 0, none⟩) l l, .int .i64 h, .bool c]) (by simp [results, Tryz.results26, go_sem, z0, z1, z2, z3, z4, z5, z6, z7]) rfl ⟨w.heap.size + 1 + 1, rfl, ?_, by omega, ?_⟩
  · exact ((((((((HB3.out.setCell (by simp) _).setCell (by simp) _).setCell (by simp) _).setCell (by simp) _).setCell (by simp) _).setCell (by simp) _).setCell (by simp) _).setCell (by simp) _).setCell (by simp) _
  · exact ((((((((HW3.out.setOther (by simp; omega) _).setOther (by simp) _).setOther (by simp) _).setOther (by simp) _).setOther (by simp) _).setOther (by simp) _).setOther (by simp) _).setOther (by simp) _).setOther (by simp) _
end Go.Proofs.YtgjfmepbphfjoaaGreat

namespace Go.Proofs.YtgjfmepbphfjoaaGreat
open Go.RowKit
set_option linter.unusedVariables false

theorem alloc_fz (W : World) (xs : Array Value) (t o : Nat) : (W.alloc (.cells xs t)).frozen? ⟨W.heap.size, o, none⟩ = false := by
  have e := heap_alloc_new W (.cells xs t)
  simp only [World.frozen?, e]
  simp
theorem alloc_fz1 (W : World) (xs : Array Value) (t o : Nat) (o2 : Obj) : ((W.alloc (.cells xs t)).alloc o2).frozen? ⟨W.heap.size, o, none⟩ = false := ((one_belowS _ _).frozen (by simp)).trans (alloc_fz W xs t o)
theorem alloc_fz2 (W : World) (xs : Array Value) (t o : Nat) (o1 : Obj) : ((W.alloc o1).alloc (.cells xs t)).frozen? ⟨W.heap.size + 1, o, none⟩ = false := by
  have := alloc_fz (W.alloc o1) xs t o
  rwa [World.size_alloc] at this
/-- Row g has n elements of s cells, the first k of them there: element i is v i, all that it leads to lies in the blocks from lo i to hi i. -/
def EachI {E : Type} (cv : E → Nat → Value) (t s n : Nat) (R : Nat → E → Nat → Nat → World → Prop) (g k : Nat) (w : World) : Prop :=
  ∃ (v : Nat → E) (lo hi : Nat → Nat) (F : Nat → Value), w.rowIs g t (n * s) F ∧ ∀ i, i < k → (∀ j, j < s → F (i * s + j) = cv (v i) j) ∧ g < lo i ∧ lo i ≤ hi i ∧ hi i ≤ w.heap.size ∧ (∀ i', i' < i → hi i' ≤ lo i) ∧ St (fun b => b < lo i ∨ hi i ≤ b) (R i (v i) (lo i) (hi i)) w
theorem EachI.zero {E : Type} {cv : E → Nat → Value} (w : World) (zs : Array Value) (t s n : Nat) (R : Nat → E → Nat → Nat → World → Prop) (x0 : E) : EachI cv t s n R w.heap.size 0 (w.alloc (.cells (madeCells zs (n * s)) t)) := by
  have h := World.rowIs_alloc w (madeCells zs (n * s)) t (fun j => (madeCells zs (n * s))[j]!) (fun i hi => by simp [hi])
  rw [size_madeCells] at h
  exact ⟨fun _ => x0, fun _ => 0, fun _ => 0, _, h, fun i hi => absurd hi (Nat.not_lt_zero _)⟩
theorem EachI.facts {E : Type} {cv : E → Nat → Value} {t s n g k : Nat} {R : Nat → E → Nat → Nat → World → Prop} {w : World} (h : EachI cv t s n R g k w) : g < w.heap.size ∧ (∀ o, w.frozen? ⟨g, o, none⟩ = false) ∧ ∃ F : Nat → Value, ∀ j, j < n * s → w.cell? ⟨g, j, none⟩ = some (F j) := by
  obtain ⟨_, _, _, F, hF, _⟩ := h
  exact ⟨hF.lt, hF.frozen, F, fun j hj => hF.cell hj⟩
theorem EachI.step {E : Type} {cv : E → Nat → Value} {t s n g k lo hi : Nat} {R : Nat → E → Nat → Nat → World → Prop} {wr w3 w' : World} {x : E} (h : EachI cv t s n R g k wr) (hk : k < n) (b3 : Below wr.heap.size wr w3) (hlo : wr.heap.size ≤ lo) (hhi : lo ≤ hi) (h3 : St (fun b => b < lo ∨ hi ≤ b) (R k x lo hi) w3) (hsz : hi = w3.heap.size) (ho : OffX (fun b => b = g) w3 w')
    (hF : ∀ F, w3.rowIs g t (n * s) F → ∃ F', w'.rowIs g t (n * s) F' ∧ (∀ j, j < s → F' (k * s + j) = cv x j) ∧ ∀ i, i < k → ∀ j, j < s → F' (i * s + j) = F (i * s + j)) : EachI cv t s n R g (k + 1) w' := by
  obtain ⟨v, l, u, F, hr, hi'⟩ := h
  have hg := hr.lt
  obtain ⟨F', hr', f1, f2⟩ := hF F (hr.of_block (b3.block g hg))
  have s3 := b3.size
  have s4 := ho.size
  refine ⟨fun i => if i = k then x else v i, fun i => if i = k then lo else l i, fun i => if i = k then hi else u i, F', hr', fun i hik => ?_⟩
  dsimp only
  by_cases e : i = k
  · subst e
    rw [if_pos rfl, if_pos rfl, if_pos rfl]
    refine ⟨f1, by omega, hhi, by omega, fun i' hi2 => ?_, h3.off (ho.mono (fun b hb => Or.inl (by rw [hb]; omega)))⟩
    rw [if_neg (by omega)]
    have := (hi' i' hi2).2.2.2.1
    omega
  · rw [if_neg e, if_neg e, if_neg e]
    obtain ⟨g1, g2, g3, g4, g5, g6⟩ := hi' i (by omega)
    refine ⟨fun j hj => (f2 i (by omega) j hj).trans (g1 j hj), g2, g3, by omega, fun i' hi2 => ?_, (g6.off (OffX.of_below b3)).off (ho.mono (fun b hb => Or.inl (by rw [hb]; exact g2)))⟩
    rw [if_neg (by omega)]
    exact g5 i' hi2
theorem EachI.off {E : Type} {cv : E → Nat → Value} {t s n g k : Nat} {R : Nat → E → Nat → Nat → World → Prop} {w w' : World} (h : EachI cv t s n R g k w) (ho : OffX (fun b => b < g ∨ w.heap.size ≤ b) w w') : EachI cv t s n R g k w' := by
  obtain ⟨v, l, u, F, hr, hi'⟩ := h
  have hg := hr.lt
  refine ⟨v, l, u, F, hr.of_block (ho.block g hr.lt (by show ¬ (g < g ∨ w.heap.size ≤ g); omega)), fun i hi => ?_⟩
  obtain ⟨g1, g2, g3, g4, g5, g6⟩ := hi' i hi
  exact ⟨g1, g2, g3, Nat.le_trans g4 ho.size, g5, g6.off (ho.mono (fun b hb => by have h3 : b < g ∨ w.heap.size ≤ b := hb; show b < l i ∨ u i ≤ b; omega))⟩
theorem EachI.st {E : Type} {cv : E → Nat → Value} {t s n g k B H : Nat} {R : Nat → E → Nat → Nat → World → Prop} {w : World} (h : EachI cv t s n R g k w) (hB : B ≤ g) (hH : w.heap.size ≤ H) : St (fun b => b < B ∨ H ≤ b) (EachI cv t s n R g k) w := fun w' ho => h.off (ho.mono (fun b hb => by have h3 : b < B ∨ H ≤ b := hb; show b < g ∨ w.heap.size ≤ b; omega))
/-- A store ahead of the row. -/
theorem EachI.set {E : Type} {cv : E → Nat → Value} {t s n g k b o : Nat} {R : Nat → E → Nat → Nat → World → Prop} {w : World} (h : EachI cv t s n R g k w) (hb : b < g) (u : Value) : EachI cv t s n R g k (w.setCell ⟨b, o, none⟩ u) := h.off (OffX.set w u (Or.inl hb))
end Go.Proofs.YtgjfmepbphfjoaaGreat

namespace Go.Proofs.YtgjfmepbphfjoaaGreat
open Go.RowKit
set_option linter.unusedVariables false

structure ENd where
  u : Bool
  n : Int
  t : Int
  m : Int
  p : Int
  ka : Option Addr
  kl : Nat
  kc : Nat
  h : Int
  c : Bool
def cvNd (x : ENd) : Nat → Value
  | 0 => .bool x.u
  | 1 => .int .i64 x.n
  | 2 => .int .i64 x.t
  | 3 => .int .i64 x.m
  | 4 => .int .i64 x.p
  | 5 => .slice x.ka x.kl x.kc
  | 6 => .int .i64 x.h
  | _ => .bool x.c
theorem makeNd (n : Nat) (hn : n ≤ 100000) (w : World) : (Instr.makeSlice 22 (.int .i64 (n : Int)) (.int .i64 (n : Int))).run Tryz.prog w = .ok (.slice (some ⟨w.heap.size, 0, none⟩) n n) (w.alloc (.cells (madeCells #[.bool false, .int .i64 0, .int .i64 0, .int .i64 0, .int .i64 0, .slice none 0 0, .int .i64 0, .bool false] (n * 8)) 47)) := by
  have hz : (Tryz.prog.info? 47).map (fun i => (i.zero, i.size, i.bytes)) = some (some (.agg #[.bool false, .int .i64 0, .int .i64 0, .int .i64 0, .int .i64 0, .slice none 0 0, .int .i64 0, .bool false]), 8, 80) := by kernel_rfl
  obtain ⟨i, hi, hz0, hz1, hz2⟩ := info_parts hz
  have h := run_make (P := Tryz.prog) w 22 47 i _ Tryz.underlying22 hi hz0 .i64 .i64 n n (by omega) (by omega) (by rw [hz2]; omega) (by omega)
  rw [hz1] at h
  simp only [Int.toNat_natCast] at h
  exact h
theorem EachI.putNd {w : World} {g n k : Nat} {F : Nat → Value} (h : w.rowIs g 47 (n * 8) F) (x : ENd) : ∃ F', ((((((((w.setCell ⟨g, k * 8, none⟩ (.bool x.u)).setCell ⟨g, k * 8 + 1, none⟩ (.int .i64 x.n)).setCell ⟨g, k * 8 + 2, none⟩ (.int .i64 x.t)).setCell ⟨g, k * 8 + 3, none⟩ (.int .i64 x.m)).setCell ⟨g, k * 8 + 4, none⟩ (.int .i64 x.p)).setCell ⟨g, k * 8 + 5, none⟩ (.slice x.ka x.kl x.kc)).setCell ⟨g, k * 8 + 6, none⟩ (.int .i64 x.h)).setCell ⟨g, k * 8 + 7, none⟩ (.bool x.c)).rowIs g 47 (n * 8) F' ∧ (∀ j, j < 8 → F' (k * 8 + j) = cvNd x j) ∧ ∀ i, i < k → ∀ j, j < 8 → F' (i * 8 + j) = F (i * 8 + j) := by
  refine ⟨_, (((((((h.set _ _).set _ _).set _ _).set _ _).set _ _).set _ _).set _ _).set _ _, fun j hj => ?_, fun i hi j hj => ?_⟩
  · rcases (by omega : j = 0 ∨ j = 1 ∨ j = 2 ∨ j = 3 ∨ j = 4 ∨ j = 5 ∨ j = 6 ∨ j = 7) with rfl | rfl | rfl | rfl | rfl | rfl | rfl | rfl
    · rw [if_neg (by omega), if_neg (by omega), if_neg (by omega), if_neg (by omega), if_neg (by omega), if_neg (by omega), if_neg (by omega), if_pos (by omega)]; rfl
    · rw [if_neg (by omega), if_neg (by omega), if_neg (by omega), if_neg (by omega), if_neg (by omega), if_neg (by omega), if_pos rfl]; rfl
    · rw [if_neg (by omega), if_neg (by omega), if_neg (by omega), if_neg (by omega), if_neg (by omega), if_pos rfl]; rfl
    · rw [if_neg (by omega), if_neg (by omega), if_neg (by omega), if_neg (by omega), if_pos rfl]; rfl
    · rw [if_neg (by omega), if_neg (by omega), if_neg (by omega), if_pos rfl]; rfl
    · rw [if_neg (by omega), if_neg (by omega), if_pos rfl]; rfl
    · rw [if_neg (by omega), if_pos rfl]; rfl
    · rw [if_pos rfl]; rfl
  · rw [if_neg (by omega), if_neg (by omega), if_neg (by omega), if_neg (by omega), if_neg (by omega), if_neg (by omega), if_neg (by omega), if_neg (by omega)]

set_option maxRecDepth 100000 in
set_option maxHeartbeats 2000000 in
theorem eachNd (K : Nat) (eg : ∀ args w, (callFunc K args).run Tryz.prog w = .ok (.enter K args) w) (a : Option Addr) (c n : Nat) (S : Nat → ENd) (R : Nat → ENd → Nat → Nat → World → Prop) (w : World) (hn : n ≤ 100000)
    (hs : ∀ i, i < n → ∃ b o, a = some ⟨b, o, none⟩ ∧ w.cell? ⟨b, o + i * 8, none⟩ = some (.bool (S i).u) ∧ w.cell? ⟨b, o + i * 8 + 1, none⟩ = some (.int .i64 (S i).n) ∧ w.cell? ⟨b, o + i * 8 + 2, none⟩ = some (.int .i64 (S i).t) ∧ w.cell? ⟨b, o + i * 8 + 3, none⟩ = some (.int .i64 (S i).m) ∧ w.cell? ⟨b, o + i * 8 + 4, none⟩ = some (.int .i64 (S i).p) ∧ w.cell? ⟨b, o + i * 8 + 5, none⟩ = some (.slice (S i).ka (S i).kl (S i).kc) ∧ w.cell? ⟨b, o + i * 8 + 6, none⟩ = some (.int .i64 (S i).h) ∧ w.cell? ⟨b, o + i * 8 + 7, none⟩ = some (.bool (S i).c))
    (hK : ∀ i, i < n → ∀ W, Below w.heap.size w W → Calls Tryz.prog K #[.agg #[.bool (S i).u, .int .i64 (S i).n, .int .i64 (S i).t, .int .i64 (S i).m, .int .i64 (S i).p, .slice (S i).ka (S i).kl (S i).kc, .int .i64 (S i).h, .bool (S i).c]] W fun e W' => ∃ y : ENd, e = .returned (.agg #[.bool y.u, .int .i64 y.n, .int .i64 y.t, .int .i64 y.m, .int .i64 y.p, .slice y.ka y.kl y.kc, .int .i64 y.h, .bool y.c]) ∧ Below W.heap.size W W' ∧ St (fun b => b < W.heap.size ∨ W'.heap.size ≤ b) (R i y W.heap.size W'.heap.size) W') :
    Calls Tryz.prog 114 #[.slice a n c, .func (.func K) #[] #[]] w fun e w' => e = .returned (.slice (some ⟨w.heap.size, 0, none⟩) n n) ∧ Below w.heap.size w w' ∧ EachI cvNd 47 8 n R w.heap.size n w' := by
  have HS : Hid _ := hs
  have HK : Hid _ := hK
  clear hs hK
  have hmk := makeNd n hn
  go_enter Tryz.func114, Tryz.ntmps114
  go_wp2
  go_loopg [13] n (fun m s13 wr => ∃ k : Nat, k ≤ n ∧ n - k ≤ m ∧ s13 = .int .i64 k ∧ Below w.heap.size w wr ∧ Hid (EachI cvNd 47 8 n R w.heap.size k wr))
  case atStart => exact ⟨0, by omega, by omega, rfl, one_belowS _ _, EachI.zero w _ 47 8 n R (S 0)⟩
  case round =>
    obtain ⟨k, hk, hg, rfl, hb, O⟩ := hrel
    by_cases hlt : k < n
    · have hlt2 : (k : Int) < (n : Int) := by omega
      obtain ⟨b, o, rfl, c0, c1, c2, c3, c4, c5, c6, c7⟩ := HS.out k hlt
      replace c0 := keepC c0 hb
      replace c1 := keepC c1 hb
      replace c2 := keepC c2 hb
      replace c3 := keepC c3 hb
      replace c4 := keepC c4 hb
      replace c5 := keepC c5 hb
      replace c6 := keepC c6 hb
      replace c7 := keepC c7 hb
      have hbw : b < wr.heap.size := World.block_lt_of_cell? _ _ c0
      obtain ⟨hgl, hfz, F, hF⟩ := O.out.facts
      have D : Hid (∀ W, Below wr.heap.size wr W → Calls _ _ _ _ _) := fun W hW => HK.out k hlt W (hb.trans (hW.mono hb.size))
      generalize S k = x at *
      obtain ⟨xu, xn, xt, xm, xp, xka, xkl, xkc, xh, xc⟩ := x
      dsimp only at c0 c1 c2 c3 c4 c5 c6 c7 D
      go_wp2_with (go_at_fn K; refine (D.out _ ?nd).mono ?_; (case nd => exact one_belowS _ _); rintro e w3 ⟨⟨yu, yn, yt, ym, yp, yka, ykl, ykc, yh, yc⟩, rfl, hb3, h3⟩; have HR : Hid _ := h3; clear h3; have B3 : Hid (Below wr.heap.size wr w3) := (one_belowS _ _).trans (hb3.mono (by simp)); have s3 : Hid (wr.heap.size ≤ w3.heap.size) := B3.out.size; have SZ : Hid _ := hb3.size; clear hb3; have q0 := (B3.out.cell (by exact hgl)).trans (hF (k * 8) (by omega)); have q1 := (B3.out.cell (by exact hgl)).trans (hF (k * 8 + 1) (by omega)); have q2 := (B3.out.cell (by exact hgl)).trans (hF (k * 8 + 2) (by omega)); have q3 := (B3.out.cell (by exact hgl)).trans (hF (k * 8 + 3) (by omega)); have q4 := (B3.out.cell (by exact hgl)).trans (hF (k * 8 + 4) (by omega)); have q5 := (B3.out.cell (by exact hgl)).trans (hF (k * 8 + 5) (by omega)); have q6 := (B3.out.cell (by exact hgl)).trans (hF (k * 8 + 6) (by omega)); have q7 := (B3.out.cell (by exact hgl)).trans (hF (k * 8 + 7) (by omega)); have hfz3 := fun o => (B3.out.frozen (by exact hgl)).trans (hfz o); have hg3 : w.heap.size < w3.heap.size := Nat.lt_of_lt_of_le hgl s3.out)
      go_roundg (n - (k + 1))
      case measure => omega
      case rel =>
        refine ⟨k + 1, by omega, by omega, by go_num, (((((((((hb.trans (B3.out.mono hb.size)).setCell (by simp) _).setCell (by simp) _).setCell (by simp) _).setCell (by simp) _).setCell (by simp) _).setCell (by simp) _).setCell (by simp) _).setCell (by simp) _), EachI.step O.out hlt B3.out (by simp) ?_ HR.out rfl (((((((((OffX.refl (fun b => b = w.heap.size) _).trans (OffX.set (X := fun b => b = w.heap.size) _ _ rfl)).trans (OffX.set (X := fun b => b = w.heap.size) _ _ rfl)).trans (OffX.set (X := fun b => b = w.heap.size) _ _ rfl)).trans (OffX.set (X := fun b => b = w.heap.size) _ _ rfl)).trans (OffX.set (X := fun b => b = w.heap.size) _ _ rfl)).trans (OffX.set (X := fun b => b = w.heap.size) _ _ rfl)).trans (OffX.set (X := fun b => b = w.heap.size) _ _ rfl)).trans (OffX.set (X := fun b => b = w.heap.size) _ _ rfl)) (fun F hF => EachI.putNd hF ⟨yu, yn, yt, ym, yp, yka, ykl, ykc, yh, yc⟩)⟩
        have := SZ.out; simpa using this
    · have : k = n := by omega
      subst this
      go_wp2
      go_ret
      exact ⟨rfl, hb, O.out⟩
end Go.Proofs.YtgjfmepbphfjoaaGreat
