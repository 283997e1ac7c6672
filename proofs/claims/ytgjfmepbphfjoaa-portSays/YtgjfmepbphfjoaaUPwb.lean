/-
  Ports in new memory: CopyPorts.
-/
import Derived.Test.YtgjfmepbphfjoaaUOxPwaMx
import Derived.Test.YtgjfmepbphfjoaaUMw
namespace Go.Proofs.Ytgjfmepbphfjoaa
open Go.RowKit Go.ChangeShapes Go.WideShapes
set_option linter.unusedVariables false

structure EGr where
  ga : Option Addr
  gl : Nat
  gc : Nat
def cvGr (x : EGr) : Nat → Value
  | _ => .slice x.ga x.gl x.gc
theorem makeGr (n : Nat) (hn : n ≤ 100000) (w : World) : (Instr.makeSlice 41 (.int .i64 (n : Int)) (.int .i64 (n : Int))).run Try.prog w = .ok (.slice (some ⟨w.heap.size, 0, none⟩) n n) (w.alloc (.cells (madeCells #[.slice none 0 0] (n * 1)) 25)) := by
  have hz : (Try.prog.info? 25).map (fun i => (i.zero, i.size, i.bytes)) = some (some (.agg #[.slice none 0 0]), 1, 24) := by kernel_rfl
  obtain ⟨i, hi, hz0, hz1, hz2⟩ := info_parts hz
  have h := run_make (P := Try.prog) w 41 25 i _ Try.underlying41 hi hz0 .i64 .i64 n n (by omega) (by omega) (by rw [hz2]; omega) (by omega)
  rw [hz1] at h
  simp only [Int.toNat_natCast] at h
  exact h
theorem EachI.putGr {w : World} {g n k : Nat} {F : Nat → Value} (h : w.rowIs g 25 (n * 1) F) (x : EGr) : ∃ F', (w.setCell ⟨g, k, none⟩ (.slice x.ga x.gl x.gc)).rowIs g 25 (n * 1) F' ∧ (∀ j, j < 1 → F' (k * 1 + j) = cvGr x j) ∧ ∀ i, i < k → ∀ j, j < 1 → F' (i * 1 + j) = F (i * 1 + j) := by
  refine ⟨_, h.set _ _, fun j hj => ?_, fun i hi j hj => ?_⟩
  · obtain rfl : j = 0 := by omega
    exact if_pos (by omega)
  · exact if_neg (by omega)

set_option maxRecDepth 100000 in
set_option maxHeartbeats 2000000 in
theorem eachGr (K : Nat) (eg : ∀ args w, (callFunc K args).run Try.prog w = .ok (.enter K args) w) (a : Option Addr) (c n : Nat) (S : Nat → EGr) (R : Nat → EGr → Nat → Nat → World → Prop) (w : World) (hn : n ≤ 100000)
    (hs : ∀ i, i < n → ∃ b o, a = some ⟨b, o, none⟩ ∧ w.cell? ⟨b, o + i, none⟩ = some (.slice (S i).ga (S i).gl (S i).gc))
    (hK : ∀ i, i < n → ∀ W, Below w.heap.size w W → Calls Try.prog K #[.agg #[.slice (S i).ga (S i).gl (S i).gc]] W fun e W' => ∃ y : EGr, e = .returned (.agg #[.slice y.ga y.gl y.gc]) ∧ Below W.heap.size W W' ∧ St (fun b => b < W.heap.size ∨ W'.heap.size ≤ b) (R i y W.heap.size W'.heap.size) W') :
    Calls Try.prog 51 #[.slice a n c, .func (.func K) #[] #[]] w fun e w' => e = .returned (.slice (some ⟨w.heap.size, 0, none⟩) n n) ∧ Below w.heap.size w w' ∧ EachI cvGr 25 1 n R w.heap.size n w' := by
  have HS : Hid _ := hs
  have HK : Hid _ := hK
  clear hs hK
  have hmk := makeGr n hn
  go_enter Try.func51, Try.ntmps51
  go_wp2
  go_loopg [13] n (fun m s13 wr => ∃ k : Nat, k ≤ n ∧ n - k ≤ m ∧ s13 = .int .i64 k ∧ Below w.heap.size w wr ∧ Hid (EachI cvGr 25 1 n R w.heap.size k wr))
  case atStart => exact ⟨0, by omega, by omega, rfl, one_belowS _ _, (by have h := EachI.zero (cv := cvGr) w #[.slice none 0 0] 25 1 n R (S 0); rw [Nat.mul_one] at h; exact h)⟩
  case round =>
    obtain ⟨k, hk, hg, rfl, hb, O⟩ := hrel
    by_cases hlt : k < n
    · have hlt2 : (k : Int) < (n : Int) := by omega
      obtain ⟨b, o, rfl, c0⟩ := HS.out k hlt
      replace c0 := keepC c0 hb
      have hbw : b < wr.heap.size := World.block_lt_of_cell? _ _ c0
      obtain ⟨hgl, hfz, F, hF⟩ := O.out.facts
      have D : Hid (∀ W, Below wr.heap.size wr W → Calls _ _ _ _ _) := fun W hW => HK.out k hlt W (hb.trans (hW.mono hb.size))
      generalize S k = x at *
      obtain ⟨xga, xgl, xgc⟩ := x
      dsimp only at c0 D
      go_wp2_with (go_at_fn K; refine (D.out _ ?nd).mono ?_; (case nd => exact one_belowS _ _); rintro e w3 ⟨⟨yga, ygl, ygc⟩, rfl, hb3, h3⟩; have HR : Hid _ := h3; clear h3; have B3 : Hid (Below wr.heap.size wr w3) := (one_belowS _ _).trans (hb3.mono (by simp)); have s3 : Hid (wr.heap.size ≤ w3.heap.size) := B3.out.size; have SZ : Hid _ := hb3.size; clear hb3; have q0 := (B3.out.cell (by exact hgl)).trans (hF (k) (by omega)); have hfz3 := fun o => (B3.out.frozen (by exact hgl)).trans (hfz o); have hg3 : w.heap.size < w3.heap.size := Nat.lt_of_lt_of_le hgl s3.out)
      go_roundg (n - (k + 1))
      case measure => omega
      case rel =>
        refine ⟨k + 1, by omega, by omega, by go_num, ((hb.trans (B3.out.mono hb.size)).setCell (by simp) _), EachI.step O.out hlt B3.out (by simp) ?_ HR.out rfl ((OffX.refl (fun b => b = w.heap.size) _).trans (OffX.set (X := fun b => b = w.heap.size) _ _ rfl)) (fun F hF => EachI.putGr hF ⟨yga, ygl, ygc⟩)⟩
        have := SZ.out; simpa using this
    · have : k = n := by omega
      subst this
      go_wp2
      go_ret
      exact ⟨rfl, hb, O.out⟩
structure EPt where
  o : Int
  t : Int
  m : Int
  ga : Option Addr
  gl : Nat
  gc : Nat
  h : Bool
def cvPt (x : EPt) : Nat → Value
  | 0 => .int .i64 x.o
  | 1 => .int .i64 x.t
  | 2 => .int .i64 x.m
  | 3 => .slice x.ga x.gl x.gc
  | _ => .bool x.h
theorem makePt (n : Nat) (hn : n ≤ 100000) (w : World) : (Instr.makeSlice 22 (.int .i64 (n : Int)) (.int .i64 (n : Int))).run Try.prog w = .ok (.slice (some ⟨w.heap.size, 0, none⟩) n n) (w.alloc (.cells (madeCells #[.int .i64 0, .int .i64 0, .int .i64 0, .slice none 0 0, .bool false] (n * 5)) 47)) := by
  have hz : (Try.prog.info? 47).map (fun i => (i.zero, i.size, i.bytes)) = some (some (.agg #[.int .i64 0, .int .i64 0, .int .i64 0, .slice none 0 0, .bool false]), 5, 56) := by kernel_rfl
  obtain ⟨i, hi, hz0, hz1, hz2⟩ := info_parts hz
  have h := run_make (P := Try.prog) w 22 47 i _ Try.underlying22 hi hz0 .i64 .i64 n n (by omega) (by omega) (by rw [hz2]; omega) (by omega)
  rw [hz1] at h
  simp only [Int.toNat_natCast] at h
  exact h
theorem EachI.putPt {w : World} {g n k : Nat} {F : Nat → Value} (h : w.rowIs g 47 (n * 5) F) (x : EPt) : ∃ F', (((((w.setCell ⟨g, k * 5, none⟩ (.int .i64 x.o)).setCell ⟨g, k * 5 + 1, none⟩ (.int .i64 x.t)).setCell ⟨g, k * 5 + 2, none⟩ (.int .i64 x.m)).setCell ⟨g, k * 5 + 3, none⟩ (.slice x.ga x.gl x.gc)).setCell ⟨g, k * 5 + 4, none⟩ (.bool x.h)).rowIs g 47 (n * 5) F' ∧ (∀ j, j < 5 → F' (k * 5 + j) = cvPt x j) ∧ ∀ i, i < k → ∀ j, j < 5 → F' (i * 5 + j) = F (i * 5 + j) := by
  refine ⟨_, ((((h.set _ _).set _ _).set _ _).set _ _).set _ _, fun j hj => ?_, fun i hi j hj => ?_⟩
  · rcases (by omega : j = 0 ∨ j = 1 ∨ j = 2 ∨ j = 3 ∨ j = 4) with rfl | rfl | rfl | rfl | rfl
    · rw [if_neg (by omega), if_neg (by omega), if_neg (by omega), if_neg (by omega), if_pos (by omega)]; rfl
    · rw [if_neg (by omega), if_neg (by omega), if_neg (by omega), if_pos rfl]; rfl
    · rw [if_neg (by omega), if_neg (by omega), if_pos rfl]; rfl
    · rw [if_neg (by omega), if_pos rfl]; rfl
    · rw [if_pos rfl]; rfl
  · rw [if_neg (by omega), if_neg (by omega), if_neg (by omega), if_neg (by omega), if_neg (by omega)]

set_option maxRecDepth 100000 in
set_option maxHeartbeats 2000000 in
theorem eachPt (K : Nat) (eg : ∀ args w, (callFunc K args).run Try.prog w = .ok (.enter K args) w) (a : Option Addr) (c n : Nat) (S : Nat → EPt) (R : Nat → EPt → Nat → Nat → World → Prop) (w : World) (hn : n ≤ 100000)
    (hs : ∀ i, i < n → ∃ b o, a = some ⟨b, o, none⟩ ∧ w.cell? ⟨b, o + i * 5, none⟩ = some (.int .i64 (S i).o) ∧ w.cell? ⟨b, o + i * 5 + 1, none⟩ = some (.int .i64 (S i).t) ∧ w.cell? ⟨b, o + i * 5 + 2, none⟩ = some (.int .i64 (S i).m) ∧ w.cell? ⟨b, o + i * 5 + 3, none⟩ = some (.slice (S i).ga (S i).gl (S i).gc) ∧ w.cell? ⟨b, o + i * 5 + 4, none⟩ = some (.bool (S i).h))
    (hK : ∀ i, i < n → ∀ W, Below w.heap.size w W → Calls Try.prog K #[.agg #[.int .i64 (S i).o, .int .i64 (S i).t, .int .i64 (S i).m, .slice (S i).ga (S i).gl (S i).gc, .bool (S i).h]] W fun e W' => ∃ y : EPt, e = .returned (.agg #[.int .i64 y.o, .int .i64 y.t, .int .i64 y.m, .slice y.ga y.gl y.gc, .bool y.h]) ∧ Below W.heap.size W W' ∧ St (fun b => b < W.heap.size ∨ W'.heap.size ≤ b) (R i y W.heap.size W'.heap.size) W') :
    Calls Try.prog 49 #[.slice a n c, .func (.func K) #[] #[]] w fun e w' => e = .returned (.slice (some ⟨w.heap.size, 0, none⟩) n n) ∧ Below w.heap.size w w' ∧ EachI cvPt 47 5 n R w.heap.size n w' := by
  have HS : Hid _ := hs
  have HK : Hid _ := hK
  clear hs hK
  have hmk := makePt n hn
  go_enter Try.func49, Try.ntmps49
  go_wp2
  go_loopg [13] n (fun m s13 wr => ∃ k : Nat, k ≤ n ∧ n - k ≤ m ∧ s13 = .int .i64 k ∧ Below w.heap.size w wr ∧ Hid (EachI cvPt 47 5 n R w.heap.size k wr))
  case atStart => exact ⟨0, by omega, by omega, rfl, one_belowS _ _, EachI.zero w _ 47 5 n R (S 0)⟩
  case round =>
    obtain ⟨k, hk, hg, rfl, hb, O⟩ := hrel
    by_cases hlt : k < n
    · have hlt2 : (k : Int) < (n : Int) := by omega
      obtain ⟨b, o, rfl, c0, c1, c2, c3, c4⟩ := HS.out k hlt
      replace c0 := keepC c0 hb
      replace c1 := keepC c1 hb
      replace c2 := keepC c2 hb
      replace c3 := keepC c3 hb
      replace c4 := keepC c4 hb
      have hbw : b < wr.heap.size := World.block_lt_of_cell? _ _ c0
      obtain ⟨hgl, hfz, F, hF⟩ := O.out.facts
      have D : Hid (∀ W, Below wr.heap.size wr W → Calls _ _ _ _ _) := fun W hW => HK.out k hlt W (hb.trans (hW.mono hb.size))
      generalize S k = x at *
      obtain ⟨xo, xt, xm, xga, xgl, xgc, xh⟩ := x
      dsimp only at c0 c1 c2 c3 c4 D
      go_wp2_with (go_at_fn K; refine (D.out _ ?nd).mono ?_; (case nd => exact one_belowS _ _); rintro e w3 ⟨⟨yo, yt, ym, yga, ygl, ygc, yh⟩, rfl, hb3, h3⟩; have HR : Hid _ := h3; clear h3; have B3 : Hid (Below wr.heap.size wr w3) := (one_belowS _ _).trans (hb3.mono (by simp)); have s3 : Hid (wr.heap.size ≤ w3.heap.size) := B3.out.size; have SZ : Hid _ := hb3.size; clear hb3; have q0 := (B3.out.cell (by exact hgl)).trans (hF (k * 5) (by omega)); have q1 := (B3.out.cell (by exact hgl)).trans (hF (k * 5 + 1) (by omega)); have q2 := (B3.out.cell (by exact hgl)).trans (hF (k * 5 + 2) (by omega)); have q3 := (B3.out.cell (by exact hgl)).trans (hF (k * 5 + 3) (by omega)); have q4 := (B3.out.cell (by exact hgl)).trans (hF (k * 5 + 4) (by omega)); have hfz3 := fun o => (B3.out.frozen (by exact hgl)).trans (hfz o); have hg3 : w.heap.size < w3.heap.size := Nat.lt_of_lt_of_le hgl s3.out)
      go_roundg (n - (k + 1))
      case measure => omega
      case rel =>
        refine ⟨k + 1, by omega, by omega, by go_num, ((((((hb.trans (B3.out.mono hb.size)).setCell (by simp) _).setCell (by simp) _).setCell (by simp) _).setCell (by simp) _).setCell (by simp) _), EachI.step O.out hlt B3.out (by simp) ?_ HR.out rfl ((((((OffX.refl (fun b => b = w.heap.size) _).trans (OffX.set (X := fun b => b = w.heap.size) _ _ rfl)).trans (OffX.set (X := fun b => b = w.heap.size) _ _ rfl)).trans (OffX.set (X := fun b => b = w.heap.size) _ _ rfl)).trans (OffX.set (X := fun b => b = w.heap.size) _ _ rfl)).trans (OffX.set (X := fun b => b = w.heap.size) _ _ rfl)) (fun F hF => EachI.putPt hF ⟨yo, yt, ym, yga, ygl, ygc, yh⟩)⟩
        have := SZ.out; simpa using this
    · have : k = n := by omega
      subst this
      go_wp2
      go_ret
      exact ⟨rfl, hb, O.out⟩

/-- A graph as it comes out of CopyGraph. -/
def RGr (C : List (List Cl)) (i : Nat) (y : EGr) (lo hi : Nat) (V : World) : Prop := y.gl = (gr C i).length ∧ ClsAt V y.ga (gr C i)
theorem cgraphs_any (a : Option Addr) (c : Nat) (C : List (List Cl)) (w : World) (hN : C.length ≤ 1000) (hK : ∀ i, i < C.length → (gr C i).length ≤ 1000 ∧ ∀ j, j < (gr C i).length → (cl (gr C i) j).ks.length ≤ 1000) (hG : GrsAt w a C) :
    Calls Try.prog 51 #[.slice a C.length c, .func (.func 52) #[] #[]] w fun e w' => e = .returned (.slice (some ⟨w.heap.size, 0, none⟩) C.length C.length) ∧ Below w.heap.size w w' ∧ EachI cvGr 25 1 C.length (RGr C) w.heap.size C.length w' := by
  obtain ⟨f, hf⟩ := Classical.skolem.1 (fun i => show ∃ x : Option Addr × Nat, i < C.length → (∃ b o, a = some ⟨b, o, none⟩ ∧ w.cell? ⟨b, o + i, none⟩ = some (.slice x.1 (gr C i).length x.2)) ∧ ClsAt w x.1 (gr C i) by
    by_cases hi : i < C.length
    · obtain ⟨b, o, ga, gc, e, c0, hc⟩ := hG i hi
      exact ⟨(ga, gc), fun _ => ⟨⟨b, o, e, c0⟩, hc⟩⟩
    · exact ⟨(none, 0), fun h => absurd h hi⟩)
  refine eachGr 52 (enters_of Try.func52 (by kernel_rfl) rfl) a c C.length (fun i => ⟨(f i).1, (gr C i).length, (f i).2⟩) (RGr C) w (by omega) (fun i hi => (hf i hi).1) (fun i hi W hW => ?_)
  refine (cgraph_any (f i).1 (f i).2 (gr C i) W (hK i hi).1 (hK i hi).2 ((hf i hi).2.below hW)).mono ?_
  rintro e w' ⟨g, rfl, hb, hg, hr⟩
  exact ⟨⟨some ⟨g, 0, none⟩, (gr C i).length, (gr C i).length⟩, rfl, hb, fun w2 ho => ⟨rfl, hr w2 ho⟩⟩

/-- What came, in new memory: within lo and hi, in a row of its own. -/
def GrsO (lo hi : Nat) (w : World) (v : Value) (C : List (List Cl)) : Prop := ∃ b J, lo ≤ b ∧ b < hi ∧ v = .slice (some ⟨b, 0, none⟩) C.length C.length ∧ w.rowIs b 25 C.length J ∧ ∀ i, i < C.length → ∃ ga gc, J i = .slice ga (gr C i).length gc ∧ St (fun x => x ≤ b ∨ hi ≤ x) (fun w => ClsAt w ga (gr C i)) w
theorem GrsO.off {lo hi : Nat} {w w' : World} {v : Value} {C : List (List Cl)} {Y : Nat → Prop} (h : GrsO lo hi w v C) (ho : OffX Y w w') (hY : ∀ b, Y b → b < lo ∨ hi ≤ b) : GrsO lo hi w' v C := by
  obtain ⟨b, J, h1, h2, h3, h4, h5⟩ := h
  refine ⟨b, J, h1, h2, h3, h4.of_block (ho.block b h4.lt (fun hy => by have := hY b hy; omega)), fun i hi => ?_⟩
  obtain ⟨ga, gc, e, hs⟩ := h5 i hi
  exact ⟨ga, gc, e, hs.off (ho.mono (fun x hx => by have := hY x hx; show x ≤ b ∨ _ ≤ x; omega))⟩
theorem GrsO.grs {lo hi : Nat} {w : World} {v : Value} {C : List (List Cl)} (h : GrsO lo hi w v C) (hC : C.length ≤ 1000) : GrsV w v C := by
  obtain ⟨b, J, h1, h2, h3, h4, h5⟩ := h
  refine ⟨some ⟨b, 0, none⟩, C.length, h3, ⟨(fun e => by cases e), Nat.le_refl _, by omega⟩, fun i hi => ?_⟩
  obtain ⟨ga, gc, e, hs⟩ := h5 i hi
  exact ⟨b, 0, ga, gc, rfl, by rw [Nat.zero_add, h4.cell hi, e], hs.at⟩
theorem GrsO.made {lo hi g : Nat} {C : List (List Cl)} {w : World} (h : EachI cvGr 25 1 C.length (RGr C) g C.length w) (hlo : lo ≤ g) (hhi : w.heap.size ≤ hi) : GrsO lo hi w (.slice (some ⟨g, 0, none⟩) C.length C.length) C := by
  obtain ⟨v, l, u, F, hF, hv⟩ := h
  have hg := hF.lt
  rw [Nat.mul_one] at hF
  refine ⟨g, F, hlo, by omega, rfl, hF, fun i hi => ?_⟩
  obtain ⟨h1, h2, h3, h4, _, h6⟩ := hv i hi
  obtain ⟨e0, _⟩ := h6.at
  refine ⟨(v i).ga, (v i).gc, ?_, (h6.imp (fun V h => h.2)).less (fun b hb => by show b < l i ∨ u i ≤ b; have : b ≤ g ∨ _ ≤ b := hb; omega)⟩
  have := h1 0 (by omega)
  rw [Nat.mul_one, Nat.add_zero] at this
  rw [this, ← e0]
  rfl

/-- Ports in new memory, what came to the first k of them too. -/
structure CpI (B : Nat) (L : List Pt) (K : Nat → Value) (lo hi : Nat → Nat) (k : Nat) (w : World) : Prop where
  row : w.ownsRow B 47 5 (.slice (some ⟨B, 0, none⟩) L.length L.length) L.length (pcells L K)
  gs : ∀ i, i < k → GrsO (lo i) (hi i) w (K i) (pt L i).cm
  at' : ∀ i, i < k → B < lo i ∧ hi i ≤ w.heap.size
  ap : ∀ i j, i < k → j < k → i ≠ j → hi i ≤ lo j ∨ hi j ≤ lo i
def FewP (L : List Pt) : Prop := ∀ i, i < L.length → (pt L i).cm.length ≤ 1000 ∧ ∀ j, j < (pt L i).cm.length → (gr (pt L i).cm j).length ≤ 1000 ∧ ∀ m, m < (gr (pt L i).cm j).length → (cl (gr (pt L i).cm j) m).ks.length ≤ 1000
/-- A port as it comes out of CopyPorts. -/
def RPt (L : List Pt) (i : Nat) (y : EPt) (lo hi : Nat) (V : World) : Prop := y.o = (pt L i).o ∧ y.t = (pt L i).t ∧ y.m = (pt L i).m ∧ y.h = (pt L i).s ∧ GrsO lo hi V (.slice y.ga y.gl y.gc) (pt L i).cm
theorem cpi_each {w : World} {g : Nat} {L : List Pt} (hN : L.length ≤ 1000) (h : EachI cvPt 47 5 L.length (RPt L) g L.length w) : ∃ K lo hi, CpI g L K lo hi L.length w := by
  obtain ⟨v, lo, hi, F, ⟨c, hb, hc1, hc2⟩, hv⟩ := h
  have hg : g < w.heap.size := box_lt hb
  refine ⟨fun i => .slice (v i).ga (v i).gl (v i).gc, lo, hi, ?_, fun i hi' => (hv i hi').2.2.2.2.2.at.2.2.2.2, fun i hi' => ⟨(hv i hi').2.1, (hv i hi').2.2.2.1⟩, fun i j hi' hj hne => ?_⟩
  · have e : c.toList = pcells L (fun i => .slice (v i).ga (v i).gl (v i).gc) := pcells_ext (by simpa using hc1) (fun i j hi' hj => by
      obtain ⟨e0, e1, e2, e3, _⟩ := (hv i hi').2.2.2.2.2.at
      rw [Array.getElem?_toList, hc2 (i * 5 + j) (by omega), (hv i hi').1 j hj]
      unfold pcell
      rw [← e0, ← e1, ← e2, ← e3]
      rcases (by omega : j = 0 ∨ j = 1 ∨ j = 2 ∨ j = 3 ∨ j = 4) with rfl | rfl | rfl | rfl | rfl <;> rfl)
    refine ⟨pcells_len _ _, Or.inr ⟨g, L.length, c, rfl, Nat.le_refl _, hb, Nat.le_refl _, by unfold maxLen; omega, hc1, ?_⟩⟩
    rw [e]
    exact List.take_of_length_le (by rw [pcells_len]; exact Nat.le_refl _)
  · rcases Nat.lt_or_gt_of_ne hne with h | h
    · exact Or.inl ((hv j hj).2.2.2.2.1 i h)
    · exact Or.inr ((hv i hi').2.2.2.2.1 j h)

set_option maxRecDepth 100000 in
set_option maxHeartbeats 2000000 in
theorem cport_any (x : Pt) (ca : Option Addr) (cc : Nat) (w : World) (h1 : x.cm.length ≤ 1000) (h2 : ∀ i, i < x.cm.length → (gr x.cm i).length ≤ 1000 ∧ ∀ j, j < (gr x.cm i).length → (cl (gr x.cm i) j).ks.length ≤ 1000) (hG : GrsAt w ca x.cm) :
    Calls Try.prog 50 #[.agg #[.int .i64 x.o, .int .i64 x.t, .int .i64 x.m, .slice ca x.cm.length cc, .bool x.s]] w fun e w' => ∃ g, e = .returned (.agg #[.int .i64 x.o, .int .i64 x.t, .int .i64 x.m, .slice (some ⟨g, 0, none⟩) x.cm.length x.cm.length, .bool x.s]) ∧ Below w.heap.size w w' ∧ w.heap.size ≤ g ∧ EachI cvGr 25 1 x.cm.length (RGr x.cm) g x.cm.length w' := by
  have D : Hid (∀ W, Below w.heap.size w W → Calls _ _ _ _ _) := fun W hW => cgraphs_any ca cc x.cm W h1 h2 (hG.below hW)
  clear hG h1 h2
  obtain ⟨xo, xt, xm, xc, xs⟩ := x
  dsimp only at D ⊢
  generalize xc.length = l at *
  go_enter Try.func50, Try.ntmps50
  go_wp2_with fail
  obtain ⟨V, hV⟩ : ∃ V, (w.alloc (.cells #[.int .i64 xo, .int .i64 xt, .int .i64 xm, .slice ca l cc, .bool xs] 47)).alloc (.cells #[.int .i64 0, .int .i64 0, .int .i64 0, .slice none 0 0, .bool false] 47) = V := ⟨_, rfl⟩
  have v0 : V.cell? ⟨w.heap.size, 0, none⟩ = some (.int .i64 xo) := by rw [← hV]; exact alloc_cell1 _ _ _ 0 _ rfl
  have v1 : V.cell? ⟨w.heap.size, 1, none⟩ = some (.int .i64 xt) := by rw [← hV]; exact alloc_cell1 _ _ _ 1 _ rfl
  have v2 : V.cell? ⟨w.heap.size, 2, none⟩ = some (.int .i64 xm) := by rw [← hV]; exact alloc_cell1 _ _ _ 2 _ rfl
  have v3 : V.cell? ⟨w.heap.size, 3, none⟩ = some (.slice ca l cc) := by rw [← hV]; exact alloc_cell1 _ _ _ 3 _ rfl
  have v4 : V.cell? ⟨w.heap.size, 4, none⟩ = some (.bool xs) := by rw [← hV]; exact alloc_cell1 _ _ _ 4 _ rfl
  have z0 : V.cell? ⟨w.heap.size + 1, 0, none⟩ = some (.int .i64 0) := by rw [← hV]; exact alloc_cell2 _ _ _ 0 _ rfl
  have z1 : V.cell? ⟨w.heap.size + 1, 1, none⟩ = some (.int .i64 0) := by rw [← hV]; exact alloc_cell2 _ _ _ 1 _ rfl
  have z2 : V.cell? ⟨w.heap.size + 1, 2, none⟩ = some (.int .i64 0) := by rw [← hV]; exact alloc_cell2 _ _ _ 2 _ rfl
  have z3 : V.cell? ⟨w.heap.size + 1, 3, none⟩ = some (.slice none 0 0) := by rw [← hV]; exact alloc_cell2 _ _ _ 3 _ rfl
  have z4 : V.cell? ⟨w.heap.size + 1, 4, none⟩ = some (.bool false) := by rw [← hV]; exact alloc_cell2 _ _ _ 4 _ rfl
  have zf : ∀ o, V.frozen? ⟨w.heap.size + 1, o, none⟩ = false := fun o => by rw [← hV]; exact alloc_fz2 _ _ _ _ _
  have vf : ∀ o, V.frozen? ⟨w.heap.size, o, none⟩ = false := fun o => by rw [← hV]; exact alloc_fz1 _ _ _ _ _
  have BV : Hid (Below w.heap.size w V) := by rw [← hV]; exact two_belowS _ _ _
  have sV : w.heap.size + 1 < V.heap.size := World.block_lt_of_cell? _ _ z0
  have sV0 : w.heap.size < V.heap.size := World.block_lt_of_cell? _ _ v0
  rw [hV]
  clear hV
  refine Calls.mono (D.out _ BV.out) ?_
  rintro e w3 ⟨rfl, hb3, h3⟩
  have H3 : Hid (EachI cvGr 25 1 l (RGr xc) V.heap.size l w3) := h3
  have B3 : Hid (Below w.heap.size w w3) := BV.out.trans (hb3.mono BV.out.size)
  replace v0 := keepC v0 hb3
  replace v1 := keepC v1 hb3
  replace v2 := keepC v2 hb3
  replace v3 := keepC v3 hb3
  replace v4 := keepC v4 hb3
  replace z0 := keepC z0 hb3
  replace z1 := keepC z1 hb3
  replace z2 := keepC z2 hb3
  replace z3 := keepC z3 hb3
  replace z4 := keepC z4 hb3
  have fz := fun o => (hb3.frozen (show (⟨w.heap.size + 1, o, none⟩ : Addr).block < V.heap.size from sV)).trans (zf o)
  have fv := fun o => (hb3.frozen (show (⟨w.heap.size, o, none⟩ : Addr).block < V.heap.size from sV0)).trans (vf o)
  have s3 : w.heap.size + 1 < w3.heap.size := World.block_lt_of_cell? _ _ z0
  have s30 : w.heap.size < w3.heap.size := World.block_lt_of_cell? _ _ v0
  clear hb3 h3 zf vf
  go_wp2
  refine bodyPost_ret (v := .agg #[.int .i64 xo, .int .i64 xt, .int .i64 xm, .slice (some ⟨V.heap.size, 0, none⟩) l l, .bool xs]) (by simp [results, Try.results50, go_sem, z0, z1, z2, z3, z4]) rfl ⟨V.heap.size, rfl, ?_, BV.out.size, ?_⟩
  · exact (((((B3.out.setCell (by simp) _).setCell (by simp) _).setCell (by simp) _).setCell (by simp) _).setCell (by simp) _).setCell (by simp) _
  · exact (((((H3.out.set (by omega) _).set (by omega) _).set (by omega) _).set (by omega) _).set (by omega) _).set (by omega) _
theorem copyEachPt (a : Option Addr) (c : Nat) (L : List Pt) (w : World) (hN : L.length ≤ 12) (hF : FewP L) (hL : PtsAt w a L) :
    Calls Try.prog 49 #[.slice a L.length c, .func (.func 50) #[] #[]] w fun e w' => e = .returned (.slice (some ⟨w.heap.size, 0, none⟩) L.length L.length) ∧ Below w.heap.size w w' ∧ EachI cvPt 47 5 L.length (RPt L) w.heap.size L.length w' := by
  obtain ⟨f, hf⟩ := Classical.skolem.1 (fun i => show ∃ x : Option Addr × Nat, i < L.length → (∃ b o, a = some ⟨b, o, none⟩ ∧ w.cell? ⟨b, o + i * 5, none⟩ = some (.int .i64 (pt L i).o) ∧ w.cell? ⟨b, o + i * 5 + 1, none⟩ = some (.int .i64 (pt L i).t) ∧ w.cell? ⟨b, o + i * 5 + 2, none⟩ = some (.int .i64 (pt L i).m) ∧ w.cell? ⟨b, o + i * 5 + 3, none⟩ = some (.slice x.1 (pt L i).cm.length x.2) ∧ w.cell? ⟨b, o + i * 5 + 4, none⟩ = some (.bool (pt L i).s)) ∧ GrsAt w x.1 (pt L i).cm by
    by_cases hi : i < L.length
    · obtain ⟨b, o, e, c0, c1, c2, ca, cc, c3, hg, c4⟩ := hL i hi
      exact ⟨(ca, cc), fun _ => ⟨⟨b, o, e, c0, c1, c2, c3, c4⟩, hg.2⟩⟩
    · exact ⟨(none, 0), fun h => absurd h hi⟩)
  refine eachPt 50 (enters_of Try.func50 (by kernel_rfl) rfl) a c L.length (fun i => ⟨(pt L i).o, (pt L i).t, (pt L i).m, (f i).1, (pt L i).cm.length, (f i).2, (pt L i).s⟩) (RPt L) w (by omega) (fun i hi => (hf i hi).1) (fun i hi W hW => ?_)
  refine (cport_any (pt L i) (f i).1 (f i).2 W (hF i hi).1 (hF i hi).2 ((hf i hi).2.below hW)).mono ?_
  rintro e w' ⟨g, rfl, hb, hg, hr⟩
  exact ⟨⟨(pt L i).o, (pt L i).t, (pt L i).m, some ⟨g, 0, none⟩, (pt L i).cm.length, (pt L i).cm.length, (pt L i).s⟩, rfl, hb, fun w2 ho => ⟨rfl, rfl, rfl, rfl, (GrsO.made hr hg (Nat.le_refl _)).off ho (fun b hb => hb)⟩⟩
theorem cports_each (a : Option Addr) (c : Nat) (L : List Pt) (w : World) (hN : L.length ≤ 12) (hF : FewP L) (hL : PtsAt w a L) :
    Calls Try.prog 25 #[.slice a L.length c] w fun e w' => e = .returned (.slice (some ⟨w.heap.size, 0, none⟩) L.length L.length) ∧ Below w.heap.size w w' ∧ EachI cvPt 47 5 L.length (RPt L) w.heap.size L.length w' := by
  have D : Hid (Calls _ _ _ _ _) := copyEachPt a c L w hN hF hL
  clear hF hL
  generalize L.length = n at *
  go_enter Try.func25, Try.ntmps25
  go_wp2_with (go_at_call 49; refine D.out.mono ?_; rintro e w3 ⟨rfl, hb3, h3⟩; have H3 : Hid _ := h3; clear h3)
  go_ret
  exact ⟨rfl, hb3, H3.out⟩
theorem cports_any (a : Option Addr) (c : Nat) (L : List Pt) (w : World) (hN : L.length ≤ 12) (hF : FewP L) (hL : PtsAt w a L) :
    Calls Try.prog 25 #[.slice a L.length c] w fun e w' => ∃ K lo hi, e = .returned (.slice (some ⟨w.heap.size, 0, none⟩) L.length L.length) ∧ Below w.heap.size w w' ∧ CpI w.heap.size L K lo hi L.length w' := by
  refine (cports_each a c L w hN hF hL).mono ?_
  rintro e w' ⟨rfl, hb, h⟩
  obtain ⟨K, lo, hi, h2⟩ := cpi_each (by omega) h
  exact ⟨K, lo, hi, rfl, hb, h2⟩
end Go.Proofs.Ytgjfmepbphfjoaa
