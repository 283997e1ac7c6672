/-
  The reference's RootsOf, SeenFrom, TargetFor.
-/
import Derived.Test.YtebhlcjljdgnkaaUZpRdRbRhTmHc
import Derived.Test.YtebhlcjljdgnkaaUSpTf
import Derived.Test.YtebhlcjljdgnkaaUTjSn
import Derived.Test.YtebhlcjljdgnkaaUZf
import Derived.Test.YtebhlcjljdgnkaaUZb
namespace Go.Proofs.Ytebhlcjljdgnkaa
open Go.RowKit

def noRootB (S : List Nd) (x : Int) : Bool := decide ((nd S x.toNat).h = -1)
def rootsL (S : List Nd) (k : Nat) : List Int := flt (noRootB S) (pathF S k)

theorem line_path {S : List Nd} {k : Nat} (hk : k < S.length) : lineF S (S.length + 1) (k : Int) = pathF S k := by
  rw [lineF, if_pos (isPl_nat.2 hk), Int.toNat_natCast]
  rfl

theorem mem_rootsL {S : List Nd} {k : Nat} {x : Int} : x ∈ rootsL S k ↔ x ∈ pathF S k ∧ (nd S x.toNat).h ≠ -1 := by
  unfold rootsL flt noRootB
  simp

theorem rootsL_len (S : List Nd) (k : Nat) : (rootsL S k).length ≤ S.length + 1 := Nat.le_trans (flt_le _ _) (path_len S k)

theorem rootsL_place {S : List Nd} {k : Nat} (hk : k < S.length) {y : Int} (hy : y ∈ rootsL S k) : ∃ x : Nat, y = x ∧ x < S.length := by
  obtain ⟨x, _, e1, e2, _⟩ := mem_path hk (mem_rootsL.1 hy).1
  exact ⟨x, e1, e2⟩

theorem roots_of_L {S : List Nd} {p q : Nat} : rootsF S p q = flt (fun x => decide (x ∈ rootsL S p)) (rootsL S q) := by
  unfold rootsF
  conv => rhs; arg 2; unfold rootsL
  unfold flt
  rw [List.filter_filter]
  refine List.filter_congr fun x _ => ?_
  unfold outB noRootB
  have := mem_rootsL (S := S) (k := p) (x := x)
  by_cases h1 : x ∈ pathF S p <;> by_cases h2 : (nd S x.toNat).h = -1 <;> simp [h1, h2, this]

/-- What is seen, root by root. -/
def hidB (S : List Nd) (p : Nat) (x : Int) : Bool := (nd S x.toNat).c && !decide (x ∈ rootsL S p)

theorem seen_L {S : List Nd} {p q : Nat} : seenF S p q = !((rootsL S q).any (hidB S p)) := by
  unfold seenF
  rw [roots_of_L]
  congr 1
  unfold flt
  rw [List.any_filter]
  congr 1
  funext x
  unfold hidB
  cases (nd S x.toNat).c <;> simp

theorem fold_last (f : Int → Int) (p : Int → Bool) : ∀ (l : List Int) (k : Int), l.foldl (fun acc x => if p x then acc else f x) k = if flt p l = [] then k else f ((flt p l).getLastD 0)
  | [], k => by simp [flt]
  | x :: l, k => by
    rw [List.foldl_cons, fold_last f p l]
    by_cases h : p x = true
    · have e : flt p (x :: l) = flt p l := by unfold flt; simp [h]
      rw [e, if_pos h]
    · have e : flt p (x :: l) = x :: flt p l := by unfold flt; simp [h]
      rw [e, if_neg h, if_neg (List.cons_ne_nil _ _)]
      cases hl : flt p l with
      | nil => simp
      | cons y r => simp [List.getLastD]

def tgtF (S : List Nd) (told : Nat) (l : List Int) (k : Int) : Int := l.foldl (fun acc x => if decide (x ∈ rootsL S told) then acc else (nd S x.toNat).h) k

theorem target_L {S : List Nd} {k told : Nat} : targetF S k told = tgtF S told (rootsL S k) k := by
  unfold targetF tgtF
  rw [fold_last (fun x => (nd S x.toNat).h) (fun x => decide (x ∈ rootsL S told)), ← roots_of_L]

theorem take_getD {l : List Int} {i : Nat} (h : i < l.length) : l.take (i + 1) = l.take i ++ [l.getD i 0] := by
  rw [List.take_succ_eq_append_getElem h, getD_elem l 0 h]

end Go.Proofs.Ytebhlcjljdgnkaa

namespace Go.Proofs.Ytebhlcjljdgnkaa
open Go.RowKit

theorem att_low {w w1 : World} {a : Option Addr} {n c : Nat} {p u : Int} (hb : Below (w.heap.size + 1 + 1 + 1 + 1) ((((w.alloc (.cells #[.slice a n c] 24)).alloc (.cells #[.int .i64 p, .int .i64 u] 27)).alloc (.cells #[.slice none 0 0] 24)).alloc (.cells #[.int .i64 0, .int .i64 0] 27)) w1) :
    w1.cell? ⟨w.heap.size, 0, none⟩ = some (.slice a n c) ∧ w1.cell? ⟨w.heap.size + 1, 0, none⟩ = some (.int .i64 p) ∧ w1.cell? ⟨w.heap.size + 1, 1, none⟩ = some (.int .i64 u) ∧ w1.cell? ⟨w.heap.size + 1 + 1, 0, none⟩ = some (.slice none 0 0) ∧ w1.cell? ⟨w.heap.size + 1 + 1 + 1, 0, none⟩ = some (.int .i64 0) ∧ w1.cell? ⟨w.heap.size + 1 + 1 + 1, 1, none⟩ = some (.int .i64 0) ∧ (∀ o, w1.frozen? ⟨w.heap.size + 1 + 1, o, none⟩ = false) ∧ (∀ o, w1.frozen? ⟨w.heap.size + 1 + 1 + 1, o, none⟩ = false) := by
  refine ⟨?_, ?_, ?_, ?_, ?_, ?_, fun o => ?_, fun o => ?_⟩
  all_goals first | exact (hb.cell (by first | (simp; done) | (simp; omega))).trans (by go_simp) | exact (hb.frozen (by first | (simp; done) | (simp; omega))).trans (by go_simp)

set_option maxRecDepth 100000 in
set_option maxHeartbeats 2000000 in
theorem attach_ok (a : Option Addr) (c : Nat) (S : List Nd) (k f : Nat) (u : Int) (cl : Bool) (w : World) (wf : WF S) (hS : NdsAt w a S) (hk : k < S.length) (hE : findE S k u = 0) (hH : hostB S k = false) (hf : f < S.length) (hfr : freeB (nd S f) = true) (hall : ∀ i, i < f → freeB (nd S i) = false) :
    Calls Try.prog 28 #[.agg #[.slice a S.length c], .agg #[.int .i64 (k : Int), .int .i64 u], .bool cl] w fun e w' => ∃ g, e = .returned (.tuple #[.agg #[.slice (some ⟨g, 0, none⟩) S.length S.length], .agg #[.int .i64 (f : Int), .int .i64 ((nd S f).n + 1)], .int .i64 0]) ∧ Below w.heap.size w w' ∧ w.heap.size ≤ g ∧ OwnR w' g (S.set f (rootNd (nd S f) k cl)) := by
  have hN := wf.small
  have D0 : Hid (∀ W, NdsAt W a S → Calls _ _ _ _ _) := fun W hW => find_ok a c S k u W (by omega) wf.big hW hk hE (by have := wf.kids_small hk; omega)
  have d1 := fun W hW => isHost_any a c S (k : Int) W (by omega) hW (by omega)
  rw [hH] at d1
  have D1 : Hid _ := d1
  have D2 : Hid (∀ W, NdsAt W a S → Calls _ _ _ _ _) := fun W hW => make_own a c S 0 W hN (fun i hi => by have := wf.kids_small hi; omega) hW ((wf_iff _).2 wf) (by omega) (by omega) f hf hfr (wf.uses hf).1 hall
  have HS : Hid (NdsAt w a S) := hS
  have RT : Hid (∀ W g, OwnR W g (S.set f (madeNd (nd S f) 0)) → OwnR ((W.setCell ⟨g, f * 8 + 6, none⟩ (.int .i64 (k : Int))).setCell ⟨g, f * 8 + 7, none⟩ (.bool cl)) g (S.set f (rootNd (nd S f) k cl))) := fun W g h => by
    have h2 := h.root (k := f) (by simpa using hf) (k : Int) cl
    rw [nd_set S f f _ hf, if_pos rfl, List.set_set] at h2
    exact h2
  have RC : Hid (∀ W g, OwnR W g (S.set f (madeNd (nd S f) 0)) → g < W.heap.size ∧ (∀ o, W.frozen? ⟨g, o, none⟩ = false) ∧ (∃ v6 v7, W.cell? ⟨g, f * 8 + 6, none⟩ = some v6 ∧ W.cell? ⟨g, f * 8 + 7, none⟩ = some v7)) := fun W g ⟨F, hF, _⟩ => by
    rw [List.length_set] at hF
    exact ⟨hF.lt, hF.frozen, _, _, hF.cell (by omega), hF.cell (by omega)⟩
  have hf2 : (f : Int) < (S.length : Int) := by omega
  have hf3 : decide ((f : Int) < 0) = false := decide_eq_false (by omega)
  clear hS wf hE hH hfr hall d1
  obtain ⟨x0, hx0⟩ : ∃ x, nd S k = x := ⟨_, rfl⟩
  rw [hx0] at D0
  clear hx0
  obtain ⟨S1, hS1⟩ : ∃ S1, S.set f (madeNd (nd S f) 0) = S1 := ⟨_, rfl⟩
  obtain ⟨S2, hS2⟩ : ∃ S2, S.set f (rootNd (nd S f) k cl) = S2 := ⟨_, rfl⟩
  rw [hS1] at D2 RT RC
  rw [hS2] at RT ⊢
  clear hS1 hS2
  generalize (nd S f).n = nf at *
  generalize S.length = n at *
  go_enter Try.func28, Try.ntmps28
  go_wp2_with fail
  refine Calls.mono (D0.out _ (HS.out.below (four_below _ _ _ _ _))) ?_
  rintro e w2 ⟨fg, rfl, hb2, _⟩
  simp only [World.size_alloc] at hb2
  have HB2 : Hid (Below (w.heap.size + 1 + 1 + 1 + 1) ((((w.alloc (.cells #[.slice a n c] 24)).alloc (.cells #[.int .i64 (k : Int), .int .i64 u] 27)).alloc (.cells #[.slice none 0 0] 24)).alloc (.cells #[.int .i64 0, .int .i64 0] 27)) w2) := hb2
  have hs2 := hb2.size
  simp only [World.size_alloc] at hs2
  obtain ⟨l0, l1, l2, l3, l4, l5, l6, l7⟩ := att_low hb2
  have BW : Hid (∀ W, Below (w.heap.size + 1 + 1 + 1 + 1) ((((w.alloc (.cells #[.slice a n c] 24)).alloc (.cells #[.int .i64 (k : Int), .int .i64 u] 27)).alloc (.cells #[.slice none 0 0] 24)).alloc (.cells #[.int .i64 0, .int .i64 0] 27)) W → Below w.heap.size w W) := fun W h => (four_below _ _ _ _ _).trans (h.mono (by omega))
  clear hb2
  have q0 : w.heap.size < w2.heap.size := by omega
  have q1 : w.heap.size + 1 < w2.heap.size := by omega
  go_wp2_with fail
  refine Calls.mono (D1.out _ (HS.out.below (BW.out _ (HB2.out.alloc (by omega) _)))) ?_
  rintro e w3 ⟨rfl, hb3⟩
  simp only [World.size_alloc] at hb3
  have HB3 : Hid (Below (w.heap.size + 1 + 1 + 1 + 1) ((((w.alloc (.cells #[.slice a n c] 24)).alloc (.cells #[.int .i64 (k : Int), .int .i64 u] 27)).alloc (.cells #[.slice none 0 0] 24)).alloc (.cells #[.int .i64 0, .int .i64 0] 27)) w3) := (HB2.out.alloc (by omega) _).trans (hb3.mono (by omega))
  have hs3 := hb3.size
  simp only [World.size_alloc] at hs3
  clear hb3 l0 l1 l2 l3 l4 l5 l6 l7
  obtain ⟨l0, l1, l2, l3, l4, l5, l6, l7⟩ := att_low HB3.out
  go_wp2_with fail
  refine Calls.mono (D2.out _ (HS.out.below (BW.out _ HB3.out))) ?_
  rintro e w4 ⟨g, rfl, hb4, hg4, hO4⟩
  have HB4 : Hid (Below (w.heap.size + 1 + 1 + 1 + 1) ((((w.alloc (.cells #[.slice a n c] 24)).alloc (.cells #[.int .i64 (k : Int), .int .i64 u] 27)).alloc (.cells #[.slice none 0 0] 24)).alloc (.cells #[.int .i64 0, .int .i64 0] 27)) w4) := HB3.out.trans (hb4.mono (by omega))
  have hs4 := hb4.size
  clear hb4 l0 l1 l2 l3 l4 l5 l6 l7
  obtain ⟨l0, l1, l2, l3, l4, l5, l6, l7⟩ := att_low HB4.out
  obtain ⟨hgl, hfz, v6, v7, d6, d7⟩ := RC.out _ _ hO4
  have HO4 : Hid (OwnR w4 g S1) := hO4
  have e1 : ¬ g = w.heap.size + 1 := by omega
  have e2 : ¬ w.heap.size + 1 = g := by omega
  have e3 : ¬ g = w.heap.size + 1 + 1 := by omega
  have e4 : ¬ w.heap.size + 1 + 1 = g := by omega
  have e5 : ¬ g = w.heap.size + 1 + 1 + 1 := by omega
  have e6 : ¬ w.heap.size + 1 + 1 + 1 = g := by omega
  have q2 : w.heap.size + 1 < w4.heap.size := by omega
  have q3 : w.heap.size + 1 + 1 < w4.heap.size := by omega
  have q4 : w.heap.size + 1 + 1 + 1 < w4.heap.size := by omega
  have q5 : w.heap.size < w4.heap.size := by omega
  clear hO4 D0 D1 D2
  go_wp2_with fail
  first
    | (obtain ⟨W6, hW6⟩ : ∃ W6, W6 = ((((w4.setCell ⟨g, f * 8 + 6, none⟩ (.int .i64 (k : Int))).setCell ⟨g, f * 8 + 7, none⟩ (.bool cl)).alloc (.cells #[.slice (some ⟨g, 0, none⟩) n n] 24)).alloc (.cells #[.int .i64 (f : Int), .int .i64 (nf + 1)] 27)) := ⟨_, rfl⟩; rw [← hW6])
    | (obtain ⟨W6, hW6⟩ : ∃ W6, W6 = ((((w4.alloc (.cells #[.slice (some ⟨g, 0, none⟩) n n] 24)).alloc (.cells #[.int .i64 (f : Int), .int .i64 (nf + 1)] 27)).setCell ⟨g, f * 8 + 6, none⟩ (.int .i64 (k : Int))).setCell ⟨g, f * 8 + 7, none⟩ (.bool cl)) := ⟨_, rfl⟩; rw [← hW6])
  have HR6 : Hid (OwnR W6 g S2) := by
    rw [hW6]
    first
      | exact (RT.out w4 g HO4.out).up (fun b _ hlt => (((Below.refl _ _).alloc (Nat.le_refl _) _).alloc (by simp) _).block b hlt)
      | exact RT.out _ g (HO4.out.up (fun b _ hlt => (((Below.refl _ _).alloc (Nat.le_refl _) _).alloc (by simp) _).block b hlt))
  have hs6 : W6.heap.size = w4.heap.size + 1 + 1 := by rw [hW6]; simp
  have HB6 : Hid (Below w.heap.size w W6) := by
    rw [hW6]
    first
      | exact ((((BW.out _ HB4.out).setCell (by simp; omega) _).setCell (by simp; omega) _).alloc (by simp; omega) _).alloc (by simp; omega) _
      | exact ((((BW.out _ HB4.out).alloc (by omega) _).alloc (by simp; omega) _).setCell (by simp; omega) _).setCell (by simp; omega) _
  have y0 : W6.cell? ⟨w4.heap.size, 0, none⟩ = some (.slice (some ⟨g, 0, none⟩) n n) := by rw [hW6]; go_simp
  have y1 : W6.cell? ⟨w4.heap.size + 1, 0, none⟩ = some (.int .i64 (f : Int)) := by rw [hW6]; go_simp
  have y2 : W6.cell? ⟨w4.heap.size + 1, 1, none⟩ = some (.int .i64 (nf + 1)) := by rw [hW6]; go_simp
  have y3 : W6.cell? ⟨w.heap.size + 1 + 1, 0, none⟩ = some (.slice none 0 0) := by rw [hW6]; go_simp
  have y4 : W6.cell? ⟨w.heap.size + 1 + 1 + 1, 0, none⟩ = some (.int .i64 0) := by rw [hW6]; go_simp
  have y5 : W6.cell? ⟨w.heap.size + 1 + 1 + 1, 1, none⟩ = some (.int .i64 0) := by rw [hW6]; go_simp
  have y6 : ∀ o, W6.frozen? ⟨w.heap.size + 1 + 1, o, none⟩ = false := fun o => by rw [hW6]; go_simp
  have y7 : ∀ o, W6.frozen? ⟨w.heap.size + 1 + 1 + 1, o, none⟩ = false := fun o => by rw [hW6]; go_simp
  have z1 : w4.heap.size < W6.heap.size := by omega
  have z2 : w4.heap.size + 1 < W6.heap.size := by omega
  have z3 : w.heap.size + 1 + 1 < W6.heap.size := by omega
  have z4 : w.heap.size + 1 + 1 + 1 < W6.heap.size := by omega
  have z5 : ¬ w4.heap.size = w.heap.size + 1 + 1 := by omega
  have z6 : ¬ w4.heap.size + 1 = w.heap.size + 1 + 1 := by omega
  have z7 : ¬ w4.heap.size = w.heap.size + 1 + 1 + 1 := by omega
  have z8 : ¬ w4.heap.size + 1 = w.heap.size + 1 + 1 + 1 := by omega
  clear hW6 l0 l1 l2 l3 l4 l5 l6 l7 d6 d7 hfz
  go_region
  all_goals (try go_wp2)
  all_goals
    refine bodyPost_ret (v := .tuple #[.agg #[.slice (some ⟨g, 0, none⟩) n n], .agg #[.int .i64 (f : Int), .int .i64 (nf + 1)], .int .i64 0]) (by simp [results, Try.results28, go_sem, y3, y4, y5]) rfl ⟨g, rfl, ?_, by omega, ?_⟩
    · first
        | exact (((HB6.out.setCell (by simp; omega) _).setCell (by simp; omega) _).setCell (by simp; omega) _).drew
        | exact ((HB6.out.setCell (by simp; omega) _).setCell (by simp; omega) _).setCell (by simp; omega) _
    · refine HR6.out.up (fun b hb hlt => ?_)
      first
        | rw [heap_drew, Below.heap_setCell _ _ _ _ (by show b ≠ w.heap.size + 1 + 1 + 1; omega), Below.heap_setCell _ _ _ _ (by show b ≠ w.heap.size + 1 + 1 + 1; omega), Below.heap_setCell _ _ _ _ (by show b ≠ w.heap.size + 1 + 1; omega)]
        | rw [Below.heap_setCell _ _ _ _ (by show b ≠ w.heap.size + 1 + 1 + 1; omega), Below.heap_setCell _ _ _ _ (by show b ≠ w.heap.size + 1 + 1 + 1; omega), Below.heap_setCell _ _ _ _ (by show b ≠ w.heap.size + 1 + 1; omega)]
end Go.Proofs.Ytebhlcjljdgnkaa

namespace Go.Proofs.Ytebhlcjljdgnkaa
open Go.RowKit

set_option maxRecDepth 100000 in
set_option maxHeartbeats 2000000 in
theorem pathFrom_any (a : Option Addr) (c : Nat) (S : List Nd) (k : Nat) (w : World) (hN : S.length ≤ 24) (hk : k < S.length) (hS : NdsAt w a S) :
    Calls Try.prog 31 #[.agg #[.slice a S.length c], .int .i64 (k : Int)] w fun e w' => ∃ v, e = .returned v ∧ Below w.heap.size w w' ∧ w'.ownsRow w.heap.size 3 1 v (pathF S k).length ((pathF S k).map (Value.int .i64)) := by
  have hp := fun W => isPlace_any a c S.length (k : Int) W (by omega)
  rw [isPl_nat.2 hk] at hp
  have CL : Hid (∀ (W W1 : World) (bf : Nat), PathI W a S bf 0 [(k : Int)] W1 → Calls Try.prog 52 #[.agg #[.slice a S.length c], .int .i64 (k : Int), .func (.func 53) #[] #[], .func (.func 54) #[] #[.pointer (some ⟨bf, 0, none⟩)]] W1 fun e w' => e = .returned (.tuple #[]) ∧ ∃ i, PathI W a S bf i (pathF S k) w') := fun W W1 bf h => by
    refine (climb_cnt a c S W1 (k : Int) 53 54 #[.pointer (some ⟨bf, 0, none⟩)] rightUnder pathStep (PathI W a S bf) (fun j => W.heap.size ≤ j) [(k : Int)] (by omega)
      (fun i st w1 h => h.2.1.below h.1) (fun i st w1 w2 h hb => h.below hb)
      (enters_of Try.func53 (by kernel_rfl) rfl) (enters_of Try.func54 (by kernel_rfl) rfl)
      (fun x v w1 => rightUnder_any x v w1)
      (fun i st x w1 hi h _ _ => ?_) h).mono ?_
    · refine (pathVisit_any W a S bf i st x w1 (by omega) h).mono ?_
      rintro e w2 ⟨rfl, g1, g2, g3⟩
      exact ⟨rfl, g1, g2, fun j hj => g3 j _ _ hj (by decide) (by decide)⟩
    · rintro e w' ⟨rfl, ⟨i, _, hI⟩, _⟩
      refine ⟨rfl, i, ?_⟩
      rw [if_pos (isPl_nat.2 hk), climb_line, Int.toNat_natCast] at hI
      exact hI
  have HS : Hid (NdsAt w a S) := hS
  obtain ⟨R, hR⟩ : ∃ R, pathF S k = R := ⟨_, rfl⟩
  rw [hR] at CL ⊢
  have PI : Hid (∀ (W W1 : World) (bf : Nat) st, PathI W a S bf 0 st W1 ↔ (Below W.heap.size W W1 ∧ NdsAt W a S ∧ W.heap.size ≤ bf ∧ st.length = 0 + 1 ∧ ∃ v, W1.heap[bf]? = some (.cells #[v] 33 (0, 0)) ∧ W1.ownsRow W.heap.size 3 1 v st.length (st.map (Value.int .i64)))) := fun W W1 bf st => Iff.rfl
  clear hS hR
  generalize hn : S.length = n at *
  clear hn
  go_enter Try.func31, Try.ntmps31
  go_wp2_with (go_at_call 51; refine (hp _).mono ?_; rintro e w1 ⟨rfl, hb1⟩; simp only [World.size_alloc] at hb1; have l0 : w1.cell? ⟨w.heap.size, 0, none⟩ = some (.slice a n c) := (hb1.cell (by simp)).trans (by go_simp); have hB1 : Below w.heap.size w w1 := ((Below.refl _ _).alloc (Nat.le_refl _) _).trans (hb1.mono (by simp)); have hl0 := World.block_lt_of_cell? _ _ l0; have HB1 : Hid _ := hB1; clear hb1 hB1)
  refine Calls.mono (CL.out w1 _ (w1.heap.size + 1) ((PI.out _ _ _ _).2 ⟨((Below.refl _ _).alloc (Nat.le_refl _) _).alloc (by simp) _, HS.out.below HB1.out, by omega, rfl, .slice (some ⟨w1.heap.size, 0, none⟩) 1 1, ?_, ?_⟩)) ?_
  · have := heap_alloc_new (w1.alloc (.cells #[.int .i64 (k : Int)] 3)) (.cells #[.slice (some ⟨w1.heap.size, 0, none⟩) 1 1] 33)
    simpa using this
  · refine ⟨by simp, Or.inr ⟨w1.heap.size, 1, #[.int .i64 (k : Int)], rfl, Nat.le_refl _, ?_, by simp, by unfold maxLen; omega, by simp, by simp⟩⟩
    have h1 := ((Below.refl (w1.heap.size + 1) (w1.alloc (.cells #[.int .i64 (k : Int)] 3))).alloc (by simp) (.cells #[.slice (some ⟨w1.heap.size, 0, none⟩) 1 1] 33)).block w1.heap.size (by omega)
    have h2 := heap_alloc_new w1 (.cells #[.int .i64 (k : Int)] 3)
    rw [h1]
    simpa using h2
  · rintro e w2 ⟨rfl, i, hI⟩
    obtain ⟨hB2, _, _, _, v, hc, hown⟩ := hI
    have cb := box_cell hc
    have HB2 : Hid (Below w.heap.size w w2) := HB1.out.trans (hB2.mono HB1.out.size)
    have HO : Hid (w2.ownsRow w.heap.size 3 1 v R.length (R.map (Value.int .i64))) := ownsRow_base hown HB1.out.size
    clear hB2 hc hown
    go_wp2
    go_ret
    exact ⟨v, rfl, HB2.out, HO.out⟩
end Go.Proofs.Ytebhlcjljdgnkaa
