/-
  What is shown under a node as the program tells it: Flat.
-/
import Derived.Test.YthlpkdmmkfhleacJLg
namespace Go.Proofs.Ythlpkdmmkfhleac
open Go.RowKit

set_option maxRecDepth 100000 in
set_option maxHeartbeats 1000000 in
theorem show1_root (a : Option Addr) (c : Nat) (S : List Nd) (bs bg p r : Nat) (ka : Option Addr) (kl kc : Nat) (w : World) (hN : S.length ≤ 24) (hr : r < S.length) (er : rootE S p = r) (hS : NdsAt w a S) (cb : w.cell? ⟨bs, 0, none⟩ = some (.slice a S.length c)) (ck : ∃ b o, a = some ⟨b, o, none⟩ ∧ w.cell? ⟨b, o + r * 8 + 5, none⟩ = some (.slice ka kl kc)) :
    Calls Try.prog 49 #[.int .i64 (p : Int), .pointer (some ⟨bs, 0, none⟩), .pointer (some ⟨bg, 0, none⟩)] w fun e w' => e = .returned (.slice ka kl kc) ∧ Below w.heap.size w w' := by
  have d := rootOf_any a c S (p : Int) w (by omega) hS
  rw [er] at d
  have D : Hid _ := d
  obtain ⟨b, o, rfl, ck⟩ := ck
  have hr2 : (r : Int) < (S.length : Int) := by omega
  have hr3 : ((r : Int) == -1) = false := by simp
  have hr4 : decide ((r : Int) = -1) = false := by simp
  clear d hS er
  generalize S.length = n at *
  go_enter Try.func49, Try.ntmps49
  go_wp2_with fail
  refine Calls.mono D.out ?_
  rintro e w1 ⟨rfl, hb⟩
  have cb1 := keepC cb hb
  have ck1 := keepC ck hb
  have HB : Hid _ := hb
  clear hb cb ck
  go_wp2_with fail
  go_ret
  exact ⟨rfl, HB.out⟩

set_option maxRecDepth 100000 in
set_option maxHeartbeats 1000000 in
theorem show1_given (a : Option Addr) (c : Nat) (S : List Nd) (bs bg gb p : Nat) (ka : Option Addr) (kl kc : Nat) (w : World) (hN : S.length ≤ 24) (hp : p < S.length) (er : rootE S p = -1) (hS : NdsAt w a S) (cb : w.cell? ⟨bs, 0, none⟩ = some (.slice a S.length c)) (cg : w.cell? ⟨bg, 0, none⟩ = some (.slice (some ⟨gb, 0, none⟩) S.length S.length)) (ck : w.cell? ⟨gb, p, none⟩ = some (.slice ka kl kc)) (hk : 0 < kl) :
    Calls Try.prog 49 #[.int .i64 (p : Int), .pointer (some ⟨bs, 0, none⟩), .pointer (some ⟨bg, 0, none⟩)] w fun e w' => e = .returned (.slice ka kl kc) ∧ Below w.heap.size w w' := by
  have d := rootOf_any a c S (p : Int) w (by omega) hS
  rw [er] at d
  have D : Hid _ := d
  have hp2 : (p : Int) < (S.length : Int) := by omega
  have hk2 : (0 : Int) < (kl : Int) := by omega
  clear d hS er
  generalize S.length = n at *
  go_enter Try.func49, Try.ntmps49
  go_wp2_with fail
  refine Calls.mono D.out ?_
  rintro e w1 ⟨rfl, hb⟩
  have cb1 := keepC cb hb
  have cg1 := keepC cg hb
  have ck1 := keepC ck hb
  have HB : Hid _ := hb
  clear hb cb ck cg
  go_wp2_with fail
  go_ret
  exact ⟨rfl, HB.out⟩

set_option maxRecDepth 100000 in
set_option maxHeartbeats 1000000 in
theorem show1_kids (a : Option Addr) (c : Nat) (S : List Nd) (bs bg gb p : Nat) (ka ga : Option Addr) (kl kc gc : Nat) (w : World) (hN : S.length ≤ 24) (hp : p < S.length) (er : rootE S p = -1) (hS : NdsAt w a S) (cb : w.cell? ⟨bs, 0, none⟩ = some (.slice a S.length c)) (cg : w.cell? ⟨bg, 0, none⟩ = some (.slice (some ⟨gb, 0, none⟩) S.length S.length)) (ck : w.cell? ⟨gb, p, none⟩ = some (.slice ga 0 gc)) (cn : ∃ b o, a = some ⟨b, o, none⟩ ∧ w.cell? ⟨b, o + p * 8 + 5, none⟩ = some (.slice ka kl kc)) :
    Calls Try.prog 49 #[.int .i64 (p : Int), .pointer (some ⟨bs, 0, none⟩), .pointer (some ⟨bg, 0, none⟩)] w fun e w' => e = .returned (.slice ka kl kc) ∧ Below w.heap.size w w' := by
  have d := rootOf_any a c S (p : Int) w (by omega) hS
  rw [er] at d
  have D : Hid _ := d
  obtain ⟨b, o, rfl, cn⟩ := cn
  have hp2 : (p : Int) < (S.length : Int) := by omega
  clear d hS er
  generalize S.length = n at *
  go_enter Try.func49, Try.ntmps49
  go_wp2_with fail
  refine Calls.mono D.out ?_
  rintro e w1 ⟨rfl, hb⟩
  have cb1 := keepC cb hb
  have cg1 := keepC cg hb
  have ck1 := keepC ck hb
  have cn1 := keepC cn hb
  have HB : Hid _ := hb
  clear hb cb ck cg cn
  go_wp2_with fail
  go_ret
  exact ⟨rfl, HB.out⟩

/-- Flat's order. -/
def flatF (S : List Nd) (k : Nat) : List Int := orderG (showF S (givT S S.length)) (farF S) k

/-- What is asked of Flat's closure by a walk. -/
theorem show_rows (a : Option Addr) (c : Nat) (S : List Nd) (bs bg gb : Nat) (w : World) (wf : WF S) (hS : NdsAt w a S) (cb : w.cell? ⟨bs, 0, none⟩ = some (.slice a S.length c)) (cg : w.cell? ⟨bg, 0, none⟩ = some (.slice (some ⟨gb, 0, none⟩) S.length S.length)) (hG : GivAt w gb S.length (givT S S.length)) (p : Nat) (hp : p < S.length) :
    ∃ ka kc, (showF S (givT S S.length) p).length ≤ 9223372036854775807 ∧ (∀ w1, Below w.heap.size w w1 → IntsAt w1 ka (showF S (givT S S.length) p)) ∧ ∀ w1, Below w.heap.size w w1 → Calls Try.prog 49 (#[.int .i64 (p : Int)] ++ #[.pointer (some ⟨bs, 0, none⟩), .pointer (some ⟨bg, 0, none⟩)]) w1 fun e w2 => e = .returned (.slice ka (showF S (givT S S.length) p).length kc) ∧ Below w1.heap.size w1 w2 := by
  have hN := wf.small
  unfold showF
  by_cases hr : rootE S p = -1
  · rw [if_neg (by simpa using hr)]
    obtain ⟨ga, gc, g1, g2, _⟩ := hG.1 p hp
    by_cases hg : givT S S.length p = []
    · rw [if_neg (by simpa using hg)]
      rw [hg] at g1
      obtain ⟨b, o, ea, _, _, _, _, _, ⟨ka, kc, c5, hks⟩, _⟩ := hS p hp
      exact ⟨ka, kc, by have := wf.kids_small hp; omega, fun w1 h1 => hks.below h1, fun w1 h1 => show1_kids a c S bs bg gb p ka ga _ kc gc w1 hN hp hr (hS.below h1) (keepC cb h1) (keepC cg h1) (keepC g1 h1) ⟨b, o, ea, keepC c5 h1⟩⟩
    · rw [if_pos (by simpa using hg)]
      have hpos : 0 < (givT S S.length p).length := List.length_pos_iff.2 hg
      exact ⟨ga, gc, by have := (giv_small wf (Nat.le_refl S.length) (p := p)).1; omega, fun w1 h1 => g2.below h1, fun w1 h1 => show1_given a c S bs bg gb p ga _ gc w1 hN hp hr (hS.below h1) (keepC cb h1) (keepC cg h1) (keepC g1 h1) hpos⟩
  · rw [if_pos (by simpa using hr)]
    obtain ⟨r, h1, h2, _⟩ := rootE_cases S p hr
    rw [h2, Int.toNat_natCast]
    obtain ⟨b, o, ea, _, _, _, _, _, ⟨ka, kc, c5, hks⟩, _⟩ := hS r h1
    exact ⟨ka, kc, by have := wf.kids_small h1; omega, fun w1 h1 => hks.below h1, fun w1 hb => show1_root a c S bs bg p r ka _ kc w1 hN h1 h2 (hS.below hb) (keepC cb hb) ⟨b, o, ea, keepC c5 hb⟩⟩

set_option maxRecDepth 100000 in
set_option maxHeartbeats 1000000 in
theorem flat_err (a : Option Addr) (c : Nat) (S : List Nd) (p u E : Int) (w : World) (hN : S.length ≤ 9223372036854775807) (hB : Big S) (hS : NdsAt w a S) (hE : findE S p u = E) (hE0 : E ≠ 0) :
    Calls Try.prog 14 #[.agg #[.slice a S.length c], .agg #[.int .i64 p, .int .i64 u]] w fun e w' => e = .returned (.tuple #[.slice none 0 0, .int .i64 E]) ∧ Below w.heap.size w w' := by
  have D : Hid (∀ W, NdsAt W a S → Calls _ _ _ _ _) := fun W hW => find_err a c S p u E W hN hB hW hE hE0
  have HS : Hid (NdsAt w a S) := hS
  have e1 : (E == 0) = false := beq_eq_false_iff_ne.2 hE0
  have e2 : decide (E = 0) = false := decide_eq_false hE0
  clear hS hE hB
  generalize S.length = n at *
  go_enter Try.func14, Try.ntmps14
  go_wp2_with fail
  refine Calls.mono (D.out _ (HS.out.below (two_belowS _ _ _))) ?_
  rintro e w1 ⟨rfl, hb⟩
  have HB : Hid (Below w.heap.size w w1) := (two_belowS w _ _).trans (hb.mono (by simp; omega))
  clear hb
  go_wp2_with fail
  exact bodyPost_ret (v := .tuple #[.slice none 0 0, .int .i64 E]) (by simp [results, Try.results14, go_sem]) rfl ⟨rfl, HB.out.trans ((one_belowS _ _).mono HB.out.size)⟩

theorem flatF_le {S : List Nd} (wf : WF S) {k : Nat} (hk : k < S.length) : (flatF S k).length ≤ S.length := orderG_le wf (giv_ok wf) hk (farF S)

theorem walk_flat (a : Option Addr) (c : Nat) (S : List Nd) (k bs bg gb : Nat) (w : World) (wf : WF S) (hk : k < S.length) (hS : NdsAt w a S) (cb : w.cell? ⟨bs, 0, none⟩ = some (.slice a S.length c)) (cg : w.cell? ⟨bg, 0, none⟩ = some (.slice (some ⟨gb, 0, none⟩) S.length S.length)) (hG : GivAt w gb S.length (givT S S.length)) :
    Calls Try.prog 51 #[.int .i64 (k : Int), .func (.func 49) #[] #[.pointer (some ⟨bs, 0, none⟩), .pointer (some ⟨bg, 0, none⟩)]] w fun e w' => ∃ sa cap, e = .returned (.slice sa (flatF S k).length cap) ∧ Below w.heap.size w w' ∧ IntsAt w' sa (flatF S k) := by
  have hN := wf.small
  have hl := flatF_le wf hk
  unfold flatF at hl ⊢
  refine (walk_any (showF S (givT S S.length)) S.length 49 #[.pointer (some ⟨bs, 0, none⟩), .pointer (some ⟨bg, 0, none⟩)] k (farF S) w (enters_of Try.func49 (by kernel_rfl) rfl) (fun p hp => show_rows a c S bs bg gb w wf hS cb cg hG p hp) hk (deep_show_all wf (giv_ok wf) hk) (by omega)).mono fun e w' ⟨sa, cap, h1, h2, h3, _⟩ => ⟨sa, cap, h1, h2, h3⟩

set_option maxRecDepth 100000 in
set_option maxHeartbeats 1000000 in
theorem flat_ok (a : Option Addr) (c : Nat) (S : List Nd) (k : Nat) (u : Int) (w : World) (wf : WF S) (hS : NdsAt w a S) (hk : k < S.length) (hE : findE S k u = 0) :
    Calls Try.prog 14 #[.agg #[.slice a S.length c], .agg #[.int .i64 (k : Int), .int .i64 u]] w fun e w' => ∃ sa cap, e = .returned (.tuple #[.slice sa (flatF S k).length cap, .int .i64 0]) ∧ Below w.heap.size w w' ∧ IntsAt w' sa (flatF S k) := by
  have hN := wf.small
  have D : Hid (∀ W, NdsAt W a S → Calls _ _ _ _ _) := fun W hW => find_ok a c S k u W (by omega) wf.big hW hk hE (by have := wf.kids_small hk; omega)
  have DG : Hid (∀ W, NdsAt W a S → Calls _ _ _ _ _) := fun W hW => giv_any a c S W wf hW
  have DW : Hid (∀ bs bg gb W, NdsAt W a S → World.cell? W ⟨bs, 0, none⟩ = some (.slice a S.length c) → World.cell? W ⟨bg, 0, none⟩ = some (.slice (some ⟨gb, 0, none⟩) S.length S.length) → GivAt W gb S.length (givT S S.length) → Calls _ _ _ _ _) := fun bs bg gb W h1 h2 h3 h4 => walk_flat a c S k bs bg gb W wf hk h1 h2 h3 h4
  have HS : Hid (NdsAt w a S) := hS
  clear hS hE wf
  generalize flatF S k = F at *
  generalize nd S k = x at *
  obtain ⟨xu, xn, xt, xm, xp, xks, xh, xc⟩ := x
  generalize givT S S.length = G at *
  generalize S.length = n at *
  dsimp only at D
  obtain ⟨fl, hfl⟩ : ∃ z, F.length = z := ⟨_, rfl⟩
  rw [hfl] at DW ⊢
  obtain ⟨xl, hxl⟩ : ∃ z, xks.length = z := ⟨_, rfl⟩
  rw [hxl] at D
  clear hfl hxl
  go_enter Try.func14, Try.ntmps14
  go_wp2_with fail
  refine Calls.mono (D.out _ (HS.out.below (two_belowS _ _ _))) ?_
  rintro e w1 ⟨g, rfl, hb, _⟩
  have l0 := keepC (alloc_cell1 w #[.slice a n c] 24 0 (.cells #[.int .i64 (k : Int), .int .i64 u] 26) rfl) hb
  have l1 := keepC (alloc_cell2 w #[.int .i64 (k : Int), .int .i64 u] 26 0 (.cells #[.slice a n c] 24) rfl) hb
  have q0 := World.block_lt_of_cell? _ _ l0
  have q1 := World.block_lt_of_cell? _ _ l1
  have HB : Hid (Below w.heap.size w w1) := (two_belowS w _ _).trans (hb.mono (by simp; omega))
  clear hb D
  go_wp2_with fail
  refine Calls.mono (DG.out _ (HS.out.below (HB.out.trans ((one_belowS _ _).mono HB.out.size)))) ?_
  rintro e w2 ⟨rfl, hb, hsz, hG⟩
  have m0 := keepC (keepC l0 (one_belowS _ _)) hb
  have m1 := keepC (keepC l1 (one_belowS _ _)) hb
  have r0 := World.block_lt_of_cell? _ _ m0
  have r1 := World.block_lt_of_cell? _ _ m1
  have HB2 : Hid (Below w.heap.size w w2) := (HB.out.trans ((one_belowS _ _).mono HB.out.size)).trans (hb.mono (by have := HB.out.size; simp; omega))
  have HG : Hid (GivAt w2 _ n G) := hG
  clear hb l0 l1 q0 q1 DG hG
  simp only [World.size_alloc] at HG hsz ⊢
  generalize w1.heap.size + 1 + 1 = gb at *
  go_wp2_with fail
  refine Calls.mono (DW.out _ _ _ _ (HS.out.below (HB2.out.trans ((one_belowS _ _).mono HB2.out.size))) (keepC m0 (one_belowS _ _)) (alloc_cell w2 _ _ 0 rfl) (GivAt.below HG.out hsz (one_belowS _ _))) ?_
  rintro e w3 ⟨sa, cap, rfl, hb, hI⟩
  have HB3 : Hid (Below w.heap.size w w3) := (HB2.out.trans ((one_belowS _ _).mono HB2.out.size)).trans (hb.mono (by have := HB2.out.size; simp; omega))
  have HI : Hid _ := hI
  clear hb hI DW HG m0 m1
  go_wp2_with fail
  exact bodyPost_ret (v := .tuple #[.slice sa fl cap, .int .i64 0]) (by simp [results, Try.results14, go_sem]) rfl ⟨sa, cap, rfl, HB3.out, HI.out⟩
end Go.Proofs.Ythlpkdmmkfhleac
