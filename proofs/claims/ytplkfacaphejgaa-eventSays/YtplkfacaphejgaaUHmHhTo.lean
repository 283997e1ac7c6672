/-
  slices.Backward over numbers: its contract for whatever loop body.
-/
import Derived.Test.YtplkfacaphejgaaURsHfHk
import Derived.RangeFuncNested
import Derived.RangeFuncBound
import Derived.RangeFuncCalls
import Derived.RangeFuncLeaves
import Derived.Shelf.Abstract
import Derived.WalkKit
import Derived.OwnWalkIn
import Derived.TacticsInMore
import Derived.LoopNIn
import Derived.LoopIn
import Derived.Test.YtplkfacaphejgaaUTn
namespace Go.Proofs.Ytplkfacaphejgaa
open Go.RowKit Go.Shelf
attribute [local go_sem] Oper.semAt_some
set_option linter.unusedVariables false

/-- What is left when the last m have not come yet. -/
def lastF (zs : List Int) (m : Nat) : List Int := (zs.drop m).reverse
theorem last_step {zs : List Int} {m : Nat} (h : m < zs.length) : lastF zs m = lastF zs (m + 1) ++ [zs[m]?.getD 0] := by
  unfold lastF
  rw [List.drop_eq_getElem_cons h, List.reverse_cons]
  simp [h]

/-- What a round leaves as it was: two blocks. -/
def KeepTwo (p q : Nat) (A B : World) : Prop := B.heap[p]? = A.heap[p]? ∧ B.heap[q]? = A.heap[q]?

set_option maxRecDepth 100000 in
set_option maxHeartbeats 2000000 in
theorem back1_in (F : Fence) (n : Nat) (hf : F.fn 52) (hro : F.round = none) (hn : 1 ≤ n) (l Bs b off cap : Nat) (zs : List Int) (hlen : zs.length ≤ 1000000) (J Jx : List (Nat × Int) → World → Prop)
    (hY : ∀ pre x W, J pre W → pre.length < zs.length → YieldAt F (n - 1) Try.prog l #[.int .i64 (x.1 : Int), .int .i64 x.2] W fun e W' =>
      (e = .returned (.bool true) ∧ J (pre ++ [x]) W' ∧ KeepTwo Bs b W W') ∨ (e = .returned (.bool false) ∧ Jx (pre ++ [x]) W'))
    (W : World) (hBs : W.cell? ⟨Bs, 0, none⟩ = some (.slice (some ⟨b, off, none⟩) zs.length cap)) (hc : ∀ j, j < zs.length → W.cell? ⟨b, off + j, none⟩ = some (.int .i64 (zs[j]?.getD 0))) (h0 : J [] W) :
    CallsIn F n Try.prog 52 #[.func (.yield l) #[] #[], .pointer (some ⟨Bs, 0, none⟩)] W fun e W' => (∃ v, e = .returned v) ∧
      ((∃ ys, ys.map Prod.snd = zs.reverse ∧ J ys W') ∨ (∃ pre, (∃ m, m ≤ zs.length ∧ pre.map Prod.snd = lastF zs m) ∧ Jx pre W')) := by
  have LS : Hid (∀ m, m < zs.length → lastF zs m = lastF zs (m + 1) ++ [zs[m]?.getD 0]) := fun m h => last_step h
  have L0 : Hid (lastF zs 0 = zs.reverse) := rfl
  have LE : Hid (lastF zs zs.length = []) := (by unfold lastF; simp : lastF zs zs.length = [])
  obtain ⟨len, hl⟩ : ∃ len, zs.length = len := ⟨_, rfl⟩
  rw [hl] at hlen hY hBs hc LS LE ⊢
  clear hl
  refine callsIn_of_wp Try.func52 rfl hf ?_ hro
  simp only [Try.ntmps52, List.size_toArray, List.length_cons, List.length_nil, Nat.reduceAdd, Nat.reduceSub, Array.replicate_succ, Array.replicate_zero, List.push_toArray, List.append_toArray, List.nil_append, List.cons_append]
  gi_wp2
  gi_loopw [3] (fun i wr => ∃ (m : Nat) (pre : List (Nat × Int)), m ≤ len ∧ i = .int .i64 ((m : Int) - 1) ∧ pre.length = len - m ∧ pre.map Prod.snd = lastF zs m ∧ J pre wr ∧ KeepTwo Bs b W wr)
    (fun i _ => (intOf i + 1).toNat)
  case atStart => exact ⟨len, [], Nat.le_refl _, rfl, by simp, LE.out.symm, h0, rfl, rfl⟩
  case round =>
    obtain ⟨m, pre, hm, rfl, hpl, hpm, hJ, hk1, hk2⟩ := hrel
    have hbs : wr.cell? ⟨Bs, 0, none⟩ = some (.slice (some ⟨b, off, none⟩) len cap) := (World.cell?_of_block hk1).trans hBs
    cases m with
    | zero =>
      have hneg : ¬ (0 : Int) ≤ ((0 : Nat) : Int) - 1 := by omega
      gi_wp2
      go_end0
      exact ⟨⟨_, rfl⟩, .inl ⟨pre, hpm.trans L0.out, hJ⟩⟩
    | succ m =>
      have e1 : (((m + 1 : Nat) : Int)) - 1 = (m : Int) := by omega
      rw [e1]
      have hcx : wr.cell? ⟨b, off + m, none⟩ = some (.int .i64 (zs[m]?.getD 0)) := (World.cell?_of_block hk2).trans (hc m (by omega))
      obtain ⟨fn, tmps, assign, body, hy, hR⟩ := hY pre (m, zs[m]?.getD 0) wr hJ (by omega)
      dsimp only at hy
      have hpos : (0 : Int) ≤ (m : Int) := by omega
      have hlt : (m : Int) < (len : Int) := by omega
      gi_wp2
      refine hR.mono ?_
      rintro e W3 (⟨rfl, hJ3, hk3⟩ | ⟨rfl, hJx3⟩)
      · gi_wp2
        go_roundw
        case rel => exact ⟨m, pre ++ [(m, zs[m]?.getD 0)], by omega, by simp, by simp; omega, by rw [List.map_append, hpm, LS.out m (by omega)]; rfl, hJ3, hk3.1.trans hk1, hk3.2.trans hk2⟩
        case measure => simp [intOf]
      · gi_wp2
        refine bodyPost_ret (results_none rfl _ _ _) rfl ?_
        exact ⟨⟨_, rfl⟩, .inr ⟨pre ++ [(m, zs[m]?.getD 0)], ⟨m, by omega, by rw [List.map_append, hpm, LS.out m (by omega)]; rfl⟩, hJx3⟩⟩

set_option maxHeartbeats 1000000 in
theorem back_in (F : Fence) (n : Nat) (hf : F.fn 28) (hro : F.round = none) (a : Option Addr) (len cap : Nat) (w : World) :
    CallsIn F n Try.prog 28 #[.slice a len cap] w fun e w' => e = .returned (.func (.func 52) #[] #[.pointer (some ⟨w.heap.size, 0, none⟩)]) ∧ w' = w.alloc (.cells #[.slice a len cap] 41) := by
  refine callsIn_of_wp Try.func28 rfl hf ?_ hro
  simp only [Try.ntmps28, List.size_toArray, List.length_cons, List.length_nil, Nat.reduceAdd, Nat.reduceSub, Array.replicate_succ, Array.replicate_zero, List.push_toArray, List.append_toArray, List.nil_append, List.cons_append]
  gi_wp2
  go_ret
  exact ⟨rfl, rfl⟩

theorem back_stops (F : Fence) (n : Nat) (hf : F.fn 52) (hro : F.round = none) (hn : 1 ≤ n) (Bs b off cap : Nat) (zs : List Int) (hlen : zs.length ≤ 1000000) (w : World) (hBs : w.cell? ⟨Bs, 0, none⟩ = some (.slice (some ⟨b, off, none⟩) zs.length cap)) (hI : IntsAt w (some ⟨b, off, none⟩) zs) :
    SeqStopsK F n Try.prog 52 #[.pointer (some ⟨Bs, 0, none⟩)] (fun x : Nat × Int => #[Value.int .i64 (x.1 : Int), Value.int .i64 x.2]) (KeepTwo Bs b) (fun ys => ys.map Prod.snd = zs.reverse) (fun pre => ∃ m, m ≤ zs.length ∧ pre.map Prod.snd = lastF zs m) zs.length w := fun l J Jx W hW _ _ hY h0 => by
  refine back1_in F n hf hro hn l Bs b off cap zs hlen J Jx hY W ((hW.cell (World.block_lt_of_cell? _ _ hBs)).trans hBs) (fun j hj => ?_) h0
  obtain ⟨b', o', e, hc⟩ := hI j hj
  cases e
  rw [(hW.cell (World.block_lt_of_cell? _ _ hc)).trans hc]
  rw [List.getD_eq_getElem?_getD]
end Go.Proofs.Ytplkfacaphejgaa

namespace Go.Proofs.Ytplkfacaphejgaa
open Go.RowKit

/-- What is asked of a function value that tells yes or no of a hearer. -/
def TellsHr (Ok : Hr → Prop) (K : Nat) (caps : Array Value) (p : Hr → Bool) (w : World) : Prop :=
  ∀ (x : Hr) (w1 : World), Ok x → Below w.heap.size w w1 → Calls Try.prog K (#[.agg #[.int .i64 x.pl, .bool x.dn, .bool x.on, .bool x.st, .int .i64 x.id]] ++ caps) w1 fun e w2 => e = .returned (.bool (p x)) ∧ Below w1.heap.size w1 w2

set_option maxHeartbeats 800000 in
theorem indexHr_any (Ok : Hr → Prop) (K : Nat) (caps : Array Value) (p : Hr → Bool) (a : Option Addr) (c : Nat) (L : List Hr) (w : World) (hbig : L.length ≤ 9223372036854775807) (hL : HrsAt w a L)
    (eg : ∀ args w, (callFunc K args).run Try.prog w = .ok (.enter K args) w) (hok : ∀ i, i < L.length → Ok (hr L i)) (hf : TellsHr Ok K caps p w) :
    Calls Try.prog 30 #[.slice a L.length c, .func (.func K) #[] caps] w fun e w' => ∃ r : Int, e = .returned (.int .i64 r) ∧ Below w.heap.size w w' ∧
      ((r = -1 ∧ ∀ i, i < L.length → p (hr L i) = false) ∨ (∃ k : Nat, k < L.length ∧ r = k ∧ p (hr L k) = true ∧ ∀ i, i < k → p (hr L i) = false)) := by
  have HS : Hid (HrsAt w a L) := hL
  have HF : Hid (TellsHr Ok K caps p w) := hf
  have HOK : Hid (∀ i, i < L.length → Ok (hr L i)) := hok
  clear hL hf hok
  generalize hn : L.length = n at *
  have HN : Hid _ := hn
  clear hn
  go_enter Try.func30, Try.ntmps30
  go_wp2
  go_loopg [8] n (fun g s8 wr => ∃ k : Nat, k ≤ n ∧ n - k ≤ g ∧ s8 = .int .i64 k ∧ Below w.heap.size w wr ∧ Hid (∀ i, i < k → p (hr L i) = false))
  case atStart => exact ⟨0, by omega, by omega, rfl, Below.refl _ _, fun i hi => by omega⟩
  case round =>
    obtain ⟨k, hk, hg, rfl, hb, A⟩ := hrel
    by_cases hlt : k < n
    · have hlt2 : (k : Int) < (n : Int) := by omega
      obtain ⟨b, o, rfl, c0, c1, c2, c3, c4⟩ := (HS.out.below hb) k (by rw [HN.out]; exact hlt)
      have hcall := HF.out (hr L k) wr (HOK.out k hlt) hb
      cases hq : p (hr L k) with
      | true =>
        have HQ : Hid (p (hr L k) = true) := hq
        rw [hq] at hcall
        clear hq
        generalize hx : hr L k = x at hcall c0 c1 c2 c3 c4
        clear hx
        go_wp2_with (go_at_fn K; refine hcall.mono ?_; rintro e w' ⟨rfl, hb2⟩)
        go_ret
        exact ⟨k, rfl, hb.trans (hb2.mono hb.size), Or.inr ⟨k, hlt, rfl, HQ.out, A.out⟩⟩
      | false =>
        have HQ : Hid (p (hr L k) = false) := hq
        rw [hq] at hcall
        clear hq
        generalize hx : hr L k = x at hcall c0 c1 c2 c3 c4
        clear hx
        go_wp2_with (go_at_fn K; refine hcall.mono ?_; rintro e w' ⟨rfl, hb2⟩)
        go_roundg (n - (k + 1))
        case measure => omega
        case rel =>
          refine ⟨k + 1, by omega, by omega, by go_num, hb.trans (hb2.mono hb.size), (show Hid _ from fun i hi => ?_)⟩
          by_cases e : i = k
          · subst e
            exact HQ.out
          · exact A.out i (by omega)
    · have : k = n := by omega
      subst this
      go_wp2
      go_ret
      exact ⟨-1, rfl, hb, Or.inl ⟨rfl, A.out⟩⟩

end Go.Proofs.Ytplkfacaphejgaa

namespace Go.Proofs.Ytplkfacaphejgaa
open Go.RowKit

theorem big_of {S : List Nd} (h : ∀ i, i < S.length → (nd S i).ks.length ≤ 1000) : Big S := fun i hi => Nat.le_trans (h i hi) (by omega)

theorem grown_low {w w1 : World} {g : Nat} (hb : Below (w.heap.size + 1 + 1) ((w.alloc (.cells #[.slice (some ⟨g, 0, none⟩) 6 6] 24)).alloc (.cells #[.int .i64 0, .int .i64 1, .int .i64 1, .int .i64 1, .int .i64 2, .int .i64 1] 64)) w1) :
    w1.cell? ⟨w.heap.size, 0, none⟩ = some (.slice (some ⟨g, 0, none⟩) 6 6) ∧ w1.cell? ⟨w.heap.size + 1, 0, none⟩ = some (.int .i64 0) ∧ w1.cell? ⟨w.heap.size + 1, 1, none⟩ = some (.int .i64 1) ∧ w1.cell? ⟨w.heap.size + 1, 2, none⟩ = some (.int .i64 1) ∧ w1.cell? ⟨w.heap.size + 1, 3, none⟩ = some (.int .i64 1) := by
  refine ⟨?_, ?_, ?_, ?_, ?_⟩
  · exact (hb.cell (by first | (simp; done) | (simp; omega))).trans (by go_simp)
  · exact (hb.cell (by first | (simp; done) | (simp; omega))).trans (by go_simp)
  · exact (hb.cell (by first | (simp; done) | (simp; omega))).trans (by go_simp)
  · exact (hb.cell (by first | (simp; done) | (simp; omega))).trans (by go_simp)
  · exact (hb.cell (by first | (simp; done) | (simp; omega))).trans (by go_simp)

end Go.Proofs.Ytplkfacaphejgaa
