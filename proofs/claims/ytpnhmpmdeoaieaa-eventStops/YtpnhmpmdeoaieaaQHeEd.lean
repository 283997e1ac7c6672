/-
  A row of hearers that comes in as an argument.
-/
import Derived.Test.YtpnhmpmdeoaieaaQHa
import Derived.Test.YtpnhmpmdeoaieaaQToTpTq
import Derived.Test.YtpnhmpmdeoaieaaQEc
import Derived.Test.YtpnhmpmdeoaieaaQRsRzRvHg
namespace Go.Proofs.Ytpnhmpmdeoaieaa
open Go.ChangeShapes Go.WideShapes Go.ChangeAt Go.RowKit

set_option maxRecDepth 100000 in
theorem cellsHearer : Try.prog.cellsOf 39 = 5 := by kernel_rfl

theorem hearers_of (len : Nat) (P : Nat → Hr → Prop) (h : ∀ i, i < len → ∃ x, P i x) : ∃ S : List Hr, S.length = len ∧ ∀ i, i < len → P i (hr S i) := by
  induction len with
  | zero => exact ⟨[], rfl, fun i hi => absurd hi (Nat.not_lt_zero _)⟩
  | succ n ih =>
    obtain ⟨S, hl, hS⟩ := ih (fun i hi => h i (by omega))
    obtain ⟨x, hx⟩ := h n (by omega)
    refine ⟨S ++ [x], by simp [hl], fun i hi => ?_⟩
    unfold hr
    by_cases e : i = n
    · subst e
      rw [getD_elem _ _ (by simp [hl])]
      simpa [hl] using hx
    · have hi' : i < S.length := by omega
      have := hS i (by omega)
      unfold hr at this
      rw [getD_elem _ _ hi'] at this
      rw [getD_elem _ _ (by simp; omega), List.getElem_append_left hi']
      exact this

variable {H : Type} {enc : TypeId × Value → H} {w : World} {base : Nat} {spare : Nat → Bool} {held : Bool}

set_option maxRecDepth 100000 in
theorem open_hearers {r : Reach} {b0 : Nat} {v : Value} {d : DataW H} {p : List MemPlace} (hv : Value.okWide Try.prog w r b0 25 v) (h : DataW.Trod enc Try.prog w base spare held 25 v d p) :
    ∃ a c, ∃ q : List Hr, v = .slice a q.length c ∧ q.length ≤ 9223372036854775807 ∧ BigH q ∧ HrsAt w a q := by
  obtain ⟨a0, len0, cap0, rfl⟩ := okWide_slice Try.underlying25 hv
  obtain ⟨fuel, hf⟩ := h
  rcases Go.Deep.open_slice Try.underlying25 hf with ⟨e, _⟩ | ⟨a, len, cap, m, n, D, Pl, e, _, hl, hm, hmm, _, hx⟩
  · simp [Value.cells] at e
    obtain ⟨rfl, rfl, rfl⟩ := e
    exact ⟨none, 0, [], rfl, by simp, fun i hi => absurd hi (Nat.not_lt_zero _), fun i hi => absurd hi (Nat.not_lt_zero _)⟩
  · simp [Value.cells] at e
    obtain ⟨rfl, rfl, rfl⟩ := e
    have hlm : len0 ≤ m := by rw [hmm]; split <;> omega
    obtain ⟨ab, ao, spot⟩ := a
    by_cases h0 : len0 = 0
    · subst h0
      exact ⟨_, cap0, [], rfl, by simp, fun i hi => absurd hi (Nat.not_lt_zero _), fun i hi => absurd hi (Nat.not_lt_zero _)⟩
    · have hsp : spot = none := by
        obtain ⟨cs', hc, ht⟩ := hx 0 (by omega)
        rw [cellsHearer] at hc
        obtain ⟨_, hl8, hce⟩ := World.cells?_some hc
        have h1 := hce 0 (by omega)
        rw [List.getElem?_eq_getElem (by omega)] at h1
        simpa [Addr.add] using World.cell?_spot h1
      subst hsp
      obtain ⟨S, hS1, hS2⟩ := hearers_of len0 (fun i x => (w.cell? ⟨ab, ao + i * 5, none⟩ = some (.int .i64 x.pl) ∧ w.cell? ⟨ab, ao + i * 5 + 1, none⟩ = some (.bool x.dn) ∧ w.cell? ⟨ab, ao + i * 5 + 2, none⟩ = some (.bool x.on) ∧ w.cell? ⟨ab, ao + i * 5 + 3, none⟩ = some (.bool x.st) ∧ w.cell? ⟨ab, ao + i * 5 + 4, none⟩ = some (.int .i64 x.id)) ∧ (Lit.int .i64 x.id).wf = true) (fun i hi => by
        obtain ⟨cs', hc, ht⟩ := hx i (by omega)
        rw [cellsHearer] at hc
        obtain ⟨_, hl2, hce⟩ := World.cells?_some hc
        obtain ⟨xs, n', _, _, hl', hxl, hf'⟩ := DataW.trod_struct Try.underlying39 ht
        match cs', hl2 with
        | [a0, a1, a2, a3, a4], _ =>
          match xs, hxl with
          | [x0, x1, x2, x3, x4], _ =>
            have g0 := hf' 0 _ rfl
            have g1 := hf' 1 _ rfl
            have g2 := hf' 2 _ rfl
            have g3 := hf' 3 _ rfl
            have g4 := hf' 4 _ rfl
            obtain ⟨n0, e0, _⟩ := DataW.trod_int Try.underlying3 g0
            obtain ⟨n1, e1, _⟩ := DataW.trod_bool Try.underlying4 g1
            obtain ⟨n2, e2, _⟩ := DataW.trod_bool Try.underlying4 g2
            obtain ⟨n3, e3, _⟩ := DataW.trod_bool Try.underlying4 g3
            obtain ⟨n4, e4, w4⟩ := DataW.trod_int Try.underlying3 g4
            cases e0; cases e1; cases e2; cases e3; cases e4
            refine ⟨⟨n0, n1, n2, n3, n4⟩, ⟨?_, ?_, ?_, ?_, ?_⟩, ?_⟩
            · have h1 := hce 0 (by omega)
              rwa [add_plain, add_plain] at h1
            · have h1 := hce 1 (by omega)
              rwa [add_plain, add_plain] at h1
            · have h1 := hce 2 (by omega)
              rwa [add_plain, add_plain] at h1
            · have h1 := hce 3 (by omega)
              rwa [add_plain, add_plain] at h1
            · have h1 := hce 4 (by omega)
              rwa [add_plain, add_plain] at h1
            · first | exact w4.1 | exact w4.2 | exact w4)
      exact ⟨some ⟨ab, ao, none⟩, cap0, S, by rw [hS1], by rw [hS1]; unfold maxLen at hm; omega, fun i hi => (hS2 i (by omega)).2, fun i hi => ⟨ab, ao, rfl, (hS2 i (by omega)).1⟩⟩

end Go.Proofs.Ytpnhmpmdeoaieaa

namespace Go.Proofs.Ytpnhmpmdeoaieaa
open Go.RowKit Go.ChangeShapes Go.WideShapes Go.ChangeAt
set_option linter.unusedVariables false

set_option maxRecDepth 100000 in
theorem bytesHearer : Try.prog.bytesOf 39 = 24 := by kernel_rfl

set_option maxRecDepth 100000 in
theorem hearers_reach {H : Type} {enc : TypeId × Value → H} {w : World} {base : Nat} {spare : Nat → Bool} {held : Bool} {a : Option Addr} {n c : Nat} {d : DataW H} {p : List MemPlace} (h : DataW.Trod enc Try.prog w base spare held 25 (.slice a n c) d p) (hw : ∀ n ∈ d.weights Try.prog 25, n ≤ reachBytes) : n * 24 ≤ 140737488355328 := by
  obtain ⟨fuel, hf⟩ := h
  rcases Go.Deep.open_slice Try.underlying25 hf with ⟨e, _⟩ | ⟨a', len, cap, m, n', D, Pl, e, _, hl, hm, hmm, hxe, hx⟩
  · simp [Value.cells] at e
    obtain ⟨rfl, rfl, rfl⟩ := e
    decide
  · simp [Value.cells] at e
    obtain ⟨rfl, rfl, rfl⟩ := e
    obtain ⟨rfl, _⟩ := Prod.mk.inj hxe
    have hlm : n ≤ m := by rw [hmm]; split <;> omega
    have hsize := hw ((((List.range n).map D).length + ((List.range (m - n)).map fun j => D (n + j)).length) * Try.prog.bytesOf 39) (by simp only [DataW.weights, Try.underlying25]; exact List.mem_cons_self)
    rw [bytesHearer] at hsize
    simp only [List.length_map, List.length_range] at hsize
    have hre := reach_small
    omega

set_option maxRecDepth 100000 in
set_option maxHeartbeats 1000000 in
theorem stops_nil (a : Option Addr) (c n : Nat) (la : Option Addr) (lc : Nat) (k0 p u : Int) (w : World) :
    Calls Try.prog 5 #[.agg #[.slice a n c], .slice la 0 lc, .agg #[.int .i64 p, .int .i64 u], .int .i64 k0] w fun e w' => e = .returned (.bool true) ∧ Below w.heap.size w w' := by
  go_enter Try.func5, Try.ntmps5
  go_wp2_with fail
  go_ret
  exact ⟨rfl, three_below _ _ _ _⟩

theorem eventStops_any (a : Option Addr) (c : Nat) (S : List Nd) (la : Option Addr) (lc : Nat) (L : List Hr) (p u k0 : Int) (w : World) (hN : S.length ≤ 9223372036854775807) (hB : Big S) (hS : NdsAt w a S) (hL : L.length ≤ 9223372036854775807) (hBL : BigH L) (hH : HrsAt w la L) (hR : L.length * 24 ≤ 140737488355328) :
    Calls Try.prog 5 #[.agg #[.slice a S.length c], .slice la L.length lc, .agg #[.int .i64 p, .int .i64 u], .int .i64 k0] w fun e w' => e = .returned (.bool true) ∧ Below w.heap.size w w' := by
  by_cases h0 : L.length = 0
  · rw [h0]
    exact stops_nil a c S.length la lc k0 p u w
  obtain ⟨kk, hkk, hat⟩ := at_inE k0 L.length (by omega) (by omega)
  by_cases h1 : findE S p u = 0
  · obtain ⟨wf, k, rfl, hk, _⟩ := find_used h1
    by_cases h2 : hcheckE L S.length = 0
    · obtain ⟨h24, hnd, _⟩ := hcheck_ok h2
      refine stops_ok a c S.length S la lc L k0 k u kk k (toldF (setS L kk true) (spotsF (pathF S k))) (toldF (setS L kk false) (spotsF (pathF S k))) w hS hH (by omega) h24 hnd hkk hat ?_ (fun g hg => (told_mem hg).1) ?_ (stop_facts S k hkk hnd _)
      · intro bb la' lc' W hW hHW
        have h := disp_ok a c S la' lc' (setS L kk bb) k u W wf hW hk h1 (big_set bb hkk hBL) hHW (hrs_noneE hHW) (by rw [hcheck_set bb hkk]; exact h2)
        rw [setS_len] at h
        refine Calls.mono h ?_
        rintro e w' ⟨ca, cc, va, vc, rfl, hb, hC, _, hcn, hcl, hcm⟩
        cases bb
        · exact ⟨ca, cc, va, _, vc, rfl, hb, hC, hcn, hcl, hcm⟩
        · exact ⟨ca, cc, va, _, vc, rfl, hb, hC, hcn, hcl, hcm⟩
      · rw [told_vis]
        have g1 := flat_short (setS L kk true) (visF (stopS (setS L kk true)) (spotsF (pathF S k)))
        have g2 := vis_short (stopS (setS L kk true)) (spotsF (pathF S k))
        have g5 := path_len S k
        have g6 := wf.small
        have g3 : (spotsF (pathF S k)).length ≤ 50 := by unfold spotsF; simp; omega
        have g4 := Nat.mul_le_mul (Nat.le_trans g2 g3) h24
        rw [setS_len] at g1
        omega
    · refine stops_bad a c S.length S la lc L k0 k u _ kk w hS hH (by omega) hR h2 hkk hat (fun bb la' lc' W hW hHW => ?_)
      have h := disp_err2 a c S la' lc' (setS L kk bb) k u _ W wf hW hk h1 (by rw [setS_len]; exact hL) (big_set bb hkk hBL) hHW (hcheck_set bb hkk _) h2
      rw [setS_len] at h
      exact h
  · refine stops_bad a c S.length S la lc L k0 p u _ kk w hS hH (by omega) hR h1 hkk hat (fun bb la' lc' W hW hHW => ?_)
    have h := disp_err1 a c S la' lc' (setS L kk bb) p u _ W hN hB hW rfl h1
    rw [setS_len] at h
    exact h
end Go.Proofs.Ytpnhmpmdeoaieaa
