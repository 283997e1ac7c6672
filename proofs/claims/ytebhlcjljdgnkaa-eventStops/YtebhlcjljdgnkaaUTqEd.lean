/-
  How a store that comes in as an argument reads, with the reach of its rows.
-/
import Derived.Test.YtebhlcjljdgnkaaUNxTp
import Derived.SizedLaws
import Derived.Test.YtebhlcjljdgnkaaUEc
import Derived.Test.YtebhlcjljdgnkaaUHvHwHe
import Derived.Test.YtebhlcjljdgnkaaUHgHhHiTo
namespace Go.Proofs.Ytebhlcjljdgnkaa
open Go.ChangeShapes Go.WideShapes Go.ChangeAt Go.RowKit
set_option linter.unusedVariables false

variable {H : Type} {enc : TypeId × Value → H} {w : World} {base : Nat} {spare : Nat → Bool} {held : Bool}

set_option maxRecDepth 100000 in
theorem bytesInt : Try.prog.bytesOf 3 = 8 := by kernel_rfl
set_option maxRecDepth 100000 in
theorem bytesNode : Try.prog.bytesOf 48 = 80 := by kernel_rfl
theorem reach_small : reachBytes ≤ 140737488355328 := by decide

theorem wAll_mem {P : Program} {e : TypeId} : ∀ {l : List (DataW H)} {d : DataW H}, d ∈ l → ∀ n ∈ d.weights P e, n ∈ DataW.weightsAll P e l
  | d' :: r, d, hd, n, hn => by
    simp only [DataW.weightsAll, List.mem_append]
    rcases List.mem_cons.1 hd with rfl | h
    · exact Or.inl hn
    · exact Or.inr (wAll_mem h n hn)

theorem wEach_mem {P : Program} : ∀ {ts : List TypeId} {ds : List (DataW H)} {j : Nat} {t : TypeId} {d : DataW H}, ts[j]? = some t → ds[j]? = some d → ∀ n ∈ d.weights P t, n ∈ DataW.weightsEach P ts ds
  | [], _, _, _, _, h, _, _, _ => by simp at h
  | _ :: _, [], _, _, _, _, h, _, _ => by simp at h
  | t' :: ts, d' :: ds, 0, t, d, h1, h2, n, hn => by
    simp at h1 h2
    subst h1 h2
    simp only [DataW.weightsEach, List.mem_append]
    exact Or.inl hn
  | t' :: ts, d' :: ds, j + 1, t, d, h1, h2, n, hn => by
    simp only [DataW.weightsEach, List.mem_append]
    exact Or.inr (wEach_mem (j := j) (by simpa using h1) (by simpa using h2) n hn)

set_option maxRecDepth 100000 in
theorem kids_reach {fuel : Nat} {ka : Option Addr} {L kc : Nat} {x : DataW H × List MemPlace} (h : DataW.trod enc Try.prog w base spare held fuel 33 [.slice ka L kc] = some x) (hw : ∀ n ∈ x.1.weights Try.prog 33, n ≤ reachBytes) : L * 8 ≤ 140737488355328 := by
  rcases open_ints Try.underlying33 Try.underlying3 cells3 h with ⟨e, _⟩ | ⟨a, len, cap, zs, e, _, hl, hm, hz, hx, _⟩
  · cases e; decide
  · cases e
    subst hx
    have := hw ((((lits .i64 (zs.take L) : List (DataW H)).length + (lits .i64 (zs.drop L) : List (DataW H)).length)) * Try.prog.bytesOf 3) (by simp only [DataW.weights, Try.underlying33]; exact List.mem_cons_self)
    rw [bytesInt] at this
    have hlz : L ≤ zs.length := by rw [hz]; split <;> omega
    simp only [lits, List.length_map, List.length_take, List.length_drop] at this
    have := reach_small
    omega

set_option maxRecDepth 100000 in
theorem open_node_w {fuel b o : Nat} {cs : List Value} {x : DataW H × List MemPlace} (h : DataW.trod enc Try.prog w base spare held fuel 48 cs = some x) (hc : ∀ j, j < 8 → w.cell? ⟨b, o + j, none⟩ = cs[j]?) (hw : ∀ n ∈ x.1.weights Try.prog 48, n ≤ reachBytes) :
    ∃ nd : Nd, NdAt w b o nd ∧ nd.ks.length * 8 ≤ 140737488355328 := by
  obtain ⟨xs, n, _, hx, hl, hxl, hf⟩ := DataW.trod_struct Try.underlying48 h
  rw [cells36] at hl
  subst hx
  match cs, hl with
  | [a0, a1, a2, a3, a4, a5, a6, a7], _ =>
    match xs, hxl with
    | [x0, x1, x2, x3, x4, x5, x6, x7], _ =>
      have g0 := hf 0 _ rfl
      have g1 := hf 1 _ rfl
      have g2 := hf 2 _ rfl
      have g3 := hf 3 _ rfl
      have g4 := hf 4 _ rfl
      have g5 := hf 5 _ rfl
      have g6 := hf 6 _ rfl
      have g7 := hf 7 _ rfl
      have w5 : ∀ n ∈ x5.1.weights Try.prog 33, n ≤ reachBytes := fun n hn => hw n (by
        simp only [DataW.weights, Try.underlying48]
        exact wEach_mem (j := 5) rfl rfl n hn)
      obtain ⟨u, e0, _⟩ := DataW.trod_bool Try.underlying4 g0
      obtain ⟨n1, e1, _⟩ := DataW.trod_int Try.underlying3 g1
      obtain ⟨n2, e2, _⟩ := DataW.trod_int Try.underlying3 g2
      obtain ⟨n3, e3, _⟩ := DataW.trod_int Try.underlying3 g3
      obtain ⟨n4, e4, _⟩ := DataW.trod_int Try.underlying3 g4
      obtain ⟨ka, kc, ks, e5, hks, hI⟩ := open_kids g5
      obtain ⟨n6, e6, _⟩ := DataW.trod_int Try.underlying3 g6
      obtain ⟨u7, e7, _⟩ := DataW.trod_bool Try.underlying4 g7
      cases e0; cases e1; cases e2; cases e3; cases e4; cases e5; cases e6; cases e7
      refine ⟨⟨u, n1, n2, n3, n4, ks, n6, u7⟩, ⟨?_, ?_, ?_, ?_, ?_, ⟨ka, kc, ?_, hI⟩, ?_, ?_⟩, kids_reach g5 w5⟩
      · exact hc 0 (by omega)
      · exact hc 1 (by omega)
      · exact hc 2 (by omega)
      · exact hc 3 (by omega)
      · exact hc 4 (by omega)
      · exact hc 5 (by omega)
      · exact hc 6 (by omega)
      · exact hc 7 (by omega)

set_option maxRecDepth 100000 in
theorem open_nodes_w {fuel : Nat} {cs : List Value} {x : DataW H × List MemPlace} (h : DataW.trod enc Try.prog w base spare held fuel 22 cs = some x) (hw : ∀ n ∈ x.1.weights Try.prog 22, n ≤ reachBytes) :
    ∃ a c, ∃ S : List Nd, cs = [.slice a S.length c] ∧ S.length * 80 ≤ 140737488355328 ∧ (∀ i, i < S.length → (nd S i).ks.length * 8 ≤ 140737488355328) ∧ NdsAt w a S := by
  rcases Go.Deep.open_slice Try.underlying22 h with ⟨rfl, _⟩ | ⟨a, len, cap, m, n, D, Pl, rfl, _, hl, hm, hmm, hxe, hx⟩
  · exact ⟨none, 0, [], rfl, by simp, fun i hi => absurd hi (Nat.not_lt_zero _), fun i hi => absurd hi (Nat.not_lt_zero _)⟩
  · have hlm : len ≤ m := by rw [hmm]; split <;> omega
    subst hxe
    obtain ⟨ab, ao, spot⟩ := a
    by_cases h0 : len = 0
    · subst h0
      exact ⟨_, cap, [], rfl, by simp, fun i hi => absurd hi (Nat.not_lt_zero _), fun i hi => absurd hi (Nat.not_lt_zero _)⟩
    · have hsp : spot = none := by
        obtain ⟨cs', hc, ht⟩ := hx 0 (by omega)
        rw [cells36] at hc
        obtain ⟨_, hl8, hce⟩ := World.cells?_some hc
        have h1 := hce 0 (by omega)
        rw [List.getElem?_eq_getElem (by omega)] at h1
        simpa [Addr.add] using World.cell?_spot h1
      subst hsp
      have hsize := hw ((((List.range len).map D).length + ((List.range (m - len)).map fun j => D (len + j)).length) * Try.prog.bytesOf 48) (by simp only [DataW.weights, Try.underlying22]; exact List.mem_cons_self)
      rw [bytesNode] at hsize
      simp only [List.length_map, List.length_range] at hsize
      have hre := reach_small
      obtain ⟨S, hS1, hS2⟩ := list_of len (fun i x => NdAt w ab (ao + i * 8) x ∧ x.ks.length * 8 ≤ 140737488355328) (fun i hi => by
        obtain ⟨cs', hc, ht⟩ := hx i (by omega)
        rw [cells36] at hc
        obtain ⟨_, hl8, hce⟩ := World.cells?_some hc
        refine open_node_w ht (fun j hj => ?_) (fun n hn => hw n ?_)
        · have h1 := hce j hj
          rwa [add_plain, add_plain] at h1
        · simp only [DataW.weights, Try.underlying22]
          exact List.mem_cons_of_mem _ (List.mem_append_left _ (wAll_mem (List.mem_map.2 ⟨i, List.mem_range.2 hi, rfl⟩) n hn)))
      exact ⟨some ⟨ab, ao, none⟩, cap, S, by rw [hS1], by rw [hS1]; omega, fun i hi => (hS2 i (by omega)).2, fun i hi => ⟨ab, ao, rfl, (hS2 i (by omega)).1⟩⟩

set_option maxRecDepth 100000 in
theorem open_store_w {r : Reach} {b0 : Nat} {v : Value} {d : DataW H} {p : List MemPlace} (hv : Value.okWide Try.prog w r b0 24 v) (h : DataW.Trod enc Try.prog w base spare held 24 v d p) (hw : ∀ n ∈ d.weights Try.prog 24, n ≤ reachBytes) :
    ∃ a c, ∃ S : List Nd, v = .agg #[.slice a S.length c] ∧ S.length * 80 ≤ 140737488355328 ∧ (∀ i, i < S.length → (nd S i).ks.length * 8 ≤ 140737488355328) ∧ NdsAt w a S := by
  obtain ⟨cs, rfl, hsz⟩ := okWide_struct Try.underlying24 hv
  rw [cells24] at hsz
  obtain ⟨c0, rfl⟩ : ∃ c0, cs = #[c0] := by
    obtain ⟨l⟩ := cs
    match l, hsz with
    | [c0], _ => exact ⟨c0, rfl⟩
  obtain ⟨fuel, hf⟩ := h
  obtain ⟨y0, n, hd, _, h0⟩ := trod_struct1 Try.underlying24 hf
  obtain ⟨rfl, _⟩ := Prod.mk.inj hd
  obtain ⟨a, c, S, e, h1, h2, h3⟩ := open_nodes_w h0 (fun n hn => hw n (by
    simp only [DataW.weights, Try.underlying24]
    exact wEach_mem (j := 0) rfl rfl n hn))
  cases e
  exact ⟨a, c, S, rfl, h1, h2, h3⟩
end Go.Proofs.Ytebhlcjljdgnkaa

namespace Go.Proofs.Ytebhlcjljdgnkaa
open Go.RowKit Go.ChangeShapes Go.WideShapes Go.ChangeAt
set_option linter.unusedVariables false

set_option maxRecDepth 100000 in
theorem bytesHearer : Try.prog.bytesOf 41 = 24 := by kernel_rfl

set_option maxRecDepth 100000 in
theorem hearers_reach {H : Type} {enc : TypeId × Value → H} {w : World} {base : Nat} {spare : Nat → Bool} {held : Bool} {a : Option Addr} {n c : Nat} {d : DataW H} {p : List MemPlace} (h : DataW.Trod enc Try.prog w base spare held 25 (.slice a n c) d p) (hw : ∀ n ∈ d.weights Try.prog 25, n ≤ reachBytes) : n * 24 ≤ 140737488355328 := by
  obtain ⟨fuel, hf⟩ := h
  rcases Go.Deep.open_slice Try.underlying25 hf with ⟨e, _⟩ | ⟨a', len, cap, m, n', D, Pl, e, _, hl, hm, hmm, hxe, hx⟩
  · simp [Value.cells] at e
    obtain ⟨rfl, rfl, rfl⟩ := e
    decide
  · simp [Value.cells] at e
    obtain ⟨rfl, rfl, rfl⟩ := e
    obtain ⟨rfl, _⟩ := Prod.mk.inj hxe
    have hlm : n ≤ m := by rw [hmm]; split <;> omega
    have hsize := hw ((((List.range n).map D).length + ((List.range (m - n)).map fun j => D (n + j)).length) * Try.prog.bytesOf 41) (by simp only [DataW.weights, Try.underlying25]; exact List.mem_cons_self)
    rw [bytesHearer] at hsize
    simp only [List.length_map, List.length_range] at hsize
    have hre := reach_small
    omega

set_option maxRecDepth 100000 in
set_option maxHeartbeats 1000000 in
theorem stops_nil (a : Option Addr) (c n : Nat) (la : Option Addr) (lc : Nat) (k0 p u : Int) (w : World) :
    Calls Try.prog 4 #[.agg #[.slice a n c], .slice la 0 lc, .agg #[.int .i64 p, .int .i64 u], .int .i64 k0] w fun e w' => e = .returned (.bool true) ∧ Below w.heap.size w w' := by
  go_enter Try.func4, Try.ntmps4
  go_wp2_with fail
  go_ret
  exact ⟨rfl, three_below _ _ _ _⟩

theorem eventStops_any (a : Option Addr) (c : Nat) (S : List Nd) (la : Option Addr) (lc : Nat) (L : List Hr) (p u k0 : Int) (w : World) (hN : S.length ≤ 9223372036854775807) (hB : Big S) (hS : NdsAt w a S) (hL : L.length ≤ 9223372036854775807) (hBL : BigH L) (hH : HrsAt w la L) (hR : L.length * 24 ≤ 140737488355328) :
    Calls Try.prog 4 #[.agg #[.slice a S.length c], .slice la L.length lc, .agg #[.int .i64 p, .int .i64 u], .int .i64 k0] w fun e w' => e = .returned (.bool true) ∧ Below w.heap.size w w' := by
  by_cases h0 : L.length = 0
  · rw [h0]
    exact stops_nil a c S.length la lc k0 p u w
  obtain ⟨kk, hkk, hat⟩ := at_inE k0 L.length (by omega) (by omega)
  by_cases h1 : findE S p u = 0
  · obtain ⟨wf, k, rfl, hk, _⟩ := find_used h1
    by_cases h2 : hcheckE L S.length = 0
    · obtain ⟨h24, hnd, _⟩ := hcheck_ok h2
      refine stops_ok a c S.length S la lc L k0 k u kk k (toldF (setS L kk true) (spotsF (pathF S k))) (toldF (setS L kk false) (spotsF (pathF S k))) w hS hH (by omega) h24 hnd hkk hat ?_ (fun g hg => (told_mem hg).1) ?_ (stop_facts S k hkk hnd _)
      · intro bb la' lc' W hW hHW
        have h := disp_ok a c S la' lc' (setS L kk bb) k u W wf hW hk h1 (big_set bb hkk hBL) hHW (hrs_noneE hHW) (by rw [hcheck_set bb hkk]; exact h2)
        rw [setS_len] at h
        refine Calls.mono h ?_
        rintro e w' ⟨ca, cc, va, vc, rfl, hb, hC, _, hcn, hcl, hcm⟩
        cases bb
        · exact ⟨ca, cc, va, _, vc, rfl, hb, hC, hcn, hcl, hcm⟩
        · exact ⟨ca, cc, va, _, vc, rfl, hb, hC, hcn, hcl, hcm⟩
      · rw [told_vis]
        have g1 := flat_short (setS L kk true) (visF (stopS (setS L kk true)) (spotsF (pathF S k)))
        have g2 := vis_short (stopS (setS L kk true)) (spotsF (pathF S k))
        have g5 := path_len S k
        have g6 := wf.small
        have g3 : (spotsF (pathF S k)).length ≤ 50 := by unfold spotsF; simp; omega
        have g4 := Nat.mul_le_mul (Nat.le_trans g2 g3) h24
        rw [setS_len] at g1
        omega
    · refine stops_bad a c S.length S la lc L k0 k u _ kk w hS hH (by omega) hR h2 hkk hat (fun bb la' lc' W hW hHW => ?_)
      have h := disp_err2 a c S la' lc' (setS L kk bb) k u _ W wf hW hk h1 (by rw [setS_len]; exact hL) (big_set bb hkk hBL) hHW (hcheck_set bb hkk _) h2
      rw [setS_len] at h
      exact h
  · refine stops_bad a c S.length S la lc L k0 p u _ kk w hS hH (by omega) hR h1 hkk hat (fun bb la' lc' W hW hHW => ?_)
    have h := disp_err1 a c S la' lc' (setS L kk bb) p u _ W hN hB hW rfl h1
    rw [setS_len] at h
    exact h
end Go.Proofs.Ytebhlcjljdgnkaa
