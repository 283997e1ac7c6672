/-
  slices.Repeat of one node that is not in use.
-/
import Derived.Test.YtjlapfgghljidaaURlMwRmRm2
import Derived.Deep.RegionLaw
import Derived.Test.YtjlapfgghljidaaUToTp
import Derived.SizedLaws
namespace Go.Proofs.Ytjlapfgghljidaa
open Go.RowKit

def patL (k : Nat) : List Value := (List.range (k * 8)).map fun j => patV (j % 8)
theorem patL_len (k : Nat) : (patL k).length = k * 8 := by simp [patL]
theorem patL_good (k : Nat) : Good (patL k) k := fun m hm => by
  unfold patL
  rw [List.getElem?_map, List.getElem?_range hm]
  rfl

theorem slice_from (g n j : Nat) (hj : j < n) : ∀ W, (Instr.slice 22 (.slice (some ⟨g, 0, none⟩) n n) (some (.int .i64 (j : Int))) none none).run Try.prog W = .ok (.slice (some ⟨g, j * 8, none⟩) (n - j) (n - j)) W := fun W => by
  have h1 : ¬ ((n : Int) = (j : Int)) := by omega
  have h2 : (j : Int) ≤ (n : Int) := by omega
  have h3 : (0 : Int) ≤ (j : Int) := by omega
  go_simp
  try omega

theorem slice_upto (g n j : Nat) (hj : j < n) : ∀ W, (Instr.slice 22 (.slice (some ⟨g, 0, none⟩) n n) none (some (.int .i64 (j : Int))) none).run Try.prog W = .ok (.slice (some ⟨g, 0, none⟩) j n) W := fun W => by
  have h1 : ¬ ((n : Int) = (j : Int)) := by omega
  have h2 : (j : Int) ≤ (n : Int) := by omega
  have h3 : (0 : Int) ≤ (j : Int) := by omega
  go_simp
  try omega

theorem good_src {W : World} {g : Nat} {X : List Value} (h : W.heap[g]? = some (.cells X.toArray 35 (0, 0))) (k : Nat) : ∀ j v, (X.take k)[j]? = some v → W.cell? ((⟨g, 0, none⟩ : Addr).add j) = some v := fun j v hj => by
  rw [Addr.add_lit, Nat.zero_add]
  rw [List.getElem?_take] at hj
  split at hj
  · simp only [World.cell?, h]
    simpa using hj
  · cases hj

theorem good_one {X : List Value} {j m n : Nat} (h : Good X j) (hm : m ≤ j) (hl : X.length = n * 8) (hj : j ≤ n) : ∀ v ∈ X.take (m * 8), v.oneCell' = true := fun v hv => by
  obtain ⟨i, hi, e⟩ := List.getElem_of_mem hv
  rw [List.length_take] at hi
  have h2 := h i (by omega)
  rw [List.getElem_take] at e
  rw [List.getElem?_eq_getElem (by omega), e] at h2
  cases h2
  exact pat_one _

set_option maxRecDepth 100000 in
set_option maxHeartbeats 800000 in
theorem repeat_one (n xb xc : Nat) (hn : n ≤ 24) (w : World) (hx : ∀ m, m < 8 → w.cell? ⟨xb, m, none⟩ = some (patV m)) :
    Calls Try.prog 23 #[.slice (some ⟨xb, 0, none⟩) 1 xc, .int .i64 n] w fun e w' => ∃ g, e = .returned (.slice (some ⟨g, 0, none⟩) n n) ∧ Below w.heap.size w w' ∧ NdsAt w' (some ⟨g, 0, none⟩) (List.replicate n unusedNd) := by
  have HX : Hid _ := hx
  clear hx
  obtain ⟨i0, hi0, hz0, hz1, hz2⟩ := info_parts info35
  have hn2 : (n : Int) ≤ 24 := by omega
  have MK := makeNodes n hn
  obtain ⟨m0, hm0⟩ : ∃ m0, m0 = Nat.min 1 n := ⟨_, rfl⟩
  have hm1 : m0 ≤ n ∧ m0 ≤ 1 ∧ (0 < n → m0 = 1) := by
    have : Nat.min 1 n = min 1 n := rfl
    omega
  obtain ⟨hma, hmb, hmc⟩ := hm1
  have HM0 : Hid (m0 = Nat.min 1 n) := hm0
  clear hm0
  go_enter Try.func23, Try.ntmps23
  go_wp2_with (first
    | (go_at_call 57; refine (mul_one n hn _).mono ?_; rintro e w1 ⟨rfl, rfl⟩)
    | (refine wpList_copy_wide rfl (.tmp 31) (.tmp 32) 22 22 rfl 35 i0 Try.underlying22 hi0 w1.heap.size 0 n n ⟨xb, 0, none⟩ 1 xc m0 ?hd ?hs (madeCells zeroVs (n * 8)).toList 35 ?hg (patL m0) HM0.out ?hl ?hsrc ?hfit ?h1 ?_))
  case hd => rfl
  case hs => rfl
  case hg => have := heap_alloc_new w1 (.cells (madeCells zeroVs (n * 8)) 35); simpa using this
  case hl => rw [patL_len, hz1]
  case hsrc =>
    intro j v hj
    have hlt : j < m0 * 8 := by
      have := (List.getElem?_eq_some_iff.1 hj).1
      rw [patL_len] at this
      exact this
    rw [patL_good m0 j hlt] at hj
    cases hj
    rw [Addr.add_lit, show j % 8 = j by omega, Nat.zero_add]
    exact ((Below.refl _ _).alloc (Nat.le_refl _) _).cell (World.block_lt_of_cell? _ _ (HX.out j (by omega))) |>.trans (HX.out j (by omega))
  case hfit => rw [patL_len]; simp [size_madeCells]; omega
  case h1 =>
    intro v hv
    unfold patL at hv
    obtain ⟨j, _, rfl⟩ := List.mem_map.1 hv
    exact pat_one _
  intro w2 hg2 hb2
  have G2 : Hid (∃ X : List Value, w2.heap[w1.heap.size]? = some (.cells X.toArray 35 (0, 0)) ∧ X.length = n * 8 ∧ Good X m0) := by
    refine ⟨_, hg2, ?_, fun m hm => ?_⟩
    · simp [patL_len, size_madeCells]
      omega
    · rw [List.getElem?_append_left (by rw [patL_len]; exact hm)]
      exact patL_good m0 m hm
  have HB2 : Hid (Below w1.heap.size w1 w2) := hb2 _ _ ((Below.refl _ _).alloc (Nat.le_refl _) _) (Nat.le_refl _)
  clear hg2 hb2 MK
  go_wp2
  go_loopg [8] n (fun gg s8 wr => ∃ j : Nat, j ≤ n ∧ (0 < n → 1 ≤ j) ∧ n - j ≤ gg ∧ s8 = .int .i64 j ∧ Hid (Below w1.heap.size w1 wr) ∧ Hid (∃ X : List Value, wr.heap[w1.heap.size]? = some (.cells X.toArray 35 (0, 0)) ∧ X.length = n * 8 ∧ Good X j))
  case atStart => exact ⟨m0, hma, fun h => by rw [hmc h]; exact Nat.le_refl _, by omega, rfl, HB2, G2⟩
  case round =>
    clear HB2 G2
    obtain ⟨j, hj, hj1, hgg, rfl, HB, G⟩ := hrel
    by_cases hjn : j < n
    · have hjn2 : (j : Int) < (n : Int) := by omega
      have hj2 : (0 : Int) ≤ (j : Int) := by omega
      obtain ⟨X, hX, hXl, hXG⟩ := G.out
      obtain ⟨m, hm⟩ : ∃ m, m = Nat.min j (n - j) := ⟨_, rfl⟩
      have hm1 : m ≤ j ∧ m ≤ n - j ∧ 0 < m := by
        have : Nat.min j (n - j) = min j (n - j) := rfl
        have := hj1 (by omega)
        omega
      obtain ⟨hma', hmb', hmc'⟩ := hm1
      have HM : Hid (m = Nat.min j (n - j)) := hm
      have HX2 : Hid _ := hX
      have HG : Hid _ := hXG
      clear hm G hX hXG
      have SF := slice_from w1.heap.size n j hjn
      have SU := slice_upto w1.heap.size n j hjn
      go_wp2_with fail
      have L1 : (X.take (m * 8)).length = m * i0.size := by rw [List.length_take, hz1, hXl]; omega
      have L2 : j * 8 + (X.take (m * 8)).length ≤ X.length := by rw [List.length_take, hXl]; omega
      have L3 : Hid _ := good_one HG.out hma' hXl hj
      have L4 : Hid (∀ i v, (X.take (m * 8))[i]? = some v → wr.cell? ((⟨w1.heap.size, 0, none⟩ : Addr).add i) = some v) := good_src HX2.out _
      have L5 : Hid (m * 8 ≤ X.length) := (by rw [hXl]; omega : m * 8 ≤ X.length)
      generalize hY : X.take (m * 8) = Y at *
      have HY : Hid _ := hY
      clear hY
      have hjm : IntKind.i64.wrap ((j : Int) + (m : Int)) = (j : Int) + (m : Int) := by
        rw [IntKind.wrap_i64]
        omega
      go_region_law (refine step_copy_wide rfl (.tmp 41) (.tmp 44) 22 22 rfl 35 i0 Try.underlying22 hi0 w1.heap.size (j * 8) (n - j) (n - j) ⟨w1.heap.size, 0, none⟩ j n m (by go_simp) (by go_simp) X 35 HX2.out Y HM.out L1 L4.out L2 L3.out ?_; intro w4 hg4 hb4; have HG4 : Hid _ := hg4; have HB4 : Hid (Below w1.heap.size w1 w4) := hb4 _ _ HB.out.drew (Nat.le_refl _); clear hg4 hb4)
      go_wp2
      go_roundg (n - (j + m))
      case measure => omega
      case rel =>
        refine ⟨j + m, by omega, fun _ => by omega, by omega, ?_, HB4, (show Hid _ from ⟨_, HG4.out, ?_, ?_⟩)⟩
        · first | go_num | (simp; done)
        · have h5 := L5.out
          have h6 := HY.out
          subst h6
          simp only [List.length_append, List.length_take, List.length_drop]
          omega
        · have h6 := HY.out
          subst h6
          exact Good.copy HG.out hma' (by rw [hXl]; omega)
    · have : j = n := by omega
      subst this
      obtain ⟨X, hX, hXl, hXG⟩ := G.out
      have FIN : Hid (NdsAt wr (some ⟨w1.heap.size, 0, none⟩) (List.replicate j unusedNd)) := good_nds hX hXG
      clear G hX hXG
      go_wp2
      go_ret
      exact ⟨_, rfl, HB.out, FIN.out⟩
end Go.Proofs.Ytjlapfgghljidaa

namespace Go.Proofs.Ytjlapfgghljidaa
open Go.ChangeShapes Go.WideShapes Go.ChangeAt Go.RowKit
set_option linter.unusedVariables false

variable {H : Type} {enc : TypeId × Value → H} {w : World} {base : Nat} {spare : Nat → Bool} {held : Bool}

set_option maxRecDepth 100000 in
theorem bytesInt : Try.prog.bytesOf 3 = 8 := by kernel_rfl
set_option maxRecDepth 100000 in
theorem bytesNode : Try.prog.bytesOf 35 = 80 := by kernel_rfl
theorem reach_small : reachBytes ≤ 140737488355328 := by decide

theorem wAll_mem {P : Program} {e : TypeId} : ∀ {l : List (DataW H)} {d : DataW H}, d ∈ l → ∀ n ∈ d.weights P e, n ∈ DataW.weightsAll P e l
  | d' :: r, d, hd, n, hn => by
    simp only [DataW.weightsAll, List.mem_append]
    rcases List.mem_cons.1 hd with rfl | h
    · exact Or.inl hn
    · exact Or.inr (wAll_mem h n hn)

theorem wEach_mem {P : Program} : ∀ {ts : List TypeId} {ds : List (DataW H)} {j : Nat} {t : TypeId} {d : DataW H}, ts[j]? = some t → ds[j]? = some d → ∀ n ∈ d.weights P t, n ∈ DataW.weightsEach P ts ds
  | [], _, _, _, _, h, _, _, _ => by simp at h
  | _ :: _, [], _, _, _, _, h, _, _ => by simp at h
  | t' :: ts, d' :: ds, 0, t, d, h1, h2, n, hn => by
    simp at h1 h2
    subst h1 h2
    simp only [DataW.weightsEach, List.mem_append]
    exact Or.inl hn
  | t' :: ts, d' :: ds, j + 1, t, d, h1, h2, n, hn => by
    simp only [DataW.weightsEach, List.mem_append]
    exact Or.inr (wEach_mem (j := j) (by simpa using h1) (by simpa using h2) n hn)

set_option maxRecDepth 100000 in
theorem kids_reach {fuel : Nat} {ka : Option Addr} {L kc : Nat} {x : DataW H × List MemPlace} (h : DataW.trod enc Try.prog w base spare held fuel 33 [.slice ka L kc] = some x) (hw : ∀ n ∈ x.1.weights Try.prog 33, n ≤ reachBytes) : L * 8 ≤ 140737488355328 := by
  rcases open_ints Try.underlying33 Try.underlying3 cells3 h with ⟨e, _⟩ | ⟨a, len, cap, zs, e, _, hl, hm, hz, hx, _⟩
  · cases e; decide
  · cases e
    subst hx
    have := hw ((((lits .i64 (zs.take L) : List (DataW H)).length + (lits .i64 (zs.drop L) : List (DataW H)).length)) * Try.prog.bytesOf 3) (by simp only [DataW.weights, Try.underlying33]; exact List.mem_cons_self)
    rw [bytesInt] at this
    have hlz : L ≤ zs.length := by rw [hz]; split <;> omega
    simp only [lits, List.length_map, List.length_take, List.length_drop] at this
    have := reach_small
    omega

set_option maxRecDepth 100000 in
theorem open_node_w {fuel b o : Nat} {cs : List Value} {x : DataW H × List MemPlace} (h : DataW.trod enc Try.prog w base spare held fuel 35 cs = some x) (hc : ∀ j, j < 8 → w.cell? ⟨b, o + j, none⟩ = cs[j]?) (hw : ∀ n ∈ x.1.weights Try.prog 35, n ≤ reachBytes) :
    ∃ nd : Nd, NdAt w b o nd ∧ nd.ks.length * 8 ≤ 140737488355328 := by
  obtain ⟨xs, n, _, hx, hl, hxl, hf⟩ := DataW.trod_struct Try.underlying35 h
  rw [cells36] at hl
  subst hx
  match cs, hl with
  | [a0, a1, a2, a3, a4, a5, a6, a7], _ =>
    match xs, hxl with
    | [x0, x1, x2, x3, x4, x5, x6, x7], _ =>
      have g0 := hf 0 _ rfl
      have g1 := hf 1 _ rfl
      have g2 := hf 2 _ rfl
      have g3 := hf 3 _ rfl
      have g4 := hf 4 _ rfl
      have g5 := hf 5 _ rfl
      have g6 := hf 6 _ rfl
      have g7 := hf 7 _ rfl
      have w5 : ∀ n ∈ x5.1.weights Try.prog 33, n ≤ reachBytes := fun n hn => hw n (by
        simp only [DataW.weights, Try.underlying35]
        exact wEach_mem (j := 5) rfl rfl n hn)
      obtain ⟨u, e0, _⟩ := DataW.trod_bool Try.underlying4 g0
      obtain ⟨n1, e1, _⟩ := DataW.trod_int Try.underlying3 g1
      obtain ⟨n2, e2, _⟩ := DataW.trod_int Try.underlying3 g2
      obtain ⟨n3, e3, _⟩ := DataW.trod_int Try.underlying3 g3
      obtain ⟨n4, e4, _⟩ := DataW.trod_int Try.underlying3 g4
      obtain ⟨ka, kc, ks, e5, hks, hI⟩ := open_kids g5
      obtain ⟨n6, e6, _⟩ := DataW.trod_int Try.underlying3 g6
      obtain ⟨u7, e7, _⟩ := DataW.trod_bool Try.underlying4 g7
      cases e0; cases e1; cases e2; cases e3; cases e4; cases e5; cases e6; cases e7
      refine ⟨⟨u, n1, n2, n3, n4, ks, n6, u7⟩, ⟨?_, ?_, ?_, ?_, ?_, ⟨ka, kc, ?_, hI⟩, ?_, ?_⟩, kids_reach g5 w5⟩
      · exact hc 0 (by omega)
      · exact hc 1 (by omega)
      · exact hc 2 (by omega)
      · exact hc 3 (by omega)
      · exact hc 4 (by omega)
      · exact hc 5 (by omega)
      · exact hc 6 (by omega)
      · exact hc 7 (by omega)

set_option maxRecDepth 100000 in
theorem open_nodes_w {fuel : Nat} {cs : List Value} {x : DataW H × List MemPlace} (h : DataW.trod enc Try.prog w base spare held fuel 22 cs = some x) (hw : ∀ n ∈ x.1.weights Try.prog 22, n ≤ reachBytes) :
    ∃ a c, ∃ S : List Nd, cs = [.slice a S.length c] ∧ S.length * 80 ≤ 140737488355328 ∧ (∀ i, i < S.length → (nd S i).ks.length * 8 ≤ 140737488355328) ∧ NdsAt w a S := by
  rcases Go.Deep.open_slice Try.underlying22 h with ⟨rfl, _⟩ | ⟨a, len, cap, m, n, D, Pl, rfl, _, hl, hm, hmm, hxe, hx⟩
  · exact ⟨none, 0, [], rfl, by simp, fun i hi => absurd hi (Nat.not_lt_zero _), fun i hi => absurd hi (Nat.not_lt_zero _)⟩
  · have hlm : len ≤ m := by rw [hmm]; split <;> omega
    subst hxe
    obtain ⟨ab, ao, spot⟩ := a
    by_cases h0 : len = 0
    · subst h0
      exact ⟨_, cap, [], rfl, by simp, fun i hi => absurd hi (Nat.not_lt_zero _), fun i hi => absurd hi (Nat.not_lt_zero _)⟩
    · have hsp : spot = none := by
        obtain ⟨cs', hc, ht⟩ := hx 0 (by omega)
        rw [cells36] at hc
        obtain ⟨_, hl8, hce⟩ := World.cells?_some hc
        have h1 := hce 0 (by omega)
        rw [List.getElem?_eq_getElem (by omega)] at h1
        simpa [Addr.add] using World.cell?_spot h1
      subst hsp
      have hsize := hw ((((List.range len).map D).length + ((List.range (m - len)).map fun j => D (len + j)).length) * Try.prog.bytesOf 35) (by simp only [DataW.weights, Try.underlying22]; exact List.mem_cons_self)
      rw [bytesNode] at hsize
      simp only [List.length_map, List.length_range] at hsize
      have hre := reach_small
      obtain ⟨S, hS1, hS2⟩ := list_of len (fun i x => NdAt w ab (ao + i * 8) x ∧ x.ks.length * 8 ≤ 140737488355328) (fun i hi => by
        obtain ⟨cs', hc, ht⟩ := hx i (by omega)
        rw [cells36] at hc
        obtain ⟨_, hl8, hce⟩ := World.cells?_some hc
        refine open_node_w ht (fun j hj => ?_) (fun n hn => hw n ?_)
        · have h1 := hce j hj
          rwa [add_plain, add_plain] at h1
        · simp only [DataW.weights, Try.underlying22]
          exact List.mem_cons_of_mem _ (List.mem_append_left _ (wAll_mem (List.mem_map.2 ⟨i, List.mem_range.2 hi, rfl⟩) n hn)))
      exact ⟨some ⟨ab, ao, none⟩, cap, S, by rw [hS1], by rw [hS1]; omega, fun i hi => (hS2 i (by omega)).2, fun i hi => ⟨ab, ao, rfl, (hS2 i (by omega)).1⟩⟩

set_option maxRecDepth 100000 in
theorem open_store_w {r : Reach} {b0 : Nat} {v : Value} {d : DataW H} {p : List MemPlace} (hv : Value.okWide Try.prog w r b0 24 v) (h : DataW.Trod enc Try.prog w base spare held 24 v d p) (hw : ∀ n ∈ d.weights Try.prog 24, n ≤ reachBytes) :
    ∃ a c, ∃ S : List Nd, v = .agg #[.slice a S.length c] ∧ S.length * 80 ≤ 140737488355328 ∧ (∀ i, i < S.length → (nd S i).ks.length * 8 ≤ 140737488355328) ∧ NdsAt w a S := by
  obtain ⟨cs, rfl, hsz⟩ := okWide_struct Try.underlying24 hv
  rw [cells24] at hsz
  obtain ⟨c0, rfl⟩ : ∃ c0, cs = #[c0] := by
    obtain ⟨l⟩ := cs
    match l, hsz with
    | [c0], _ => exact ⟨c0, rfl⟩
  obtain ⟨fuel, hf⟩ := h
  obtain ⟨y0, n, hd, _, h0⟩ := trod_struct1 Try.underlying24 hf
  obtain ⟨rfl, _⟩ := Prod.mk.inj hd
  obtain ⟨a, c, S, e, h1, h2, h3⟩ := open_nodes_w h0 (fun n hn => hw n (by
    simp only [DataW.weights, Try.underlying24]
    exact wEach_mem (j := 0) rfl rfl n hn))
  cases e
  exact ⟨a, c, S, rfl, h1, h2, h3⟩
end Go.Proofs.Ytjlapfgghljidaa
