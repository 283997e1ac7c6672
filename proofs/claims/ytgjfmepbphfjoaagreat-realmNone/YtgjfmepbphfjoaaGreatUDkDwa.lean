/-
  How realms and acts that come in as arguments read: what they lead to in memory.
-/
import Derived.Test.YtgjfmepbphfjoaaGreatUDnCtDwhOwMwMx
import Derived.Test.YtgjfmepbphfjoaaGreatUDeZh
import Derived.Test.YtgjfmepbphfjoaaGreatUTdTeSo
namespace Go.Proofs.YtgjfmepbphfjoaaGreat
open Go.ChangeShapes Go.WideShapes Go.ChangeAt Go.RowKit
set_option linter.unusedVariables false

variable {H : Type} {enc : TypeId × Value → H} {w : World} {base : Nat} {spare : Nat → Bool} {held : Bool}

set_option maxRecDepth 100000 in
theorem cells3D : Tryz.prog.cellsOf 3 = 1 := by kernel_rfl
set_option maxRecDepth 100000 in
theorem cells4D : Tryz.prog.cellsOf 4 = 1 := by kernel_rfl
set_option maxRecDepth 100000 in
theorem cells32D : Tryz.prog.cellsOf 29 = 1 := by kernel_rfl
set_option maxRecDepth 100000 in
theorem cells36D : Tryz.prog.cellsOf 47 = 8 := by kernel_rfl
set_option maxRecDepth 100000 in
theorem cells24D : Tryz.prog.cellsOf 24 = 1 := by kernel_rfl
set_option maxRecDepth 100000 in
theorem cells22D : Tryz.prog.cellsOf 22 = 1 := by kernel_rfl

set_option maxRecDepth 100000 in
theorem open_kidsD {fuel : Nat} {cs : List Value} {x : DataW H × List MemPlace} (h : DataW.trod enc Tryz.prog w base spare held fuel 29 cs = some x) :
    ∃ ka kc, ∃ ks : List Int, cs = [.slice ka ks.length kc] ∧ ks.length ≤ 9223372036854775807 ∧ IntsAt w ka ks := by
  rcases open_ints Tryz.underlying29 Tryz.underlying3 cells3D h with ⟨rfl, _⟩ | ⟨a, len, cap, zs, rfl, _, hl, hm, hz, _, hcell, _⟩
  · exact ⟨none, 0, [], rfl, by simp, fun i hi => absurd hi (Nat.not_lt_zero _)⟩
  · have hlz : len ≤ zs.length := by rw [hz]; split <;> omega
    have htl : (zs.take len).length = len := by rw [List.length_take]; omega
    refine ⟨some a, cap, zs.take len, by rw [htl], by rw [htl]; unfold maxLen at hm; omega, fun i hi => ?_⟩
    rw [htl] at hi
    obtain ⟨b, off, rfl, hc⟩ := ints_at hcell (by omega)
    refine ⟨b, off, rfl, ?_⟩
    rw [hc i (by omega), getD_elem zs 0 (by omega), getD_elem (zs.take len) 0 (by omega), List.getElem_take]

set_option maxRecDepth 100000 in
theorem open_nodeD {fuel b o : Nat} {cs : List Value} {x : DataW H × List MemPlace} (h : DataW.trod enc Tryz.prog w base spare held fuel 47 cs = some x) (hc : ∀ j, j < 8 → w.cell? ⟨b, o + j, none⟩ = cs[j]?) :
    ∃ nd : Nd, NdAt w b o nd ∧ nd.ks.length ≤ 9223372036854775807 := by
  obtain ⟨xs, n, _, _, hl, hxl, hf⟩ := DataW.trod_struct Tryz.underlying47 h
  rw [cells36D] at hl
  match cs, hl with
  | [a0, a1, a2, a3, a4, a5, a6, a7], _ =>
    match xs, hxl with
    | [x0, x1, x2, x3, x4, x5, x6, x7], _ =>
      have g0 := hf 0 _ rfl
      have g1 := hf 1 _ rfl
      have g2 := hf 2 _ rfl
      have g3 := hf 3 _ rfl
      have g4 := hf 4 _ rfl
      have g5 := hf 5 _ rfl
      have g6 := hf 6 _ rfl
      have g7 := hf 7 _ rfl
      obtain ⟨u, e0, _⟩ := DataW.trod_bool Tryz.underlying4 g0
      obtain ⟨n1, e1, _⟩ := DataW.trod_int Tryz.underlying3 g1
      obtain ⟨n2, e2, _⟩ := DataW.trod_int Tryz.underlying3 g2
      obtain ⟨n3, e3, _⟩ := DataW.trod_int Tryz.underlying3 g3
      obtain ⟨n4, e4, _⟩ := DataW.trod_int Tryz.underlying3 g4
      obtain ⟨ka, kc, ks, e5, hks, hI⟩ := open_kidsD g5
      obtain ⟨n6, e6, _⟩ := DataW.trod_int Tryz.underlying3 g6
      obtain ⟨u7, e7, _⟩ := DataW.trod_bool Tryz.underlying4 g7
      cases e0; cases e1; cases e2; cases e3; cases e4; cases e5; cases e6; cases e7
      refine ⟨⟨u, n1, n2, n3, n4, ks, n6, u7⟩, ⟨?_, ?_, ?_, ?_, ?_, ⟨ka, kc, ?_, hI⟩, ?_, ?_⟩, hks⟩
      · exact hc 0 (by omega)
      · exact hc 1 (by omega)
      · exact hc 2 (by omega)
      · exact hc 3 (by omega)
      · exact hc 4 (by omega)
      · exact hc 5 (by omega)
      · exact hc 6 (by omega)
      · exact hc 7 (by omega)

set_option maxRecDepth 100000 in
theorem list_ofD (len : Nat) (P : Nat → Nd → Prop) (h : ∀ i, i < len → ∃ x, P i x) : ∃ S : List Nd, S.length = len ∧ ∀ i, i < len → P i (nd S i) := by
  induction len with
  | zero => exact ⟨[], rfl, fun i hi => absurd hi (Nat.not_lt_zero _)⟩
  | succ n ih =>
    obtain ⟨S, hl, hS⟩ := ih (fun i hi => h i (by omega))
    obtain ⟨x, hx⟩ := h n (by omega)
    refine ⟨S ++ [x], by simp [hl], fun i hi => ?_⟩
    by_cases e : i = n
    · subst e
      rw [nd_elem (by simp [hl])]
      simpa [hl] using hx
    · have hi' : i < S.length := by omega
      have := hS i (by omega)
      rw [nd_elem hi'] at this
      rw [nd_elem (by simp; omega), List.getElem_append_left hi']
      exact this

set_option maxRecDepth 100000 in
theorem open_nodesD {fuel : Nat} {cs : List Value} {x : DataW H × List MemPlace} (h : DataW.trod enc Tryz.prog w base spare held fuel 22 cs = some x) :
    ∃ a c, ∃ S : List Nd, cs = [.slice a S.length c] ∧ S.length ≤ 9223372036854775807 ∧ Big S ∧ NdsAt w a S := by
  rcases Go.Deep.open_slice Tryz.underlying22 h with ⟨rfl, _⟩ | ⟨a, len, cap, m, n, D, Pl, rfl, _, hl, hm, hmm, _, hx⟩
  · exact ⟨none, 0, [], rfl, by simp, fun i hi => absurd hi (Nat.not_lt_zero _), fun i hi => absurd hi (Nat.not_lt_zero _)⟩
  · have hlm : len ≤ m := by rw [hmm]; split <;> omega
    obtain ⟨ab, ao, spot⟩ := a
    by_cases h0 : len = 0
    · subst h0
      exact ⟨_, cap, [], rfl, by simp, fun i hi => absurd hi (Nat.not_lt_zero _), fun i hi => absurd hi (Nat.not_lt_zero _)⟩
    · have hsp : spot = none := by
        obtain ⟨cs', hc, ht⟩ := hx 0 (by omega)
        rw [cells36D] at hc
        obtain ⟨_, hl8, hce⟩ := World.cells?_some hc
        have h1 := hce 0 (by omega)
        rw [List.getElem?_eq_getElem (by omega)] at h1
        simpa [Addr.add] using World.cell?_spot h1
      subst hsp
      obtain ⟨S, hS1, hS2⟩ := list_ofD len (fun i x => NdAt w ab (ao + i * 8) x ∧ x.ks.length ≤ 9223372036854775807) (fun i hi => by
        obtain ⟨cs', hc, ht⟩ := hx i (by omega)
        rw [cells36D] at hc
        obtain ⟨_, hl8, hce⟩ := World.cells?_some hc
        refine open_nodeD ht (fun j hj => ?_)
        have h1 := hce j hj
        rwa [add_plain, add_plain] at h1)
      exact ⟨some ⟨ab, ao, none⟩, cap, S, by rw [hS1], by rw [hS1]; unfold maxLen at hm; omega, fun i hi => (hS2 i (by omega)).2, fun i hi => ⟨ab, ao, rfl, (hS2 i (by omega)).1⟩⟩

set_option maxRecDepth 100000 in
theorem cellsHandD : Tryz.prog.cellsOf 39 = 2 := by kernel_rfl

theorem hands_ofD (len : Nat) (P : Nat → Int × Int → Prop) (h : ∀ i, i < len → ∃ x, P i x) : ∃ S : List (Int × Int), S.length = len ∧ ∀ i, i < len → P i (S.getD i (0, 0)) := by
  induction len with
  | zero => exact ⟨[], rfl, fun i hi => absurd hi (Nat.not_lt_zero _)⟩
  | succ n ih =>
    obtain ⟨S, hl, hS⟩ := ih (fun i hi => h i (by omega))
    obtain ⟨x, hx⟩ := h n (by omega)
    refine ⟨S ++ [x], by simp [hl], fun i hi => ?_⟩
    by_cases e : i = n
    · subst e
      rw [getD_elem _ _ (by simp [hl])]
      simpa [hl] using hx
    · have hi' : i < S.length := by omega
      have := hS i (by omega)
      rw [getD_elem _ _ hi'] at this
      rw [getD_elem _ _ (by simp; omega), List.getElem_append_left hi']
      exact this

set_option maxRecDepth 100000 in
theorem cellsRealmD : Tryz.prog.cellsOf 31 = 4 := by kernel_rfl
set_option maxRecDepth 100000 in
theorem cellsActD : Tryz.prog.cellsOf 41 = 5 := by kernel_rfl
set_option maxRecDepth 100000 in
theorem open_handsD {fuel : Nat} {cs : List Value} {x : DataW H × List MemPlace} (h : DataW.trod enc Tryz.prog w base spare held fuel 25 cs = some x) :
    ∃ a c, ∃ S : List (Int × Int), cs = [.slice a S.length c] ∧ S.length ≤ 9223372036854775807 ∧ HandsAt w a S := by
  rcases Go.Deep.open_slice Tryz.underlying25 h with ⟨rfl, _⟩ | ⟨a, len, cap, m, n, D, Pl, rfl, _, hl, hm, hmm, _, hx⟩
  · exact ⟨none, 0, [], rfl, by simp, fun i hi => absurd hi (Nat.not_lt_zero _)⟩
  · have hlm : len ≤ m := by rw [hmm]; split <;> omega
    obtain ⟨ab, ao, spot⟩ := a
    by_cases h0 : len = 0
    · subst h0
      exact ⟨_, cap, [], rfl, by simp, fun i hi => absurd hi (Nat.not_lt_zero _)⟩
    · have hsp : spot = none := by
        obtain ⟨cs', hc, ht⟩ := hx 0 (by omega)
        rw [cellsHandD] at hc
        obtain ⟨_, hl8, hce⟩ := World.cells?_some hc
        have h1 := hce 0 (by omega)
        rw [List.getElem?_eq_getElem (by omega)] at h1
        simpa [Addr.add] using World.cell?_spot h1
      subst hsp
      obtain ⟨S, hS1, hS2⟩ := hands_ofD len (fun i x => w.cell? ⟨ab, ao + i * 2, none⟩ = some (.int .i64 x.1) ∧ w.cell? ⟨ab, ao + i * 2 + 1, none⟩ = some (.int .i64 x.2)) (fun i hi => by
        obtain ⟨cs', hc, ht⟩ := hx i (by omega)
        rw [cellsHandD] at hc
        obtain ⟨_, hl2, hce⟩ := World.cells?_some hc
        obtain ⟨xs, n', _, _, hl', hxl, hf'⟩ := DataW.trod_struct Tryz.underlying39 ht
        match cs', hl2 with
        | [a0, a1], _ =>
          match xs, hxl with
          | [x0, x1], _ =>
            have g0 := hf' 0 _ rfl
            have g1 := hf' 1 _ rfl
            obtain ⟨n0, e0, _⟩ := DataW.trod_int Tryz.underlying3 g0
            obtain ⟨n1, e1, _⟩ := DataW.trod_int Tryz.underlying3 g1
            cases e0; cases e1
            refine ⟨(n0, n1), ?_, ?_⟩
            · have h1 := hce 0 (by omega)
              rwa [add_plain, add_plain] at h1
            · have h1 := hce 1 (by omega)
              rwa [add_plain, add_plain] at h1)
      exact ⟨some ⟨ab, ao, none⟩, cap, S, by rw [hS1], by rw [hS1]; unfold maxLen at hm; omega, fun i hi => ⟨ab, ao, rfl, (hS2 i (by omega)).1, (hS2 i (by omega)).2⟩⟩
theorem list_ofA (len : Nat) (P : Nat → Ac → Prop) (h : ∀ i, i < len → ∃ x, P i x) : ∃ S : List Ac, S.length = len ∧ ∀ i, i < len → P i (ac S i) := by
  induction len with
  | zero => exact ⟨[], rfl, fun i hi => absurd hi (Nat.not_lt_zero _)⟩
  | succ n ih =>
    obtain ⟨S, hl, hS⟩ := ih (fun i hi => h i (by omega))
    obtain ⟨x, hx⟩ := h n (by omega)
    refine ⟨S ++ [x], by simp [hl], fun i hi => ?_⟩
    unfold ac
    by_cases e : i = n
    · subst e
      rw [getD_elem _ _ (by simp [hl])]
      simpa [hl] using hx
    · have hi' : i < S.length := by omega
      have := hS i (by omega)
      unfold ac at this
      rw [getD_elem _ _ hi'] at this
      rw [getD_elem _ _ (by simp; omega), List.getElem_append_left hi']
      exact this
set_option maxRecDepth 100000 in
theorem open_actD {fuel : Nat} {cs : List Value} {x : DataW H × List MemPlace} (h : DataW.trod enc Tryz.prog w base spare held fuel 41 cs = some x) :
    ∃ y : Ac, cs = [.int .i64 y.k, .int .i64 y.a, .int .i64 y.b, .int .i64 y.c, .int .i64 y.n] := by
  obtain ⟨xs, n, _, _, hl, hxl, hf⟩ := DataW.trod_struct Tryz.underlying41 h
  rw [cellsActD] at hl
  match cs, hl with
  | [a0, a1, a2, a3, a4], _ =>
    match xs, hxl with
    | [x0, x1, x2, x3, x4], _ =>
      obtain ⟨n0, e0, _⟩ := DataW.trod_int Tryz.underlying3 (hf 0 _ rfl)
      obtain ⟨n1, e1, _⟩ := DataW.trod_int Tryz.underlying3 (hf 1 _ rfl)
      obtain ⟨n2, e2, _⟩ := DataW.trod_int Tryz.underlying3 (hf 2 _ rfl)
      obtain ⟨n3, e3, _⟩ := DataW.trod_int Tryz.underlying3 (hf 3 _ rfl)
      obtain ⟨n4, e4, _⟩ := DataW.trod_int Tryz.underlying3 (hf 4 _ rfl)
      cases e0; cases e1; cases e2; cases e3; cases e4
      exact ⟨⟨n0, n1, n2, n3, n4⟩, rfl⟩
set_option maxRecDepth 100000 in
theorem open_actsT {fuel : Nat} {cs : List Value} {x : DataW H × List MemPlace} (h : DataW.trod enc Tryz.prog w base spare held fuel 32 cs = some x) :
    ∃ a c, ∃ S : List Ac, cs = [.slice a S.length c] ∧ S.length ≤ c ∧ c ≤ 9223372036854775807 ∧ ActsAt w a S := by
  rcases Go.Deep.open_slice Tryz.underlying32 h with ⟨rfl, _⟩ | ⟨a, len, cap, m, n, D, Pl, rfl, _, hl, hm, hmm, _, hx⟩
  · exact ⟨none, 0, [], rfl, by simp, by omega, fun i hi => absurd hi (Nat.not_lt_zero _)⟩
  · have hlm : len ≤ m := by rw [hmm]; split <;> omega
    have hm2 : cap ≤ 9223372036854775807 := by unfold maxLen at hm; omega
    obtain ⟨ab, ao, spot⟩ := a
    by_cases h0 : len = 0
    · subst h0
      exact ⟨_, cap, [], rfl, by simp, hm2, fun i hi => absurd hi (Nat.not_lt_zero _)⟩
    · have hsp : spot = none := by
        obtain ⟨cs', hc, ht⟩ := hx 0 (by omega)
        rw [cellsActD] at hc
        obtain ⟨_, hl8, hce⟩ := World.cells?_some hc
        have h1 := hce 0 (by omega)
        rw [List.getElem?_eq_getElem (by omega)] at h1
        simpa [Addr.add] using World.cell?_spot h1
      subst hsp
      obtain ⟨S, hS1, hS2⟩ := list_ofA len (fun i x => w.cell? ⟨ab, ao + i * 5, none⟩ = some (.int .i64 x.k) ∧ w.cell? ⟨ab, ao + i * 5 + 1, none⟩ = some (.int .i64 x.a) ∧ w.cell? ⟨ab, ao + i * 5 + 2, none⟩ = some (.int .i64 x.b) ∧ w.cell? ⟨ab, ao + i * 5 + 3, none⟩ = some (.int .i64 x.c) ∧ w.cell? ⟨ab, ao + i * 5 + 4, none⟩ = some (.int .i64 x.n)) (fun i hi => by
        obtain ⟨cs', hc, ht⟩ := hx i (by omega)
        rw [cellsActD] at hc
        obtain ⟨_, hl8, hce⟩ := World.cells?_some hc
        obtain ⟨y, e⟩ := open_actD ht
        subst e
        have k0 := hce 0 (by omega)
        have k1 := hce 1 (by omega)
        have k2 := hce 2 (by omega)
        have k3 := hce 3 (by omega)
        have k4 := hce 4 (by omega)
        rw [add_plain, add_plain] at k0 k1 k2 k3 k4
        exact ⟨y, k0, k1, k2, k3, k4⟩)
      exact ⟨some ⟨ab, ao, none⟩, cap, S, by rw [hS1], by rw [hS1]; exact hl, hm2, fun i hi => ⟨ab, ao, rfl, hS2 i (by omega)⟩⟩
set_option maxRecDepth 100000 in
theorem open_realmT {fuel : Nat} {cs : List Value} {x : DataW H × List MemPlace} (h : DataW.trod enc Tryz.prog w base spare held fuel 31 cs = some x) :
    ∃ (A : RA) (R : Rl), cs = [.slice A.a0 R.s.length A.c0, .slice A.a1 R.hs.length A.c1, .slice A.a2 R.i.length A.c2, .slice A.a3 R.t.length A.c3] ∧ BigR R ∧ RlAt w A R := by
  obtain ⟨xs, n, _, _, hl, hxl, hf⟩ := DataW.trod_struct Tryz.underlying31 h
  rw [cellsRealmD] at hl
  match cs, hl with
  | [v0, v1, v2, v3], _ =>
    match xs, hxl with
    | [x0, x1, x2, x3], _ =>
      have g0 := hf 0 _ rfl
      have g1 := hf 1 _ rfl
      have g2 := hf 2 _ rfl
      have g3 := hf 3 _ rfl
      obtain ⟨_, _, _, _, s0⟩ := trod_struct1 Tryz.underlying24 g0
      obtain ⟨_, _, _, _, s2⟩ := trod_struct1 Tryz.underlying28 g2
      obtain ⟨a0, c0, S, e0, n0, b0, h0⟩ := open_nodesD s0
      obtain ⟨a1, c1, HS, e1, n1, h1⟩ := open_handsD g1
      obtain ⟨a2, c2, I, e2, n2, b2, h2⟩ := open_cells s2
      obtain ⟨a3, c3, O, e3, n3, m3, h3⟩ := open_kidsC g3
      cases e0; cases e1; cases e2; cases e3
      exact ⟨⟨a0, a1, a2, a3, c0, c1, c2, c3⟩, ⟨S, HS, I, O⟩, rfl, ⟨n0, b0, n1, n2, b2, by show O.length ≤ _; omega⟩, h0, h1, h2, h3⟩
set_option maxRecDepth 100000 in
theorem open_realm {r : Reach} {b0 : Nat} {v : Value} {d : DataW H} {p : List MemPlace} (hv : Value.okWide Tryz.prog w r b0 31 v) (h : DataW.Trod enc Tryz.prog w base spare held 31 v d p) :
    ∃ (A : RA) (R : Rl), v = rlV A R ∧ BigR R ∧ RlAt w A R := by
  obtain ⟨cs, rfl, hsz⟩ := okWide_struct Tryz.underlying31 hv
  obtain ⟨fuel, hf⟩ := h
  obtain ⟨A, R, e, hB, hR⟩ := open_realmT hf
  refine ⟨A, R, ?_, hB, hR⟩
  have e2 : cs.toList = _ := e
  rw [show cs = cs.toList.toArray from by simp, e2]
set_option maxRecDepth 100000 in
theorem open_act {r : Reach} {b0 : Nat} {v : Value} {d : DataW H} {p : List MemPlace} (hv : Value.okWide Tryz.prog w r b0 41 v) (h : DataW.Trod enc Tryz.prog w base spare held 41 v d p) :
    ∃ y : Ac, v = acV y := by
  obtain ⟨cs, rfl, hsz⟩ := okWide_struct Tryz.underlying41 hv
  obtain ⟨fuel, hf⟩ := h
  obtain ⟨y, e⟩ := open_actD hf
  refine ⟨y, ?_⟩
  have e2 : cs.toList = _ := e
  rw [show cs = cs.toList.toArray from by simp, e2]
set_option maxRecDepth 100000 in
theorem open_acts {r : Reach} {b0 : Nat} {v : Value} {d : DataW H} {p : List MemPlace} (hv : Value.okWide Tryz.prog w r b0 32 v) (h : DataW.Trod enc Tryz.prog w base spare held 32 v d p) :
    ∃ a c, ∃ S : List Ac, v = .slice a S.length c ∧ S.length ≤ c ∧ c ≤ 9223372036854775807 ∧ ActsAt w a S := by
  obtain ⟨xa, len, cap, rfl⟩ := okWide_slice Tryz.underlying32 hv
  obtain ⟨fuel, hf⟩ := h
  obtain ⟨ka, kc, ks, e, h1, h2, h3⟩ := open_actsT hf
  simp [Value.cells] at e
  obtain ⟨rfl, rfl, rfl⟩ := e
  exact ⟨_, _, ks, rfl, h1, h2, h3⟩
end Go.Proofs.YtgjfmepbphfjoaaGreat

namespace Go.Proofs.YtgjfmepbphfjoaaGreat
open Go.RowKit
set_option linter.unusedVariables false

theorem natH {x : Int} (h : isH x) : ∃ p : Nat, x = p ∧ p < 16 := ⟨x.toNat, by have := h.1; omega, by have := h.2; have := h.1; omega⟩
/-- The cells of a realm's box behind something. -/
theorem box_after {w W : World} {t : Nat} {v0 v1 v2 v3 : Value} (hb : Below (w.heap.size + 1) (w.alloc (.cells #[v0, v1, v2, v3] t)) W) : W.heap[w.heap.size]? = some (.cells #[v0, v1, v2, v3] t (0, 0)) := (hb.block _ (Nat.lt_succ_self _)).trans (box4_new _ _ _ _ _ _)

set_option maxRecDepth 100000 in
set_option maxHeartbeats 1000000 in
theorem rcheck_ans : RCheckAns := fun A R w hB hW => by
  obtain ⟨a0, a1, a2, a3, c0, c1, c2, c3⟩ := A
  obtain ⟨hN, hBS, hH, hI, hBC, hT⟩ := hB
  obtain ⟨w0, w1, w2, w3⟩ := hW
  have D0 : Hid (∀ o1, _) := fun o1 => check_any a0 c0 R.s (w.alloc o1) hN hBS (w0.below (one_belowS _ _))
  have D1 : Hid (∀ W, Below w.heap.size w W → _) := fun W hW => gcheck_any a2 c2 R.i W hI hBC (w2.below hW)
  clear w0 w1 w2 w3 hBS hBC
  dsimp only [rlV]
  unfold rcheckE
  obtain ⟨E0, h0⟩ : ∃ E, checkE R.s = E := ⟨_, rfl⟩
  obtain ⟨E1, h1⟩ : ∃ E, gcheckE R.i = E := ⟨_, rfl⟩
  rw [h0] at D0 ⊢
  rw [h1] at D1 ⊢
  clear h0 h1
  generalize R.s.length = n0 at *
  generalize R.i.length = n2 at *
  generalize R.t.length = n3 at *
  generalize R.hs.length = n1 at *
  by_cases e0 : E0 = 0
  · subst e0
    rw [if_pos rfl]
    by_cases e1 : n1 = 16
    · subst e1
      rw [if_pos rfl]
      by_cases e2 : E1 = 0
      · subst e2
        rw [if_pos rfl]
        by_cases e3 : 4800 < n3
        · rw [if_pos e3]
          have e3' : (4800 : Int) < (n3 : Int) := by omega
          go_enter Tryz.func7, Tryz.ntmps7
          go_wp2_with fail
          refine Calls.mono (D0.out _) ?_
          rintro e V ⟨rfl, hb⟩
          have HB : Hid (Below w.heap.size w V) := (one_belowS w _).trans (hb.mono (by simp))
          simp only [World.size_alloc] at hb
          have HX : Hid _ := box_after hb
          obtain ⟨l0, l1, l2, l3, fz, lt⟩ := box4_facts HX.out
          clear hb D0
          go_wp2_with fail
          refine Calls.mono (D1.out _ HB.out) ?_
          rintro e V2 ⟨rfl, hb⟩
          have HB2 : Hid (Below w.heap.size w V2) := HB.out.trans (hb.mono HB.out.size)
          have HX2 : Hid _ := keepB HX.out hb
          clear l0 l1 l2 l3 fz lt
          obtain ⟨l0, l1, l2, l3, fz, lt⟩ := box4_facts HX2.out
          clear hb D1
          go_wp2
          go_ret
          exact ⟨rfl, HB2.out⟩
        · rw [if_neg e3]
          have e3' : ¬ (4800 : Int) < (n3 : Int) := by omega
          go_enter Tryz.func7, Tryz.ntmps7
          go_wp2_with fail
          refine Calls.mono (D0.out _) ?_
          rintro e V ⟨rfl, hb⟩
          have HB : Hid (Below w.heap.size w V) := (one_belowS w _).trans (hb.mono (by simp))
          simp only [World.size_alloc] at hb
          have HX : Hid _ := box_after hb
          obtain ⟨l0, l1, l2, l3, fz, lt⟩ := box4_facts HX.out
          clear hb D0
          go_wp2_with fail
          refine Calls.mono (D1.out _ HB.out) ?_
          rintro e V2 ⟨rfl, hb⟩
          have HB2 : Hid (Below w.heap.size w V2) := HB.out.trans (hb.mono HB.out.size)
          have HX2 : Hid _ := keepB HX.out hb
          clear l0 l1 l2 l3 fz lt
          obtain ⟨l0, l1, l2, l3, fz, lt⟩ := box4_facts HX2.out
          clear hb D1
          go_wp2
          go_ret
          exact ⟨rfl, HB2.out⟩
      · rw [if_neg e2]
        have hz : (E1 == 0) = false := by simp [e2]
        go_enter Tryz.func7, Tryz.ntmps7
        go_wp2_with fail
        refine Calls.mono (D0.out _) ?_
        rintro e V ⟨rfl, hb⟩
        have HB : Hid (Below w.heap.size w V) := (one_belowS w _).trans (hb.mono (by simp))
        simp only [World.size_alloc] at hb
        have HX : Hid _ := box_after hb
        obtain ⟨l0, l1, l2, l3, fz, lt⟩ := box4_facts HX.out
        clear hb D0
        go_wp2_with fail
        refine Calls.mono (D1.out _ HB.out) ?_
        rintro e V2 ⟨rfl, hb⟩
        have HB2 : Hid (Below w.heap.size w V2) := HB.out.trans (hb.mono HB.out.size)
        clear l0 l1 l2 l3 fz lt hb D1
        go_wp2
        go_ret
        exact ⟨rfl, HB2.out⟩
    · rw [if_neg e1]
      have e1' : ¬ ((n1 : Int) = 16) := by omega
      have hz : ((n1 : Int) == 16) = false := by simp [e1']
      go_enter Tryz.func7, Tryz.ntmps7
      go_wp2_with fail
      refine Calls.mono (D0.out _) ?_
      rintro e V ⟨rfl, hb⟩
      have HB : Hid (Below w.heap.size w V) := (one_belowS w _).trans (hb.mono (by simp))
      simp only [World.size_alloc] at hb
      have HX : Hid _ := box_after hb
      obtain ⟨l0, l1, l2, l3, fz, lt⟩ := box4_facts HX.out
      clear hb D0 D1
      go_wp2
      go_ret
      exact ⟨rfl, HB.out⟩
  · rw [if_neg e0]
    have hz : (E0 == 0) = false := by simp [e0]
    go_enter Tryz.func7, Tryz.ntmps7
    go_wp2_with fail
    refine Calls.mono (D0.out _) ?_
    rintro e V ⟨rfl, hb⟩
    have HB : Hid (Below w.heap.size w V) := (one_belowS w _).trans (hb.mono (by simp))
    clear hb D0 D1
    go_wp2
    go_ret
    exact ⟨rfl, HB.out⟩

set_option maxRecDepth 100000 in
set_option maxHeartbeats 1000000 in
theorem newBadD (p : Int) (w : World) (hp : p < 0 ∨ 24 < p) :
    Calls Tryz.prog 27 #[.int .i64 p] w fun e w' => e = .returned (.tuple #[.agg #[.slice none 0 0], .int .i64 2]) ∧ Below w.heap.size w w' := by
  go_enter Tryz.func27, Tryz.ntmps27
  go_wp2_with (go_at_call 54; refine (within_no _ _ _ _ hp).mono ?_; rintro e w' ⟨rfl, rfl⟩)
  first
    | (go_ret; exact ⟨rfl, Below.refl _ _⟩)
    | (go_ret; exact ⟨rfl, (Below.refl _ _).alloc (Nat.le_refl _) _⟩)
    | (refine bodyPost_ret (v := .tuple #[.agg #[.slice none 0 0], .int .i64 2]) (by simp [results, Tryz.results27, go_sem]) rfl ⟨rfl, ?_⟩; first | exact (Below.refl _ _).alloc (Nat.le_refl _) _ | exact ((Below.refl _ _).alloc (Nat.le_refl _) _).setCell (by simp) _ | exact (((Below.refl _ _).alloc (Nat.le_refl _) _).setCell (by simp) _).drew)

theorem nds_block {w w' : World} {g n : Nat} (h : NdsAt w (some ⟨g, 0, none⟩) (List.replicate n unusedNd)) (hb : w'.heap[g]? = w.heap[g]?) : NdsAt w' (some ⟨g, 0, none⟩) (List.replicate n unusedNd) := fun i hi => by
  obtain ⟨b, o, e, hn⟩ := h i hi
  cases e
  have hi' : i < n := by simpa using hi
  rw [nd_replicate n i _ hi'] at hn ⊢
  obtain ⟨c0, c1, c2, c3, c4, ⟨ka, kc, c5, _⟩, c6, c7⟩ := hn
  have hc : ∀ o, w'.cell? ⟨g, o, none⟩ = w.cell? ⟨g, o, none⟩ := fun o => World.cell?_of_block hb
  exact ⟨g, 0, rfl, (hc _).trans c0, (hc _).trans c1, (hc _).trans c2, (hc _).trans c3, (hc _).trans c4, ⟨ka, kc, (hc _).trans c5, fun j hj => absurd hj (Nat.not_lt_zero _)⟩, (hc _).trans c6, (hc _).trans c7⟩
theorem hands_block {w w' : World} {g : Nat} {H : List (Int × Int)} (h : HandsAt w (some ⟨g, 0, none⟩) H) (hb : w'.heap[g]? = w.heap[g]?) : HandsAt w' (some ⟨g, 0, none⟩) H := fun i hi => by
  obtain ⟨b, o, e, h1, h2⟩ := h i hi
  cases e
  exact ⟨g, 0, rfl, (World.cell?_of_block hb).trans h1, (World.cell?_of_block hb).trans h2⟩
set_option maxRecDepth 100000 in
set_option maxHeartbeats 1000000 in
theorem new_okX (n : Nat) (w : World) (hn : n ≤ 24) : Calls Tryz.prog 11 #[.int .i64 (n : Int)] w fun e w' => ∃ (a0 a1 : Option Addr) (c0 : Nat), e = .returned (.tuple #[.agg #[.slice a0 n c0, .slice a1 16 16, .slice none 0 0, .slice none 0 0], .int .i64 0]) ∧ Below w.heap.size w w' ∧ St (fun b => b < w.heap.size) (fun V => NdsAt V a0 (List.replicate n unusedNd) ∧ HandsAt V a1 (List.replicate 16 (0, 0))) w' := by
  have D : Hid (∀ o1, _) := fun o1 => new_anyX n (w.alloc o1) hn
  clear hn
  have hmk := makeHands16
  go_enter Tryz.func11, Tryz.ntmps11
  go_wp2_with fail
  refine Calls.mono (D.out _) ?_
  rintro e V ⟨g, rfl, hb, hn, hg1, hg2⟩
  have HB : Hid (Below w.heap.size w V) := (one_belowS w _).trans (hb.mono (by simp))
  have HN : Hid (NdsAt V (some ⟨g, 0, none⟩) (List.replicate n unusedNd)) := hn
  simp only [World.size_alloc] at hb hg1
  have HX : Hid _ := box_after hb
  obtain ⟨l0, l1, l2, l3, fz, lt⟩ := box4_facts HX.out
  clear hb D hn
  go_wp2_with fail
  go_region
  go_wp2
  have SL : Hid (SlB V w.heap.size) := sl_box HX.out ⟨_, _, _, rfl⟩ ⟨_, _, _, rfl⟩ ⟨_, _, _, rfl⟩ ⟨_, _, _, rfl⟩
  obtain ⟨X, hX⟩ : ∃ X, (((V.setCell ⟨w.heap.size, 0, none⟩ (.slice (some ⟨g, 0, none⟩) n n)).setCell ⟨w.heap.size, 1, none⟩ (.slice (some ⟨V.heap.size + 1, 0, none⟩) 16 16)).setCell ⟨w.heap.size, 2, none⟩ (.slice none 0 0)).setCell ⟨w.heap.size, 3, none⟩ (.slice none 0 0) = X := ⟨_, rfl⟩
  have x0 : X.heap[w.heap.size]? = some (.cells #[.slice (some ⟨g, 0, none⟩) n n, .slice (some ⟨V.heap.size + 1, 0, none⟩) 16 16, .slice none 0 0, .slice none 0 0] 31 (0, 0)) := by rw [← hX]; exact box4_set HX.out
  have x1 : NdsAt X (some ⟨g, 0, none⟩) (List.replicate n unusedNd) := by rw [← hX]; exact HN.out.offB SL.out (OffB.refl _ _).set.set.set.set
  have x2 : X.heap.size = V.heap.size := by rw [← hX]; simp
  have x3 : Below w.heap.size w X := by rw [← hX]; exact (((HB.out.setCell (Nat.le_refl _) _).setCell (Nat.le_refl _) _).setCell (Nat.le_refl _) _).setCell (Nat.le_refl _) _
  rw [hX]
  clear hX
  have x4 := hands_made (X.alloc (Obj.cells #[Value.slice (some ⟨g, 0, none⟩) n n] 24))
  rw [World.size_alloc, x2] at x4
  have b2 := (two_belowS X (Obj.cells #[Value.slice (some ⟨g, 0, none⟩) n n] 24) (Obj.cells (madeCells #[Value.int IntKind.i64 0, Value.int IntKind.i64 0] 32) 39)).drew
  have x5 := keepB x0 b2
  obtain ⟨m0, m1, m2, m3, mf, ml⟩ := box4_facts x5
  refine bodyPost_ret (v := .tuple #[.agg #[.slice (some ⟨g, 0, none⟩) n n, .slice (some ⟨V.heap.size + 1, 0, none⟩) 16 16, .slice none 0 0, .slice none 0 0], .int .i64 0]) (by simp [results, Tryz.results11, go_sem, m0, m1, m2, m3]) rfl ⟨some ⟨g, 0, none⟩, some ⟨V.heap.size + 1, 0, none⟩, n, by simp, x3.trans (b2.mono x3.size), fun V' ho => ⟨nds_block (x1.below b2) (ho.block g (by simp; omega) (by omega)), hands_block (x4.below (Below.refl _ _).drew) (ho.block _ (by simp; omega) (by have := HB.out.size; omega))⟩⟩
set_option maxRecDepth 100000 in
set_option maxHeartbeats 1000000 in
theorem new_ans : NewAns := fun p w => by
  by_cases hp : 0 ≤ p ∧ p ≤ 24
  · have e1 : newR p = ⟨List.replicate p.toNat unusedNd, List.replicate 16 (0, 0), [], []⟩ := if_pos hp
    have e2 : newE p = 0 := if_pos hp
    rw [e1, e2]
    clear e1 e2
    obtain ⟨n, rfl⟩ : ∃ n : Nat, p = n := ⟨p.toNat, by omega⟩
    rw [Int.toNat_natCast]
    refine (new_okX n w (by omega)).mono ?_
    rintro e V ⟨a0, a1, c0, rfl, hb, hs⟩
    exact ⟨⟨a0, a1, none, none, c0, 16, 0, 0⟩, by simp [rlV], hb, hs.at.1, hs.at.2, fun _ h => absurd h (Nat.not_lt_zero _), fun _ h => absurd h (Nat.not_lt_zero _)⟩
  · have e1 : newR p = zeroRl := if_neg hp
    have e2 : newE p = 2 := if_neg hp
    rw [e1, e2]
    clear e1 e2
    have D : Hid (∀ o1, _) := fun o1 => newBadD p (w.alloc o1) (by omega)
    clear hp
    go_enter Tryz.func11, Tryz.ntmps11
    go_wp2_with fail
    refine Calls.mono (D.out _) ?_
    rintro e V ⟨rfl, hb⟩
    have HB : Hid (Below w.heap.size w V) := (one_belowS w _).trans (hb.mono (by simp))
    simp only [World.size_alloc] at hb
    have HX : Hid _ := box_after hb
    obtain ⟨l0, l1, l2, l3, fz, lt⟩ := box4_facts HX.out
    clear hb D
    go_wp2
    obtain ⟨X, hX⟩ : ∃ X, (((V.setCell ⟨w.heap.size, 0, none⟩ (.slice none 0 0)).setCell ⟨w.heap.size, 1, none⟩ (.slice none 0 0)).setCell ⟨w.heap.size, 2, none⟩ (.slice none 0 0)).setCell ⟨w.heap.size, 3, none⟩ (.slice none 0 0) = X := ⟨_, rfl⟩
    have x0 : X.heap[w.heap.size]? = some (.cells #[.slice none 0 0, .slice none 0 0, .slice none 0 0, .slice none 0 0] 31 (0, 0)) := by rw [← hX]; exact box4_set HX.out
    have x3 : Below w.heap.size w X := by rw [← hX]; exact (((HB.out.setCell (Nat.le_refl _) _).setCell (Nat.le_refl _) _).setCell (Nat.le_refl _) _).setCell (Nat.le_refl _) _
    rw [hX]
    clear hX
    have b2 := one_belowS X (Obj.cells #[Value.slice none 0 0] 24)
    have x5 := keepB x0 b2
    obtain ⟨m0, m1, m2, m3, mf, ml⟩ := box4_facts x5
    refine bodyPost_ret (v := .tuple #[.agg #[.slice none 0 0, .slice none 0 0, .slice none 0 0, .slice none 0 0], .int .i64 2]) (by simp [results, Tryz.results11, go_sem, m0, m1, m2, m3]) rfl ⟨⟨none, none, none, none, 0, 0, 0, 0⟩, rfl, x3.trans (b2.mono x3.size), rl_zero _ _⟩

set_option maxRecDepth 100000 in
set_option maxHeartbeats 1000000 in
theorem isHand_any (A : RA) (R : Rl) (k : Int) (w : World) (hl : R.hs.length = 16) :
    Calls Tryz.prog 22 #[rlV A R, .int .i64 k] w fun e w' => e = .returned (.bool (decide (isH k))) ∧ Below w.heap.size w w' := by
  dsimp only [rlV]
  rw [hl]
  have D : Hid (∀ W, Calls _ _ _ _ _) := fun W => within_any k 0 15 W
  have hd : decide (0 ≤ k ∧ k ≤ 15) = decide (isH k) := rfl
  rw [hd] at D
  clear hd hl
  generalize decide (isH k) = r at *
  go_enter Tryz.func22, Tryz.ntmps22
  go_wp2_with fail
  refine Calls.mono (D.out _) ?_
  rintro e V ⟨rfl, hw⟩
  subst hw
  go_wp2
  go_ret
  exact ⟨rfl, one_belowS _ _⟩
end Go.Proofs.YtgjfmepbphfjoaaGreat
