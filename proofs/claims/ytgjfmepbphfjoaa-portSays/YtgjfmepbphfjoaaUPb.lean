/-
  Ports in memory; slices.EqualFunc over graphs, over ports.
-/
import Derived.Test.YtgjfmepbphfjoaaUPa
namespace Go.Proofs.Ytgjfmepbphfjoaa
open Go.RowKit Go.ChangeShapes Go.WideShapes
set_option linter.unusedVariables false

/-- Graphs in memory. -/
def GrsAt (w : World) (a : Option Addr) (C : List (List Cl)) : Prop :=
  ∀ i, i < C.length → ∃ b o ga gc, a = some ⟨b, o, none⟩ ∧ w.cell? ⟨b, o + i, none⟩ = some (.slice ga (gr C i).length gc) ∧ ClsAt w ga (gr C i)
theorem GrsAt.below {w w' : World} {a : Option Addr} {C : List (List Cl)} (h : GrsAt w a C) (hb : Below w.heap.size w w') : GrsAt w' a C := fun i hi => by
  obtain ⟨b, o, ga, gc, e, h1, h2⟩ := h i hi
  exact ⟨b, o, ga, gc, e, keepC h1 hb, h2.below hb⟩
theorem grs_none (w : World) : GrsAt w none [] := fun i hi => absurd hi (Nat.not_lt_zero _)
def BigG (C : List (List Cl)) : Prop := ∀ i, i < C.length → (gr C i).length ≤ 9223372036854775807 ∧ BigC (gr C i)
/-- What came, at a slice. -/
def GrsC (w : World) (a : Option Addr) (c : Nat) (C : List (List Cl)) : Prop := ((a = none → c = 0) ∧ C.length ≤ c ∧ c ≤ 9223372036854775807) ∧ GrsAt w a C
theorem GrsC.below {w w' : World} {a : Option Addr} {c : Nat} {C : List (List Cl)} (h : GrsC w a c C) (hb : Below w.heap.size w w') : GrsC w' a c C := ⟨h.1, h.2.below hb⟩
/-- A port in memory. -/
def PtAt (w : World) (b o : Nat) (x : Pt) : Prop :=
  w.cell? ⟨b, o, none⟩ = some (.int .i64 x.o) ∧ w.cell? ⟨b, o + 1, none⟩ = some (.int .i64 x.t) ∧ w.cell? ⟨b, o + 2, none⟩ = some (.int .i64 x.m) ∧ ∃ ca cc, w.cell? ⟨b, o + 3, none⟩ = some (.slice ca x.cm.length cc) ∧ GrsC w ca cc x.cm ∧ w.cell? ⟨b, o + 4, none⟩ = some (.bool x.s)
theorem PtAt.below {w w' : World} {b o : Nat} {x : Pt} (h : PtAt w b o x) (hb : Below w.heap.size w w') : PtAt w' b o x := by
  obtain ⟨c0, c1, c2, ca, cc, c3, hg, c4⟩ := h
  exact ⟨keepC c0 hb, keepC c1 hb, keepC c2 hb, ca, cc, keepC c3 hb, hg.below hb, keepC c4 hb⟩
def PtsAt (w : World) (a : Option Addr) (L : List Pt) : Prop :=
  ∀ i, i < L.length → ∃ b o, a = some ⟨b, o, none⟩ ∧ PtAt w b (o + i * 5) (pt L i)
theorem PtsAt.below {w w' : World} {a : Option Addr} {L : List Pt} (h : PtsAt w a L) (hb : Below w.heap.size w w') : PtsAt w' a L := fun i hi => by
  obtain ⟨b, o, e, hn⟩ := h i hi
  exact ⟨b, o, e, hn.below hb⟩
theorem pts_none (w : World) : PtsAt w none [] := fun i hi => absurd hi (Nat.not_lt_zero _)
def BigP (L : List Pt) : Prop := ∀ i, i < L.length → (pt L i).cm.length ≤ 9223372036854775807 ∧ BigG (pt L i).cm

/-- What is asked of a function value that tells whether two graphs are alike. -/
def TellsG (K : Nat) : Prop := ∀ (x y : List Cl) (ka ka' : Option Addr) (kc kc' : Nat) (W : World), x.length ≤ 9223372036854775807 → BigC x → ClsAt W ka x → ClsAt W ka' y →
  Calls Try.prog K #[.agg #[.slice ka x.length kc], .agg #[.slice ka' y.length kc']] W fun e w' => ∃ r : Bool, e = .returned (.bool r) ∧ Below W.heap.size W w' ∧ (r = true ↔ x = y)
/-- The same of two ports. -/
def TellsP (K : Nat) : Prop := ∀ (x y : Pt) (ka ka' : Option Addr) (kc kc' : Nat) (W : World), x.cm.length ≤ 9223372036854775807 → BigG x.cm → GrsAt W ka x.cm → GrsAt W ka' y.cm →
  Calls Try.prog K #[.agg #[.int .i64 x.o, .int .i64 x.t, .int .i64 x.m, .slice ka x.cm.length kc, .bool x.s], .agg #[.int .i64 y.o, .int .i64 y.t, .int .i64 y.m, .slice ka' y.cm.length kc', .bool y.s]] W fun e w' => ∃ r : Bool, e = .returned (.bool r) ∧ Below W.heap.size W w' ∧ (r = true ↔ x = y)

set_option maxRecDepth 100000 in
set_option maxHeartbeats 2000000 in
theorem equalGrs_any (K : Nat) (eg : ∀ args w, (callFunc K args).run Try.prog w = .ok (.enter K args) w) (hK : TellsG K) (a a' : Option Addr) (c c' : Nat) (S S' : List (List Cl)) (w : World) (hN : S.length ≤ 9223372036854775807) (hB : BigG S) (h1 : GrsAt w a S) (h2 : GrsAt w a' S') :
    Calls Try.prog 42 #[.slice a S.length c, .slice a' S'.length c', .func (.func K) #[] #[]] w fun e w' => ∃ r : Bool, e = .returned (.bool r) ∧ Below w.heap.size w w' ∧ (r = true ↔ S = S') := by
  by_cases hl : S.length = S'.length
  · have E1 : Hid ((∀ i, i < S.length → gr S i = gr S' i) → S = S') := fun h => gr_ext hl h
    have E2 : Hid (∀ i, gr S i ≠ gr S' i → S ≠ S') := fun i h e => h (by rw [e])
    have H1 : Hid (GrsAt w a S) := h1
    have H2 : Hid (GrsAt w a' S') := h2
    have HB : Hid (BigG S) := hB
    have HK : Hid (TellsG K) := hK
    have HL : Hid (S'.length = S.length) := hl.symm
    rw [← hl]
    clear h1 h2 hB hl hK
    generalize hn : S.length = n at *
    have HN : Hid _ := hn
    clear hn
    go_enter Try.func42, Try.ntmps42
    go_wp2
    go_loopg [17] n (fun g s17 wr => ∃ k : Nat, k ≤ n ∧ n - k ≤ g ∧ s17 = .int .i64 k ∧ Below w.heap.size w wr ∧ Hid (∀ i, i < k → gr S i = gr S' i))
    case atStart => exact ⟨0, by omega, by omega, rfl, Below.refl _ _, fun i hi => by omega⟩
    case round =>
      obtain ⟨k, hk, hg, rfl, hb, A⟩ := hrel
      by_cases hlt : k < n
      · have hlt2 : (k : Int) < (n : Int) := by omega
        obtain ⟨b, o, ka, kc, rfl, c0, hk1⟩ := (H1.out.below hb) k (by rw [HN.out]; exact hlt)
        obtain ⟨b', o', ka', kc', rfl, e0, hk2⟩ := (H2.out.below hb) k (by rw [HL.out]; exact hlt)
        have hbb := World.block_lt_of_cell? _ _ c0
        have hbb' := World.block_lt_of_cell? _ _ e0
        have d1 := fun o1 o2 => HK.out (gr S k) (gr S' k) ka ka' kc kc' ((wr.alloc o1).alloc o2) (HB.out k (by rw [HN.out]; exact hlt)).1 (HB.out k (by rw [HN.out]; exact hlt)).2 (hk1.below (two_belowS _ _ _)) (hk2.below (two_belowS _ _ _))
        have EK2 : Hid _ := E2.out k
        have KK : Hid (gr S k = gr S' k → ∀ i, i < k + 1 → gr S i = gr S' i) := fun h i hi => by
          by_cases e : i = k
          · subst e; exact h
          · exact A.out i (by omega)
        clear hk1 hk2
        have D1 : Hid _ := d1
        clear d1
        generalize gr S k = x at *
        generalize gr S' k = y at *
        go_wp2_with fail
        refine (D1.out _ _).mono ?_
        rintro e w3 ⟨r, rfl, hb3, hr⟩
        cases r with
        | true =>
          have HR : Hid _ := hr.1 rfl
          clear hr
          go_wp2
          go_roundg (n - (k + 1))
          case measure => omega
          case rel => exact ⟨k + 1, by omega, by omega, by go_num, (hb.trans ((two_belowS _ _ _).mono hb.size)).trans (hb3.mono (by simp; have := hb.size; omega)), KK.out HR.out⟩
        | false =>
          have HR : Hid (S ≠ S') := EK2.out fun e => by have := hr.2 e; cases this
          clear hr
          go_wp2
          go_ret
          exact ⟨false, rfl, (hb.trans ((two_belowS _ _ _).mono hb.size)).trans (hb3.mono (by simp; have := hb.size; omega)), ⟨fun h => (by cases h), fun h => absurd h HR.out⟩⟩
      · have : k = n := by omega
        subst this
        go_wp2
        go_ret
        exact ⟨true, rfl, hb, ⟨fun _ => E1.out A.out, fun _ => rfl⟩⟩
  · have hl' : ¬ ((S.length : Int) = (S'.length : Int)) := by omega
    have HNE : Hid (S ≠ S') := fun e => hl (by rw [e])
    clear h1 h2 hB hK
    generalize S.length = n at *
    generalize S'.length = n' at *
    go_enter Try.func42, Try.ntmps42
    go_wp2
    go_ret
    exact ⟨false, rfl, Below.refl _ _, ⟨fun h => (by cases h), fun h => absurd h HNE.out⟩⟩

set_option maxRecDepth 100000 in
set_option maxHeartbeats 2000000 in
theorem equalPts_any (K : Nat) (eg : ∀ args w, (callFunc K args).run Try.prog w = .ok (.enter K args) w) (hK : TellsP K) (a a' : Option Addr) (c c' : Nat) (S S' : List Pt) (w : World) (hN : S.length ≤ 9223372036854775807) (hB : BigP S) (h1 : PtsAt w a S) (h2 : PtsAt w a' S') :
    Calls Try.prog 39 #[.slice a S.length c, .slice a' S'.length c', .func (.func K) #[] #[]] w fun e w' => ∃ r : Bool, e = .returned (.bool r) ∧ Below w.heap.size w w' ∧ (r = true ↔ S = S') := by
  by_cases hl : S.length = S'.length
  · have E1 : Hid ((∀ i, i < S.length → pt S i = pt S' i) → S = S') := fun h => pt_ext hl h
    have E2 : Hid (∀ i, pt S i ≠ pt S' i → S ≠ S') := fun i h e => h (by rw [e])
    have H1 : Hid (PtsAt w a S) := h1
    have H2 : Hid (PtsAt w a' S') := h2
    have HB : Hid (BigP S) := hB
    have HK : Hid (TellsP K) := hK
    have HL : Hid (S'.length = S.length) := hl.symm
    rw [← hl]
    clear h1 h2 hB hl hK
    generalize hn : S.length = n at *
    have HN : Hid _ := hn
    clear hn
    go_enter Try.func39, Try.ntmps39
    go_wp2
    go_loopg [17] n (fun g s17 wr => ∃ k : Nat, k ≤ n ∧ n - k ≤ g ∧ s17 = .int .i64 k ∧ Below w.heap.size w wr ∧ Hid (∀ i, i < k → pt S i = pt S' i))
    case atStart => exact ⟨0, by omega, by omega, rfl, Below.refl _ _, fun i hi => by omega⟩
    case round =>
      obtain ⟨k, hk, hg, rfl, hb, A⟩ := hrel
      by_cases hlt : k < n
      · have hlt2 : (k : Int) < (n : Int) := by omega
        obtain ⟨b, o, rfl, c0, c1, c2, ka, kc, c3, ⟨_, hk1⟩, c4⟩ := (H1.out.below hb) k (by rw [HN.out]; exact hlt)
        obtain ⟨b', o', rfl, e0, e1, e2, ka', kc', e3, ⟨_, hk2⟩, e4⟩ := (H2.out.below hb) k (by rw [HL.out]; exact hlt)
        have hbb := World.block_lt_of_cell? _ _ c0
        have hbb' := World.block_lt_of_cell? _ _ e0
        have d1 := fun o1 o2 => HK.out (pt S k) (pt S' k) ka ka' kc kc' ((wr.alloc o1).alloc o2) (HB.out k (by rw [HN.out]; exact hlt)).1 (HB.out k (by rw [HN.out]; exact hlt)).2 (hk1.below (two_belowS _ _ _)) (hk2.below (two_belowS _ _ _))
        have EK2 : Hid _ := E2.out k
        have KK : Hid (pt S k = pt S' k → ∀ i, i < k + 1 → pt S i = pt S' i) := fun h i hi => by
          by_cases e : i = k
          · subst e; exact h
          · exact A.out i (by omega)
        clear hk1 hk2
        have D1 : Hid _ := d1
        clear d1
        generalize pt S k = x at *
        generalize pt S' k = y at *
        go_wp2_with fail
        refine (D1.out _ _).mono ?_
        rintro e w3 ⟨r, rfl, hb3, hr⟩
        cases r with
        | true =>
          have HR : Hid _ := hr.1 rfl
          clear hr
          go_wp2
          go_roundg (n - (k + 1))
          case measure => omega
          case rel => exact ⟨k + 1, by omega, by omega, by go_num, (hb.trans ((two_belowS _ _ _).mono hb.size)).trans (hb3.mono (by simp; have := hb.size; omega)), KK.out HR.out⟩
        | false =>
          have HR : Hid (S ≠ S') := EK2.out fun e => by have := hr.2 e; cases this
          clear hr
          go_wp2
          go_ret
          exact ⟨false, rfl, (hb.trans ((two_belowS _ _ _).mono hb.size)).trans (hb3.mono (by simp; have := hb.size; omega)), ⟨fun h => (by cases h), fun h => absurd h HR.out⟩⟩
      · have : k = n := by omega
        subst this
        go_wp2
        go_ret
        exact ⟨true, rfl, hb, ⟨fun _ => E1.out A.out, fun _ => rfl⟩⟩
  · have hl' : ¬ ((S.length : Int) = (S'.length : Int)) := by omega
    have HNE : Hid (S ≠ S') := fun e => hl (by rw [e])
    clear h1 h2 hB hK
    generalize S.length = n at *
    generalize S'.length = n' at *
    go_enter Try.func39, Try.ntmps39
    go_wp2
    go_ret
    exact ⟨false, rfl, Below.refl _ _, ⟨fun h => (by cases h), fun h => absurd h HNE.out⟩⟩

end Go.Proofs.Ytgjfmepbphfjoaa
