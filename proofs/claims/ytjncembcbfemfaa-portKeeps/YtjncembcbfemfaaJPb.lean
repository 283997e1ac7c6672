/-
  Ports in memory; slices.EqualFunc over graphs, over ports.
-/
import Derived.Test.YtjncembcbfemfaaJPa
namespace Go.Proofs.Ytjncembcbfemfaa
open Go.RowKit Go.ChangeShapes Go.WideShapes
set_option linter.unusedVariables false

/-- Graphs in memory. -/
def GrsAt (w : World) (a : Option Addr) (C : List (List Cl)) : Prop :=
  ∀ i, i < C.length → ∃ b o ga gc, a = some ⟨b, o, none⟩ ∧ w.cell? ⟨b, o + i, none⟩ = some (.slice ga (gr C i).length gc) ∧ ClsAt w ga (gr C i)
theorem GrsAt.below {w w' : World} {a : Option Addr} {C : List (List Cl)} (h : GrsAt w a C) (hb : Below w.heap.size w w') : GrsAt w' a C := fun i hi => by
  obtain ⟨b, o, ga, gc, e, h1, h2⟩ := h i hi
  exact ⟨b, o, ga, gc, e, keepC h1 hb, h2.below hb⟩
theorem grs_none (w : World) : GrsAt w none [] := fun i hi => absurd hi (Nat.not_lt_zero _)
def BigG (C : List (List Cl)) : Prop := ∀ i, i < C.length → (gr C i).length ≤ 9223372036854775807 ∧ BigC (gr C i)
/-- What came, at a slice. -/
def GrsC (w : World) (a : Option Addr) (c : Nat) (C : List (List Cl)) : Prop := ((a = none → c = 0) ∧ C.length ≤ c ∧ c ≤ 9223372036854775807) ∧ GrsAt w a C
theorem GrsC.below {w w' : World} {a : Option Addr} {c : Nat} {C : List (List Cl)} (h : GrsC w a c C) (hb : Below w.heap.size w w') : GrsC w' a c C := ⟨h.1, h.2.below hb⟩
/-- A port in memory. -/
def PtAt (w : World) (b o : Nat) (x : Pt) : Prop :=
  w.cell? ⟨b, o, none⟩ = some (.int .i64 x.o) ∧ w.cell? ⟨b, o + 1, none⟩ = some (.int .i64 x.t) ∧ w.cell? ⟨b, o + 2, none⟩ = some (.int .i64 x.m) ∧ ∃ ca cc, w.cell? ⟨b, o + 3, none⟩ = some (.slice ca x.cm.length cc) ∧ GrsC w ca cc x.cm ∧ w.cell? ⟨b, o + 4, none⟩ = some (.bool x.s)
theorem PtAt.below {w w' : World} {b o : Nat} {x : Pt} (h : PtAt w b o x) (hb : Below w.heap.size w w') : PtAt w' b o x := by
  obtain ⟨c0, c1, c2, ca, cc, c3, hg, c4⟩ := h
  exact ⟨keepC c0 hb, keepC c1 hb, keepC c2 hb, ca, cc, keepC c3 hb, hg.below hb, keepC c4 hb⟩
def PtsAt (w : World) (a : Option Addr) (L : List Pt) : Prop :=
  ∀ i, i < L.length → ∃ b o, a = some ⟨b, o, none⟩ ∧ PtAt w b (o + i * 5) (pt L i)
theorem PtsAt.below {w w' : World} {a : Option Addr} {L : List Pt} (h : PtsAt w a L) (hb : Below w.heap.size w w') : PtsAt w' a L := fun i hi => by
  obtain ⟨b, o, e, hn⟩ := h i hi
  exact ⟨b, o, e, hn.below hb⟩
theorem pts_none (w : World) : PtsAt w none [] := fun i hi => absurd hi (Nat.not_lt_zero _)
def BigP (L : List Pt) : Prop := ∀ i, i < L.length → (pt L i).cm.length ≤ 9223372036854775807 ∧ BigG (pt L i).cm

/-- What is asked of a function value that tells whether two graphs are alike. -/
def TellsG (K : Nat) : Prop := ∀ (x y : List Cl) (ka ka' : Option Addr) (kc kc' : Nat) (W : World), x.length ≤ 9223372036854775807 → BigC x → ClsAt W ka x → ClsAt W ka' y →
  Calls Try.prog K #[.agg #[.slice ka x.length kc], .agg #[.slice ka' y.length kc']] W fun e w' => ∃ r : Bool, e = .returned (.bool r) ∧ Below W.heap.size W w' ∧ (r = true ↔ x = y)
/-- The same of two ports. -/
def TellsP (K : Nat) : Prop := ∀ (x y : Pt) (ka ka' : Option Addr) (kc kc' : Nat) (W : World), x.cm.length ≤ 9223372036854775807 → BigG x.cm → GrsAt W ka x.cm → GrsAt W ka' y.cm →
  Calls Try.prog K #[.agg #[.int .i64 x.o, .int .i64 x.t, .int .i64 x.m, .slice ka x.cm.length kc, .bool x.s], .agg #[.int .i64 y.o, .int .i64 y.t, .int .i64 y.m, .slice ka' y.cm.length kc', .bool y.s]] W fun e w' => ∃ r : Bool, e = .returned (.bool r) ∧ Below W.heap.size W w' ∧ (r = true ↔ x = y)

end Go.Proofs.Ytjncembcbfemfaa
