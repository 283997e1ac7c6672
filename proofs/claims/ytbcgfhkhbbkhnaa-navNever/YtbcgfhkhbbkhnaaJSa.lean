/-
  What a store handed in reads as (a list of nodes, each with the list of its children), and contracts of the searches of lists of numbers.
-/
import Derived.Test.YtbcgfhkhbbkhnaaProg
import Derived.WalkKit
import Derived.Deep.LoopGhost
import Derived.Deep.Draws
import Derived.Laws.CopyOwn
import Derived.Deep.OwnRows
import Derived.Shelf.Abstract
namespace Go.Proofs.Ytbcgfhkhbbkhnaa
open Go.RowKit

/-- A node: its fields, and the list of its children. -/
structure Nd where
  u : Bool
  n : Int
  t : Int
  m : Int
  p : Int
  ks : List Int
  h : Int
  c : Bool

def zeroNd : Nd := ⟨false, 0, 0, 0, 0, [], 0, false⟩

theorem getD_elem {α : Type} (l : List α) (d : α) {k : Nat} (h : k < l.length) : l.getD k d = l[k] := by
  simp [List.getD, h]

def IntsAt (w : World) (a : Option Addr) (ks : List Int) : Prop :=
  ∀ i, i < ks.length → ∃ b o, a = some ⟨b, o, none⟩ ∧ w.cell? ⟨b, o + i, none⟩ = some (.int .i64 (ks.getD i 0))

theorem IntsAt.below {w w' : World} {a : Option Addr} {ks : List Int} (h : IntsAt w a ks) (hb : Below w.heap.size w w') : IntsAt w' a ks := by
  intro i hi
  obtain ⟨b, o, e, hc⟩ := h i hi
  exact ⟨b, o, e, (hb.cell (World.block_lt_of_cell? w ⟨b, o + i, none⟩ hc)).trans hc⟩

/-- What is asked of a function value that tells yes or no of a number: in every world in which all that lay in w lies unturned, it answers p, and turns nothing. -/
def Tells (K : Nat) (caps : Array Value) (p : Int → Bool) (w : World) : Prop :=
  ∀ (x : Int) (w1 : World), Below w.heap.size w w1 → Calls Try.prog K (#[.int .i64 x] ++ caps) w1 fun e w2 => e = .returned (.bool (p x)) ∧ Below w1.heap.size w1 w2

end Go.Proofs.Ytbcgfhkhbbkhnaa
