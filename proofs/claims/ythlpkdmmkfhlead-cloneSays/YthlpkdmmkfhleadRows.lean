/-
  No cell of these rows narrows 'for every input' (looked for: loops, veiled, ifaces, maps, wideKeys, modest, calm, conditions, laid).
  DERIVED. THE GIVEN ROWS OF THIS SEAT. 4 by the template 'for every input the law returns true; each argument reads behind the call as it read before'; 0 by the template 'total and deterministic' (their statements: YthlpkdmmkfhleadTotals.lean).
  GIVEN WITH THE SEED: the statements are not yours to turn. If you find one false, say at which input.
  Laid BY PROGRAM, IN A SANDBOX (cutbox-rows.mjs): the forced cells as the released guide's own fill.sh prints them over the translation ccb326177a51ed2a… (all of the seat's roots in one cut). By AI agents, Wed Nov 11 2026. No macro, syntax, notation, axiom, sorry.
-/
import Derived.Test.YthlpkdmmkfhleadChecked
import GoSem.Claim
import GoSem.ClaimJoined
import GoSem.ClaimMapViews
import Derived.JoinedTies
import Derived.KernelRfl
namespace Go.Proofs.Ythlpkdmmkfhlead
/- THE CELL 'sum', in the pinned program and in every row, IS THE sha256 OF THE DUMP (.gsa) THAT YthlpkdmmkfhleadProg.lean LOADS. Nothing in Lean hashes anything: it is a label: what it is worth is what the hold of that sum in a sandbox is worth. -/
noncomputable def Try.pinned : Pinned := { name := "ythlpkdmmkfhlead", sum := "ccb326177a51ed2a457057c761a2b540b4c3790c1a95d4edde517806edd7f5b5", checked := Try.checked }
namespace Rows
def none {H : Type} : Left H := { results := [], args := [] }

/-- 'glasshouselaw.EventStops': WHATEVER THE INPUT: true; the input reads as it did. -/
def eventStopsSpec : ChangeSpec := { name := "eventStops", fn := fun _ => fun
  | [d1, d2, d3, d4] => { results := [.lit (.bool true)], args := [d1, d2, d3, d4] }
  | _ => none }
def eventStopsRow : OpenClaim := { program := "ythlpkdmmkfhlead", sum := "ccb326177a51ed2a457057c761a2b540b4c3790c1a95d4edde517806edd7f5b5", func := "glasshouse/glasshouselaw.EventStops", spec := "eventStops", inPlace := ["slices.overlaps[int]"], unfollowed := true, recurses := true, plainKeys := false, apart := false }
def EventStopsSaid : Prop := eventStopsRow.holds Try.pinned (OpenSpec.ofChange eventStopsSpec)

/-- ITS FALSE NEIGHBOUR: 'it returns false'. Refute it at one input. -/
def eventStopsWrong : ChangeSpec := { name := "eventStops", fn := fun _ => fun
  | [d1, d2, d3, d4] => { results := [.lit (.bool false)], args := [d1, d2, d3, d4] }
  | _ => none }
def EventStopsWrongFalsely : Prop := eventStopsRow.holds Try.pinned (OpenSpec.ofChange eventStopsWrong)

/-- 'glasshouselaw.CloneSays': WHATEVER THE INPUT: true; the input reads as it did. -/
def cloneSaysSpec : ChangeSpec := { name := "cloneSays", fn := fun _ => fun
  | [d1, d2] => { results := [.lit (.bool true)], args := [d1, d2] }
  | _ => none }
def cloneSaysRow : OpenClaim := { program := "ythlpkdmmkfhlead", sum := "ccb326177a51ed2a457057c761a2b540b4c3790c1a95d4edde517806edd7f5b5", func := "glasshouse/glasshouselaw.CloneSays", spec := "cloneSays", unfollowed := true, recurses := true, plainKeys := false, apart := false }
def CloneSaysSaid : Prop := cloneSaysRow.holds Try.pinned (OpenSpec.ofChange cloneSaysSpec)

/-- ITS FALSE NEIGHBOUR: 'it returns false'. Refute it at one input. -/
def cloneSaysWrong : ChangeSpec := { name := "cloneSays", fn := fun _ => fun
  | [d1, d2] => { results := [.lit (.bool false)], args := [d1, d2] }
  | _ => none }
def CloneSaysWrongFalsely : Prop := cloneSaysRow.holds Try.pinned (OpenSpec.ofChange cloneSaysWrong)

/-- 'glasshouselaw.CloneLike': WHATEVER THE INPUT: true; the input reads as it did. -/
def cloneLikeSpec : ChangeSpec := { name := "cloneLike", fn := fun _ => fun
  | [d1, d2] => { results := [.lit (.bool true)], args := [d1, d2] }
  | _ => none }
def cloneLikeRow : OpenClaim := { program := "ythlpkdmmkfhlead", sum := "ccb326177a51ed2a457057c761a2b540b4c3790c1a95d4edde517806edd7f5b5", func := "glasshouse/glasshouselaw.CloneLike", spec := "cloneLike", unfollowed := true, recurses := true, plainKeys := false, apart := false }
def CloneLikeSaid : Prop := cloneLikeRow.holds Try.pinned (OpenSpec.ofChange cloneLikeSpec)

/-- ITS FALSE NEIGHBOUR: 'it returns false'. Refute it at one input. -/
def cloneLikeWrong : ChangeSpec := { name := "cloneLike", fn := fun _ => fun
  | [d1, d2] => { results := [.lit (.bool false)], args := [d1, d2] }
  | _ => none }
def CloneLikeWrongFalsely : Prop := cloneLikeRow.holds Try.pinned (OpenSpec.ofChange cloneLikeWrong)

/-- 'glasshouselaw.CloneApart': WHATEVER THE INPUT: true; the input reads as it did. -/
def cloneApartSpec : ChangeSpec := { name := "cloneApart", fn := fun _ => fun
  | [d1, d2] => { results := [.lit (.bool true)], args := [d1, d2] }
  | _ => none }
def cloneApartRow : OpenClaim := { program := "ythlpkdmmkfhlead", sum := "ccb326177a51ed2a457057c761a2b540b4c3790c1a95d4edde517806edd7f5b5", func := "glasshouse/glasshouselaw.CloneApart", spec := "cloneApart", unfollowed := true, recurses := true, plainKeys := false, apart := false }
def CloneApartSaid : Prop := cloneApartRow.holds Try.pinned (OpenSpec.ofChange cloneApartSpec)

/-- ITS FALSE NEIGHBOUR: 'it returns false'. Refute it at one input. -/
def cloneApartWrong : ChangeSpec := { name := "cloneApart", fn := fun _ => fun
  | [d1, d2] => { results := [.lit (.bool false)], args := [d1, d2] }
  | _ => none }
def CloneApartWrongFalsely : Prop := cloneApartRow.holds Try.pinned (OpenSpec.ofChange cloneApartWrong)

/- THE SECOND FORM. 'bulk': how many values and letters a reading holds, each counted each time it is reached (what is shared counts as often as it is met; a slice's spare places count too). A statement '..UptoSaid' is the law's where the arguments, and the package variables that the reading takes, are together of bulk at most 1048576: NARROWER than '..Said'. Prove '..Said' where nothing that the law and all that it calls make is longer than what came in: it says more and counts as full. Else prove '..UptoSaid'. A law counts once. -/
mutual
def uptoBulk {H : Type} : DataW H → Nat
  | .lit (.string bytes) => bytes.length + 1
  | .lit _ => 1
  | .nil => 1
  | .ptr d => uptoBulk d + 1
  | .slice elems spare => uptoBulkAll elems + uptoBulkAll spare + 1
  | .agg parts => uptoBulkAll parts + 1
  | .iface _ d => uptoBulk d + 1
  | .map entries => uptoBulkEntries entries + 1
  | .held _ => 1
def uptoBulkAll {H : Type} : List (DataW H) → Nat
  | [] => 0
  | d :: r => uptoBulk d + uptoBulkAll r
def uptoBulkEntries {H : Type} : List (Lit × DataW H) → Nat
  | [] => 0
  | x :: r => uptoBulkEntry x + uptoBulkEntries r
def uptoBulkEntry {H : Type} : Lit × DataW H → Nat
  | (.string bytes, d) => bytes.length + uptoBulk d + 1
  | (_, d) => uptoBulk d + 1
 end
def uptoSmall : (H : Type) → List (DataW H) → Bool := fun _ ds => decide (uptoBulkAll ds ≤ 1048576)
def OpenSpec.upto (s : _root_.Go.ChangeSpec) : _root_.Go.OpenSpec := { _root_.Go.OpenSpec.ofChange s with cond := some uptoSmall }

/-- 'glasshouselaw.EventStops', WHERE WHAT IT READS IS OF BULK AT MOST 1048576: true; the input reads as it did. -/
def eventStopsUptoRow : OpenClaim := { program := "ythlpkdmmkfhlead", sum := "ccb326177a51ed2a457057c761a2b540b4c3790c1a95d4edde517806edd7f5b5", func := "glasshouse/glasshouselaw.EventStops", spec := "eventStops", inPlace := ["slices.overlaps[int]"], unfollowed := true, recurses := true, plainKeys := false, apart := false, narrowed := true }
def EventStopsUptoSaid : Prop := eventStopsUptoRow.holds Try.pinned (OpenSpec.upto eventStopsSpec)

/-- 'glasshouselaw.CloneSays', WHERE WHAT IT READS IS OF BULK AT MOST 1048576: true; the input reads as it did. -/
def cloneSaysUptoRow : OpenClaim := { program := "ythlpkdmmkfhlead", sum := "ccb326177a51ed2a457057c761a2b540b4c3790c1a95d4edde517806edd7f5b5", func := "glasshouse/glasshouselaw.CloneSays", spec := "cloneSays", unfollowed := true, recurses := true, plainKeys := false, apart := false, narrowed := true }
def CloneSaysUptoSaid : Prop := cloneSaysUptoRow.holds Try.pinned (OpenSpec.upto cloneSaysSpec)

/-- 'glasshouselaw.CloneLike', WHERE WHAT IT READS IS OF BULK AT MOST 1048576: true; the input reads as it did. -/
def cloneLikeUptoRow : OpenClaim := { program := "ythlpkdmmkfhlead", sum := "ccb326177a51ed2a457057c761a2b540b4c3790c1a95d4edde517806edd7f5b5", func := "glasshouse/glasshouselaw.CloneLike", spec := "cloneLike", unfollowed := true, recurses := true, plainKeys := false, apart := false, narrowed := true }
def CloneLikeUptoSaid : Prop := cloneLikeUptoRow.holds Try.pinned (OpenSpec.upto cloneLikeSpec)

/-- 'glasshouselaw.CloneApart', WHERE WHAT IT READS IS OF BULK AT MOST 1048576: true; the input reads as it did. -/
def cloneApartUptoRow : OpenClaim := { program := "ythlpkdmmkfhlead", sum := "ccb326177a51ed2a457057c761a2b540b4c3790c1a95d4edde517806edd7f5b5", func := "glasshouse/glasshouselaw.CloneApart", spec := "cloneApart", unfollowed := true, recurses := true, plainKeys := false, apart := false, narrowed := true }
def CloneApartUptoSaid : Prop := cloneApartUptoRow.holds Try.pinned (OpenSpec.upto cloneApartSpec)

end Rows
end Go.Proofs.Ythlpkdmmkfhlead
