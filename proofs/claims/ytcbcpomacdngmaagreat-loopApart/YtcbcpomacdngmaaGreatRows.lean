/-
  No cell of these rows narrows 'for every input' (looked for: loops, veiled, ifaces, maps, wideKeys, modest, calm, conditions, laid).
  DERIVED. THE GIVEN ROWS OF THIS SEAT. 6 by the template 'for every input the law returns true; each argument reads behind the call as it read before'; 0 by the template 'total and deterministic' (their statements: YtcbcpomacdngmaaGreatTotals.lean).
  GIVEN WITH THE SEED: the statements are not yours to turn. If you find one false, say at which input.
  Laid BY PROGRAM, IN A SANDBOX (cutbox-rows.mjs): the forced cells as the released guide's own fill.sh prints them over the translation b3acd2b8218b5bf7… (all of the seat's roots in one cut). By AI agents, Wed Nov 11 2026. No macro, syntax, notation, axiom, sorry.
-/
import Derived.Test.YtcbcpomacdngmaaGreatChecked
import GoSem.Claim
import GoSem.ClaimJoined
import GoSem.ClaimMapViews
import Derived.JoinedTies
import Derived.KernelRfl
namespace Go.Proofs.YtcbcpomacdngmaaGreat
/- THE CELL 'sum', in the pinned program and in every row, IS THE sha256 OF THE DUMP (.gsa) THAT YtcbcpomacdngmaaGreatProg.lean LOADS. Nothing in Lean hashes anything: it is a label: what it is worth is what the hold of that sum in a sandbox is worth. -/
noncomputable def Tryz.pinned : Pinned := { name := "ytcbcpomacdngmaagreat", sum := "b3acd2b8218b5bf7ec2c1638cfd6ff09250a4edd4c691adfce50bed8a072cd0f", checked := Tryz.checked }
namespace Rows
def none {H : Type} : Left H := { results := [], args := [] }

/-- 'glasshouselaw.LoopMail': WHATEVER THE INPUT: true; the input reads as it did. -/
def loopMailSpec : ChangeSpec := { name := "loopMail", fn := fun _ => fun
  | [d1, d2, d3, d4] => { results := [.lit (.bool true)], args := [d1, d2, d3, d4] }
  | _ => none }
def loopMailRow : OpenClaim := { program := "ytcbcpomacdngmaagreat", sum := "b3acd2b8218b5bf7ec2c1638cfd6ff09250a4edd4c691adfce50bed8a072cd0f", func := "glasshouse/glasshouselaw.LoopMail", spec := "loopMail", inPlace := ["slices.overlaps[int]"], unfollowed := true, recurses := true, apart := false }
def LoopMailSaid : Prop := loopMailRow.holds Tryz.pinned (OpenSpec.ofChange loopMailSpec)

/-- ITS FALSE NEIGHBOUR: 'it returns false'. Refute it at one input. -/
def loopMailWrong : ChangeSpec := { name := "loopMail", fn := fun _ => fun
  | [d1, d2, d3, d4] => { results := [.lit (.bool false)], args := [d1, d2, d3, d4] }
  | _ => none }
def LoopMailWrongFalsely : Prop := loopMailRow.holds Tryz.pinned (OpenSpec.ofChange loopMailWrong)

/-- 'glasshouselaw.LoopKeeps': WHATEVER THE INPUT: true; the input reads as it did. -/
def loopKeepsSpec : ChangeSpec := { name := "loopKeeps", fn := fun _ => fun
  | [d1, d2] => { results := [.lit (.bool true)], args := [d1, d2] }
  | _ => none }
def loopKeepsRow : OpenClaim := { program := "ytcbcpomacdngmaagreat", sum := "b3acd2b8218b5bf7ec2c1638cfd6ff09250a4edd4c691adfce50bed8a072cd0f", func := "glasshouse/glasshouselaw.LoopKeeps", spec := "loopKeeps", inPlace := ["slices.overlaps[int]"], unfollowed := true, recurses := true, apart := false }
def LoopKeepsSaid : Prop := loopKeepsRow.holds Tryz.pinned (OpenSpec.ofChange loopKeepsSpec)

/-- ITS FALSE NEIGHBOUR: 'it returns false'. Refute it at one input. -/
def loopKeepsWrong : ChangeSpec := { name := "loopKeeps", fn := fun _ => fun
  | [d1, d2] => { results := [.lit (.bool false)], args := [d1, d2] }
  | _ => none }
def LoopKeepsWrongFalsely : Prop := loopKeepsRow.holds Tryz.pinned (OpenSpec.ofChange loopKeepsWrong)

/-- 'glasshouselaw.LoopSecret': WHATEVER THE INPUT: true; the input reads as it did. -/
def loopSecretSpec : ChangeSpec := { name := "loopSecret", fn := fun _ => fun
  | [d1, d2, d3, d4] => { results := [.lit (.bool true)], args := [d1, d2, d3, d4] }
  | _ => none }
def loopSecretRow : OpenClaim := { program := "ytcbcpomacdngmaagreat", sum := "b3acd2b8218b5bf7ec2c1638cfd6ff09250a4edd4c691adfce50bed8a072cd0f", func := "glasshouse/glasshouselaw.LoopSecret", spec := "loopSecret", inPlace := ["slices.overlaps[int]"], unfollowed := true, recurses := true, apart := false }
def LoopSecretSaid : Prop := loopSecretRow.holds Tryz.pinned (OpenSpec.ofChange loopSecretSpec)

/-- ITS FALSE NEIGHBOUR: 'it returns false'. Refute it at one input. -/
def loopSecretWrong : ChangeSpec := { name := "loopSecret", fn := fun _ => fun
  | [d1, d2, d3, d4] => { results := [.lit (.bool false)], args := [d1, d2, d3, d4] }
  | _ => none }
def LoopSecretWrongFalsely : Prop := loopSecretRow.holds Tryz.pinned (OpenSpec.ofChange loopSecretWrong)

/-- 'glasshouselaw.LoopParts': WHATEVER THE INPUT: true; the input reads as it did. -/
def loopPartsSpec : ChangeSpec := { name := "loopParts", fn := fun _ => fun
  | [d1, d2, d3] => { results := [.lit (.bool true)], args := [d1, d2, d3] }
  | _ => none }
def loopPartsRow : OpenClaim := { program := "ytcbcpomacdngmaagreat", sum := "b3acd2b8218b5bf7ec2c1638cfd6ff09250a4edd4c691adfce50bed8a072cd0f", func := "glasshouse/glasshouselaw.LoopParts", spec := "loopParts", inPlace := ["slices.overlaps[int]"], unfollowed := true, recurses := true, apart := false }
def LoopPartsSaid : Prop := loopPartsRow.holds Tryz.pinned (OpenSpec.ofChange loopPartsSpec)

/-- ITS FALSE NEIGHBOUR: 'it returns false'. Refute it at one input. -/
def loopPartsWrong : ChangeSpec := { name := "loopParts", fn := fun _ => fun
  | [d1, d2, d3] => { results := [.lit (.bool false)], args := [d1, d2, d3] }
  | _ => none }
def LoopPartsWrongFalsely : Prop := loopPartsRow.holds Tryz.pinned (OpenSpec.ofChange loopPartsWrong)

/-- 'glasshouselaw.LoopGone': WHATEVER THE INPUT: true; the input reads as it did. -/
def loopGoneSpec : ChangeSpec := { name := "loopGone", fn := fun _ => fun
  | [d1, d2, d3] => { results := [.lit (.bool true)], args := [d1, d2, d3] }
  | _ => none }
def loopGoneRow : OpenClaim := { program := "ytcbcpomacdngmaagreat", sum := "b3acd2b8218b5bf7ec2c1638cfd6ff09250a4edd4c691adfce50bed8a072cd0f", func := "glasshouse/glasshouselaw.LoopGone", spec := "loopGone", inPlace := ["slices.overlaps[int]"], unfollowed := true, recurses := true, apart := false }
def LoopGoneSaid : Prop := loopGoneRow.holds Tryz.pinned (OpenSpec.ofChange loopGoneSpec)

/-- ITS FALSE NEIGHBOUR: 'it returns false'. Refute it at one input. -/
def loopGoneWrong : ChangeSpec := { name := "loopGone", fn := fun _ => fun
  | [d1, d2, d3] => { results := [.lit (.bool false)], args := [d1, d2, d3] }
  | _ => none }
def LoopGoneWrongFalsely : Prop := loopGoneRow.holds Tryz.pinned (OpenSpec.ofChange loopGoneWrong)

/-- 'glasshouselaw.LoopApart': WHATEVER THE INPUT: true; the input reads as it did. -/
def loopApartSpec : ChangeSpec := { name := "loopApart", fn := fun _ => fun
  | [d1, d2, d3, d4, d5] => { results := [.lit (.bool true)], args := [d1, d2, d3, d4, d5] }
  | _ => none }
def loopApartRow : OpenClaim := { program := "ytcbcpomacdngmaagreat", sum := "b3acd2b8218b5bf7ec2c1638cfd6ff09250a4edd4c691adfce50bed8a072cd0f", func := "glasshouse/glasshouselaw.LoopApart", spec := "loopApart", inPlace := ["slices.overlaps[int]"], unfollowed := true, recurses := true, apart := false }
def LoopApartSaid : Prop := loopApartRow.holds Tryz.pinned (OpenSpec.ofChange loopApartSpec)

/-- ITS FALSE NEIGHBOUR: 'it returns false'. Refute it at one input. -/
def loopApartWrong : ChangeSpec := { name := "loopApart", fn := fun _ => fun
  | [d1, d2, d3, d4, d5] => { results := [.lit (.bool false)], args := [d1, d2, d3, d4, d5] }
  | _ => none }
def LoopApartWrongFalsely : Prop := loopApartRow.holds Tryz.pinned (OpenSpec.ofChange loopApartWrong)

/- THE SECOND FORM. 'bulk': how many values and letters a reading holds, each counted each time it is reached (what is shared counts as often as it is met; a slice's spare places count too). A statement '..UptoSaid' is the law's where the arguments, and the package variables that the reading takes, are together of bulk at most 1048576: NARROWER than '..Said'. Prove '..Said' where nothing that the law and all that it calls make is longer than what came in: it says more and counts as full. Else prove '..UptoSaid'. A law counts once. -/
mutual
def uptoBulk {H : Type} : DataW H → Nat
  | .lit (.string bytes) => bytes.length + 1
  | .lit _ => 1
  | .nil => 1
  | .ptr d => uptoBulk d + 1
  | .slice elems spare => uptoBulkAll elems + uptoBulkAll spare + 1
  | .agg parts => uptoBulkAll parts + 1
  | .iface _ d => uptoBulk d + 1
  | .map entries => uptoBulkEntries entries + 1
  | .held _ => 1
def uptoBulkAll {H : Type} : List (DataW H) → Nat
  | [] => 0
  | d :: r => uptoBulk d + uptoBulkAll r
def uptoBulkEntries {H : Type} : List (Lit × DataW H) → Nat
  | [] => 0
  | x :: r => uptoBulkEntry x + uptoBulkEntries r
def uptoBulkEntry {H : Type} : Lit × DataW H → Nat
  | (.string bytes, d) => bytes.length + uptoBulk d + 1
  | (_, d) => uptoBulk d + 1
 end
def uptoSmall : (H : Type) → List (DataW H) → Bool := fun _ ds => decide (uptoBulkAll ds ≤ 1048576)
def OpenSpec.upto (s : _root_.Go.ChangeSpec) : _root_.Go.OpenSpec := { _root_.Go.OpenSpec.ofChange s with cond := some uptoSmall }

/-- 'glasshouselaw.LoopMail', WHERE WHAT IT READS IS OF BULK AT MOST 1048576: true; the input reads as it did. -/
def loopMailUptoRow : OpenClaim := { program := "ytcbcpomacdngmaagreat", sum := "b3acd2b8218b5bf7ec2c1638cfd6ff09250a4edd4c691adfce50bed8a072cd0f", func := "glasshouse/glasshouselaw.LoopMail", spec := "loopMail", inPlace := ["slices.overlaps[int]"], unfollowed := true, recurses := true, apart := false, narrowed := true }
def LoopMailUptoSaid : Prop := loopMailUptoRow.holds Tryz.pinned (OpenSpec.upto loopMailSpec)

/-- 'glasshouselaw.LoopKeeps', WHERE WHAT IT READS IS OF BULK AT MOST 1048576: true; the input reads as it did. -/
def loopKeepsUptoRow : OpenClaim := { program := "ytcbcpomacdngmaagreat", sum := "b3acd2b8218b5bf7ec2c1638cfd6ff09250a4edd4c691adfce50bed8a072cd0f", func := "glasshouse/glasshouselaw.LoopKeeps", spec := "loopKeeps", inPlace := ["slices.overlaps[int]"], unfollowed := true, recurses := true, apart := false, narrowed := true }
def LoopKeepsUptoSaid : Prop := loopKeepsUptoRow.holds Tryz.pinned (OpenSpec.upto loopKeepsSpec)

/-- 'glasshouselaw.LoopSecret', WHERE WHAT IT READS IS OF BULK AT MOST 1048576: true; the input reads as it did. -/
def loopSecretUptoRow : OpenClaim := { program := "ytcbcpomacdngmaagreat", sum := "b3acd2b8218b5bf7ec2c1638cfd6ff09250a4edd4c691adfce50bed8a072cd0f", func := "glasshouse/glasshouselaw.LoopSecret", spec := "loopSecret", inPlace := ["slices.overlaps[int]"], unfollowed := true, recurses := true, apart := false, narrowed := true }
def LoopSecretUptoSaid : Prop := loopSecretUptoRow.holds Tryz.pinned (OpenSpec.upto loopSecretSpec)

/-- 'glasshouselaw.LoopParts', WHERE WHAT IT READS IS OF BULK AT MOST 1048576: true; the input reads as it did. -/
def loopPartsUptoRow : OpenClaim := { program := "ytcbcpomacdngmaagreat", sum := "b3acd2b8218b5bf7ec2c1638cfd6ff09250a4edd4c691adfce50bed8a072cd0f", func := "glasshouse/glasshouselaw.LoopParts", spec := "loopParts", inPlace := ["slices.overlaps[int]"], unfollowed := true, recurses := true, apart := false, narrowed := true }
def LoopPartsUptoSaid : Prop := loopPartsUptoRow.holds Tryz.pinned (OpenSpec.upto loopPartsSpec)

/-- 'glasshouselaw.LoopGone', WHERE WHAT IT READS IS OF BULK AT MOST 1048576: true; the input reads as it did. -/
def loopGoneUptoRow : OpenClaim := { program := "ytcbcpomacdngmaagreat", sum := "b3acd2b8218b5bf7ec2c1638cfd6ff09250a4edd4c691adfce50bed8a072cd0f", func := "glasshouse/glasshouselaw.LoopGone", spec := "loopGone", inPlace := ["slices.overlaps[int]"], unfollowed := true, recurses := true, apart := false, narrowed := true }
def LoopGoneUptoSaid : Prop := loopGoneUptoRow.holds Tryz.pinned (OpenSpec.upto loopGoneSpec)

/-- 'glasshouselaw.LoopApart', WHERE WHAT IT READS IS OF BULK AT MOST 1048576: true; the input reads as it did. -/
def loopApartUptoRow : OpenClaim := { program := "ytcbcpomacdngmaagreat", sum := "b3acd2b8218b5bf7ec2c1638cfd6ff09250a4edd4c691adfce50bed8a072cd0f", func := "glasshouse/glasshouselaw.LoopApart", spec := "loopApart", inPlace := ["slices.overlaps[int]"], unfollowed := true, recurses := true, apart := false, narrowed := true }
def LoopApartUptoSaid : Prop := loopApartUptoRow.holds Tryz.pinned (OpenSpec.upto loopApartSpec)

end Rows
end Go.Proofs.YtcbcpomacdngmaaGreat
