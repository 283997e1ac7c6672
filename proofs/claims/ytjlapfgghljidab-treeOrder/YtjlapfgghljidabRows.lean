/-
  No cell of these rows narrows 'for every input' (looked for: loops, veiled, ifaces, maps, wideKeys, modest, calm, conditions, laid).
  DERIVED. THE GIVEN ROWS OF THIS SEAT. 6 by the template 'for every input the law returns true; each argument reads behind the call as it read before'; 0 by the template 'total and deterministic' (their statements: YtjlapfgghljidabTotals.lean).
  GIVEN WITH THE SEED: the statements are not yours to turn. If you find one false, say at which input.
  Laid BY PROGRAM, IN A SANDBOX (cutbox-rows.mjs): the forced cells as the released guide's own fill.sh prints them over the translation ca11e8950e103078… (all of the seat's roots in one cut). By AI agents, Wed Nov 11 2026. No macro, syntax, notation, axiom, sorry.
-/
import Derived.Test.YtjlapfgghljidabChecked
import GoSem.Claim
import GoSem.ClaimJoined
import GoSem.ClaimMapViews
import Derived.JoinedTies
import Derived.KernelRfl
namespace Go.Proofs.Ytjlapfgghljidab
/- THE CELL 'sum', in the pinned program and in every row, IS THE sha256 OF THE DUMP (.gsa) THAT YtjlapfgghljidabProg.lean LOADS. Nothing in Lean hashes anything: it is a label: what it is worth is what the hold of that sum in a sandbox is worth. -/
noncomputable def Try.pinned : Pinned := { name := "ytjlapfgghljidab", sum := "ca11e8950e103078792345c3d4325d7bb5cc049484f65451987fba56d84ff464", checked := Try.checked }
namespace Rows
def none {H : Type} : Left H := { results := [], args := [] }

/-- 'glasshouselaw.TreeOrder': WHATEVER THE INPUT: true; the input reads as it did. -/
def treeOrderSpec : ChangeSpec := { name := "treeOrder", fn := fun _ => fun
  | [d1, d2] => { results := [.lit (.bool true)], args := [d1, d2] }
  | _ => none }
def treeOrderRow : OpenClaim := { program := "ytjlapfgghljidab", sum := "ca11e8950e103078792345c3d4325d7bb5cc049484f65451987fba56d84ff464", func := "glasshouse/glasshouselaw.TreeOrder", spec := "treeOrder", inPlace := ["slices.overlaps[int]"], unfollowed := true, recurses := true, apart := false }
def TreeOrderSaid : Prop := treeOrderRow.holds Try.pinned (OpenSpec.ofChange treeOrderSpec)

/-- ITS FALSE NEIGHBOUR: 'it returns false'. Refute it at one input. -/
def treeOrderWrong : ChangeSpec := { name := "treeOrder", fn := fun _ => fun
  | [d1, d2] => { results := [.lit (.bool false)], args := [d1, d2] }
  | _ => none }
def TreeOrderWrongFalsely : Prop := treeOrderRow.holds Try.pinned (OpenSpec.ofChange treeOrderWrong)

/-- 'glasshouselaw.QuerySays': WHATEVER THE INPUT: true; the input reads as it did. -/
def querySaysSpec : ChangeSpec := { name := "querySays", fn := fun _ => fun
  | [d1, d2, d3] => { results := [.lit (.bool true)], args := [d1, d2, d3] }
  | _ => none }
def querySaysRow : OpenClaim := { program := "ytjlapfgghljidab", sum := "ca11e8950e103078792345c3d4325d7bb5cc049484f65451987fba56d84ff464", func := "glasshouse/glasshouselaw.QuerySays", spec := "querySays", inPlace := ["slices.overlaps[int]"], unfollowed := true, recurses := true, apart := false }
def QuerySaysSaid : Prop := querySaysRow.holds Try.pinned (OpenSpec.ofChange querySaysSpec)

/-- ITS FALSE NEIGHBOUR: 'it returns false'. Refute it at one input. -/
def querySaysWrong : ChangeSpec := { name := "querySays", fn := fun _ => fun
  | [d1, d2, d3] => { results := [.lit (.bool false)], args := [d1, d2, d3] }
  | _ => none }
def QuerySaysWrongFalsely : Prop := querySaysRow.holds Try.pinned (OpenSpec.ofChange querySaysWrong)

/-- 'glasshouselaw.QueryFinds': WHATEVER THE INPUT: true; the input reads as it did. -/
def queryFindsSpec : ChangeSpec := { name := "queryFinds", fn := fun _ => fun
  | [d1, d2, d3, d4] => { results := [.lit (.bool true)], args := [d1, d2, d3, d4] }
  | _ => none }
def queryFindsRow : OpenClaim := { program := "ytjlapfgghljidab", sum := "ca11e8950e103078792345c3d4325d7bb5cc049484f65451987fba56d84ff464", func := "glasshouse/glasshouselaw.QueryFinds", spec := "queryFinds", inPlace := ["slices.overlaps[int]"], unfollowed := true, recurses := true, apart := false }
def QueryFindsSaid : Prop := queryFindsRow.holds Try.pinned (OpenSpec.ofChange queryFindsSpec)

/-- ITS FALSE NEIGHBOUR: 'it returns false'. Refute it at one input. -/
def queryFindsWrong : ChangeSpec := { name := "queryFinds", fn := fun _ => fun
  | [d1, d2, d3, d4] => { results := [.lit (.bool false)], args := [d1, d2, d3, d4] }
  | _ => none }
def QueryFindsWrongFalsely : Prop := queryFindsRow.holds Try.pinned (OpenSpec.ofChange queryFindsWrong)

/-- 'glasshouselaw.ShadowSays': WHATEVER THE INPUT: true; the input reads as it did. -/
def shadowSaysSpec : ChangeSpec := { name := "shadowSays", fn := fun _ => fun
  | [d1, d2, d3, d4] => { results := [.lit (.bool true)], args := [d1, d2, d3, d4] }
  | _ => none }
def shadowSaysRow : OpenClaim := { program := "ytjlapfgghljidab", sum := "ca11e8950e103078792345c3d4325d7bb5cc049484f65451987fba56d84ff464", func := "glasshouse/glasshouselaw.ShadowSays", spec := "shadowSays", inPlace := ["slices.overlaps[int]"], unfollowed := true, recurses := true, apart := false }
def ShadowSaysSaid : Prop := shadowSaysRow.holds Try.pinned (OpenSpec.ofChange shadowSaysSpec)

/-- ITS FALSE NEIGHBOUR: 'it returns false'. Refute it at one input. -/
def shadowSaysWrong : ChangeSpec := { name := "shadowSays", fn := fun _ => fun
  | [d1, d2, d3, d4] => { results := [.lit (.bool false)], args := [d1, d2, d3, d4] }
  | _ => none }
def ShadowSaysWrongFalsely : Prop := shadowSaysRow.holds Try.pinned (OpenSpec.ofChange shadowSaysWrong)

/-- 'glasshouselaw.ShadowHides': WHATEVER THE INPUT: true; the input reads as it did. -/
def shadowHidesSpec : ChangeSpec := { name := "shadowHides", fn := fun _ => fun
  | [d1, d2, d3] => { results := [.lit (.bool true)], args := [d1, d2, d3] }
  | _ => none }
def shadowHidesRow : OpenClaim := { program := "ytjlapfgghljidab", sum := "ca11e8950e103078792345c3d4325d7bb5cc049484f65451987fba56d84ff464", func := "glasshouse/glasshouselaw.ShadowHides", spec := "shadowHides", inPlace := ["slices.overlaps[int]"], unfollowed := true, recurses := true, apart := false }
def ShadowHidesSaid : Prop := shadowHidesRow.holds Try.pinned (OpenSpec.ofChange shadowHidesSpec)

/-- ITS FALSE NEIGHBOUR: 'it returns false'. Refute it at one input. -/
def shadowHidesWrong : ChangeSpec := { name := "shadowHides", fn := fun _ => fun
  | [d1, d2, d3] => { results := [.lit (.bool false)], args := [d1, d2, d3] }
  | _ => none }
def ShadowHidesWrongFalsely : Prop := shadowHidesRow.holds Try.pinned (OpenSpec.ofChange shadowHidesWrong)

/-- 'glasshouselaw.ShadowOpen': WHATEVER THE INPUT: true; the input reads as it did. -/
def shadowOpenSpec : ChangeSpec := { name := "shadowOpen", fn := fun _ => fun
  | [d1, d2, d3, d4] => { results := [.lit (.bool true)], args := [d1, d2, d3, d4] }
  | _ => none }
def shadowOpenRow : OpenClaim := { program := "ytjlapfgghljidab", sum := "ca11e8950e103078792345c3d4325d7bb5cc049484f65451987fba56d84ff464", func := "glasshouse/glasshouselaw.ShadowOpen", spec := "shadowOpen", inPlace := ["slices.overlaps[int]"], unfollowed := true, recurses := true, apart := false }
def ShadowOpenSaid : Prop := shadowOpenRow.holds Try.pinned (OpenSpec.ofChange shadowOpenSpec)

/-- ITS FALSE NEIGHBOUR: 'it returns false'. Refute it at one input. -/
def shadowOpenWrong : ChangeSpec := { name := "shadowOpen", fn := fun _ => fun
  | [d1, d2, d3, d4] => { results := [.lit (.bool false)], args := [d1, d2, d3, d4] }
  | _ => none }
def ShadowOpenWrongFalsely : Prop := shadowOpenRow.holds Try.pinned (OpenSpec.ofChange shadowOpenWrong)

/- THE SECOND FORM. 'bulk': how many values and letters a reading holds, each counted each time it is reached (what is shared counts as often as it is met; a slice's spare places count too). A statement '..UptoSaid' is the law's where the arguments, and the package variables that the reading takes, are together of bulk at most 1048576: NARROWER than '..Said'. Prove '..Said' where nothing that the law and all that it calls make is longer than what came in: it says more and counts as full. Else prove '..UptoSaid'. A law counts once. -/
mutual
def uptoBulk {H : Type} : DataW H → Nat
  | .lit (.string bytes) => bytes.length + 1
  | .lit _ => 1
  | .nil => 1
  | .ptr d => uptoBulk d + 1
  | .slice elems spare => uptoBulkAll elems + uptoBulkAll spare + 1
  | .agg parts => uptoBulkAll parts + 1
  | .iface _ d => uptoBulk d + 1
  | .map entries => uptoBulkEntries entries + 1
  | .held _ => 1
def uptoBulkAll {H : Type} : List (DataW H) → Nat
  | [] => 0
  | d :: r => uptoBulk d + uptoBulkAll r
def uptoBulkEntries {H : Type} : List (Lit × DataW H) → Nat
  | [] => 0
  | x :: r => uptoBulkEntry x + uptoBulkEntries r
def uptoBulkEntry {H : Type} : Lit × DataW H → Nat
  | (.string bytes, d) => bytes.length + uptoBulk d + 1
  | (_, d) => uptoBulk d + 1
 end
def uptoSmall : (H : Type) → List (DataW H) → Bool := fun _ ds => decide (uptoBulkAll ds ≤ 1048576)
def OpenSpec.upto (s : _root_.Go.ChangeSpec) : _root_.Go.OpenSpec := { _root_.Go.OpenSpec.ofChange s with cond := some uptoSmall }

/-- 'glasshouselaw.TreeOrder', WHERE WHAT IT READS IS OF BULK AT MOST 1048576: true; the input reads as it did. -/
def treeOrderUptoRow : OpenClaim := { program := "ytjlapfgghljidab", sum := "ca11e8950e103078792345c3d4325d7bb5cc049484f65451987fba56d84ff464", func := "glasshouse/glasshouselaw.TreeOrder", spec := "treeOrder", inPlace := ["slices.overlaps[int]"], unfollowed := true, recurses := true, apart := false, narrowed := true }
def TreeOrderUptoSaid : Prop := treeOrderUptoRow.holds Try.pinned (OpenSpec.upto treeOrderSpec)

/-- 'glasshouselaw.QuerySays', WHERE WHAT IT READS IS OF BULK AT MOST 1048576: true; the input reads as it did. -/
def querySaysUptoRow : OpenClaim := { program := "ytjlapfgghljidab", sum := "ca11e8950e103078792345c3d4325d7bb5cc049484f65451987fba56d84ff464", func := "glasshouse/glasshouselaw.QuerySays", spec := "querySays", inPlace := ["slices.overlaps[int]"], unfollowed := true, recurses := true, apart := false, narrowed := true }
def QuerySaysUptoSaid : Prop := querySaysUptoRow.holds Try.pinned (OpenSpec.upto querySaysSpec)

/-- 'glasshouselaw.QueryFinds', WHERE WHAT IT READS IS OF BULK AT MOST 1048576: true; the input reads as it did. -/
def queryFindsUptoRow : OpenClaim := { program := "ytjlapfgghljidab", sum := "ca11e8950e103078792345c3d4325d7bb5cc049484f65451987fba56d84ff464", func := "glasshouse/glasshouselaw.QueryFinds", spec := "queryFinds", inPlace := ["slices.overlaps[int]"], unfollowed := true, recurses := true, apart := false, narrowed := true }
def QueryFindsUptoSaid : Prop := queryFindsUptoRow.holds Try.pinned (OpenSpec.upto queryFindsSpec)

/-- 'glasshouselaw.ShadowSays', WHERE WHAT IT READS IS OF BULK AT MOST 1048576: true; the input reads as it did. -/
def shadowSaysUptoRow : OpenClaim := { program := "ytjlapfgghljidab", sum := "ca11e8950e103078792345c3d4325d7bb5cc049484f65451987fba56d84ff464", func := "glasshouse/glasshouselaw.ShadowSays", spec := "shadowSays", inPlace := ["slices.overlaps[int]"], unfollowed := true, recurses := true, apart := false, narrowed := true }
def ShadowSaysUptoSaid : Prop := shadowSaysUptoRow.holds Try.pinned (OpenSpec.upto shadowSaysSpec)

/-- 'glasshouselaw.ShadowHides', WHERE WHAT IT READS IS OF BULK AT MOST 1048576: true; the input reads as it did. -/
def shadowHidesUptoRow : OpenClaim := { program := "ytjlapfgghljidab", sum := "ca11e8950e103078792345c3d4325d7bb5cc049484f65451987fba56d84ff464", func := "glasshouse/glasshouselaw.ShadowHides", spec := "shadowHides", inPlace := ["slices.overlaps[int]"], unfollowed := true, recurses := true, apart := false, narrowed := true }
def ShadowHidesUptoSaid : Prop := shadowHidesUptoRow.holds Try.pinned (OpenSpec.upto shadowHidesSpec)

/-- 'glasshouselaw.ShadowOpen', WHERE WHAT IT READS IS OF BULK AT MOST 1048576: true; the input reads as it did. -/
def shadowOpenUptoRow : OpenClaim := { program := "ytjlapfgghljidab", sum := "ca11e8950e103078792345c3d4325d7bb5cc049484f65451987fba56d84ff464", func := "glasshouse/glasshouselaw.ShadowOpen", spec := "shadowOpen", inPlace := ["slices.overlaps[int]"], unfollowed := true, recurses := true, apart := false, narrowed := true }
def ShadowOpenUptoSaid : Prop := shadowOpenUptoRow.holds Try.pinned (OpenSpec.upto shadowOpenSpec)

end Rows
end Go.Proofs.Ytjlapfgghljidab
