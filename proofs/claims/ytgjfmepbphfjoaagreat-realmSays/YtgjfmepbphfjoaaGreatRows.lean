/-
  No cell of these rows narrows 'for every input' (looked for: loops, veiled, ifaces, maps, wideKeys, modest, calm, conditions, laid).
  DERIVED. THE GIVEN ROWS OF THIS SEAT. 3 by the template 'for every input the law returns true; each argument reads behind the call as it read before'; 0 by the template 'total and deterministic' (their statements: YtgjfmepbphfjoaaGreatTotals.lean).
  GIVEN WITH THE SEED: the statements are not yours to turn. If you find one false, say at which input.
  Laid BY PROGRAM, IN A SANDBOX (cutbox-rows.mjs): the forced cells as the released guide's own fill.sh prints them over the translation 3ad2d346b2093d5a… (all of the seat's roots in one cut). By AI agents, Wed Nov 11 2026. No macro, syntax, notation, axiom, sorry.
-/
import Derived.Test.YtgjfmepbphfjoaaGreatChecked
import GoSem.Claim
import GoSem.ClaimJoined
import GoSem.ClaimMapViews
import Derived.JoinedTies
import Derived.KernelRfl
namespace Go.Proofs.YtgjfmepbphfjoaaGreat
/- THE CELL 'sum', in the pinned program and in every row, IS THE sha256 OF THE DUMP (.gsa) THAT YtgjfmepbphfjoaaGreatProg.lean LOADS. Nothing in Lean hashes anything: it is a label: what it is worth is what the hold of that sum in a sandbox is worth. -/
noncomputable def Tryz.pinned : Pinned := { name := "ytgjfmepbphfjoaagreat", sum := "3ad2d346b2093d5ace3369b5cf92fc0f8de7abac9452ecb8fedb31385c6f51bd", checked := Tryz.checked }
namespace Rows
def none {H : Type} : Left H := { results := [], args := [] }

/-- 'glasshouselaw.RealmNone': WHATEVER THE INPUT: true; the input reads as it did. -/
def realmNoneSpec : ChangeSpec := { name := "realmNone", fn := fun _ => fun
  | [d1, d2, d3] => { results := [.lit (.bool true)], args := [d1, d2, d3] }
  | _ => none }
def realmNoneRow : OpenClaim := { program := "ytgjfmepbphfjoaagreat", sum := "3ad2d346b2093d5ace3369b5cf92fc0f8de7abac9452ecb8fedb31385c6f51bd", func := "glasshouse/glasshouselaw.RealmNone", spec := "realmNone", inPlace := ["slices.overlaps[int]"], unfollowed := true, recurses := true, apart := false }
def RealmNoneSaid : Prop := realmNoneRow.holds Tryz.pinned (OpenSpec.ofChange realmNoneSpec)

/-- ITS FALSE NEIGHBOUR: 'it returns false'. Refute it at one input. -/
def realmNoneWrong : ChangeSpec := { name := "realmNone", fn := fun _ => fun
  | [d1, d2, d3] => { results := [.lit (.bool false)], args := [d1, d2, d3] }
  | _ => none }
def RealmNoneWrongFalsely : Prop := realmNoneRow.holds Tryz.pinned (OpenSpec.ofChange realmNoneWrong)

/-- 'glasshouselaw.RealmSays': WHATEVER THE INPUT: true; the input reads as it did. -/
def realmSaysSpec : ChangeSpec := { name := "realmSays", fn := fun _ => fun
  | [d1, d2, d3, d4] => { results := [.lit (.bool true)], args := [d1, d2, d3, d4] }
  | _ => none }
def realmSaysRow : OpenClaim := { program := "ytgjfmepbphfjoaagreat", sum := "3ad2d346b2093d5ace3369b5cf92fc0f8de7abac9452ecb8fedb31385c6f51bd", func := "glasshouse/glasshouselaw.RealmSays", spec := "realmSays", inPlace := ["slices.overlaps[int]"], unfollowed := true, recurses := true, apart := false }
def RealmSaysSaid : Prop := realmSaysRow.holds Tryz.pinned (OpenSpec.ofChange realmSaysSpec)

/-- ITS FALSE NEIGHBOUR: 'it returns false'. Refute it at one input. -/
def realmSaysWrong : ChangeSpec := { name := "realmSays", fn := fun _ => fun
  | [d1, d2, d3, d4] => { results := [.lit (.bool false)], args := [d1, d2, d3, d4] }
  | _ => none }
def RealmSaysWrongFalsely : Prop := realmSaysRow.holds Tryz.pinned (OpenSpec.ofChange realmSaysWrong)

/-- 'glasshouselaw.RealmKeeps': WHATEVER THE INPUT: true; the input reads as it did. -/
def realmKeepsSpec : ChangeSpec := { name := "realmKeeps", fn := fun _ => fun
  | [d1, d2] => { results := [.lit (.bool true)], args := [d1, d2] }
  | _ => none }
def realmKeepsRow : OpenClaim := { program := "ytgjfmepbphfjoaagreat", sum := "3ad2d346b2093d5ace3369b5cf92fc0f8de7abac9452ecb8fedb31385c6f51bd", func := "glasshouse/glasshouselaw.RealmKeeps", spec := "realmKeeps", inPlace := ["slices.overlaps[int]"], unfollowed := true, recurses := true, apart := false }
def RealmKeepsSaid : Prop := realmKeepsRow.holds Tryz.pinned (OpenSpec.ofChange realmKeepsSpec)

/-- ITS FALSE NEIGHBOUR: 'it returns false'. Refute it at one input. -/
def realmKeepsWrong : ChangeSpec := { name := "realmKeeps", fn := fun _ => fun
  | [d1, d2] => { results := [.lit (.bool false)], args := [d1, d2] }
  | _ => none }
def RealmKeepsWrongFalsely : Prop := realmKeepsRow.holds Tryz.pinned (OpenSpec.ofChange realmKeepsWrong)

/- THE SECOND FORM. 'bulk': how many values and letters a reading holds, each counted each time it is reached (what is shared counts as often as it is met; a slice's spare places count too). A statement '..UptoSaid' is the law's where the arguments, and the package variables that the reading takes, are together of bulk at most 1048576: NARROWER than '..Said'. Prove '..Said' where nothing that the law and all that it calls make is longer than what came in: it says more and counts as full. Else prove '..UptoSaid'. A law counts once. -/
mutual
def uptoBulk {H : Type} : DataW H → Nat
  | .lit (.string bytes) => bytes.length + 1
  | .lit _ => 1
  | .nil => 1
  | .ptr d => uptoBulk d + 1
  | .slice elems spare => uptoBulkAll elems + uptoBulkAll spare + 1
  | .agg parts => uptoBulkAll parts + 1
  | .iface _ d => uptoBulk d + 1
  | .map entries => uptoBulkEntries entries + 1
  | .held _ => 1
def uptoBulkAll {H : Type} : List (DataW H) → Nat
  | [] => 0
  | d :: r => uptoBulk d + uptoBulkAll r
def uptoBulkEntries {H : Type} : List (Lit × DataW H) → Nat
  | [] => 0
  | x :: r => uptoBulkEntry x + uptoBulkEntries r
def uptoBulkEntry {H : Type} : Lit × DataW H → Nat
  | (.string bytes, d) => bytes.length + uptoBulk d + 1
  | (_, d) => uptoBulk d + 1
 end
def uptoSmall : (H : Type) → List (DataW H) → Bool := fun _ ds => decide (uptoBulkAll ds ≤ 1048576)
def OpenSpec.upto (s : _root_.Go.ChangeSpec) : _root_.Go.OpenSpec := { _root_.Go.OpenSpec.ofChange s with cond := some uptoSmall }

/-- 'glasshouselaw.RealmNone', WHERE WHAT IT READS IS OF BULK AT MOST 1048576: true; the input reads as it did. -/
def realmNoneUptoRow : OpenClaim := { program := "ytgjfmepbphfjoaagreat", sum := "3ad2d346b2093d5ace3369b5cf92fc0f8de7abac9452ecb8fedb31385c6f51bd", func := "glasshouse/glasshouselaw.RealmNone", spec := "realmNone", inPlace := ["slices.overlaps[int]"], unfollowed := true, recurses := true, apart := false, narrowed := true }
def RealmNoneUptoSaid : Prop := realmNoneUptoRow.holds Tryz.pinned (OpenSpec.upto realmNoneSpec)

/-- 'glasshouselaw.RealmSays', WHERE WHAT IT READS IS OF BULK AT MOST 1048576: true; the input reads as it did. -/
def realmSaysUptoRow : OpenClaim := { program := "ytgjfmepbphfjoaagreat", sum := "3ad2d346b2093d5ace3369b5cf92fc0f8de7abac9452ecb8fedb31385c6f51bd", func := "glasshouse/glasshouselaw.RealmSays", spec := "realmSays", inPlace := ["slices.overlaps[int]"], unfollowed := true, recurses := true, apart := false, narrowed := true }
def RealmSaysUptoSaid : Prop := realmSaysUptoRow.holds Tryz.pinned (OpenSpec.upto realmSaysSpec)

/-- 'glasshouselaw.RealmKeeps', WHERE WHAT IT READS IS OF BULK AT MOST 1048576: true; the input reads as it did. -/
def realmKeepsUptoRow : OpenClaim := { program := "ytgjfmepbphfjoaagreat", sum := "3ad2d346b2093d5ace3369b5cf92fc0f8de7abac9452ecb8fedb31385c6f51bd", func := "glasshouse/glasshouselaw.RealmKeeps", spec := "realmKeeps", inPlace := ["slices.overlaps[int]"], unfollowed := true, recurses := true, apart := false, narrowed := true }
def RealmKeepsUptoSaid : Prop := realmKeepsUptoRow.holds Tryz.pinned (OpenSpec.upto realmKeepsSpec)

end Rows
end Go.Proofs.YtgjfmepbphfjoaaGreat
