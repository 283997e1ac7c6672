/-
  x
-/
import Derived.Below
import Derived.Deep.Draws
import Derived.Deep.LoopGhost
import Derived.Deep.OwnRows
import Derived.Laws.CopyOwn
import Derived.ProofKit
import Derived.Shelf.Abstract
import Derived.Test.YtcbcpomacdngmaaGreatProg
import Derived.WalkKit
namespace Go.Proofs.YtcbcpomacdngmaaGreat
open Go.RowKit
theorem ya.{u} {c : Prop} {h : Decidable c} (hnc : ¬c) {α : Sort u} {t e : α} : (ite c t e) = e := if_neg hnc
theorem yb.{u} {c : Prop} {h : Decidable c} (hc : c) {α : Sort u} {t e : α} : (ite c t e) = t := if_pos hc
def yd:=@World.block_lt_of_cell?
def ye:=@Calls.mono
def yi:=@Int.toNat_natCast
def yj:=@Nat.le_refl
def yk:=@Below.refl
def yr:=@World.size_alloc
def ys:=@Below.heap_setCell
def yv:=@bodyPost_ret
def yw:=@Nat.not_lt_zero
def yx:=@Nat.lt_of_lt_of_le
def yz:=@Nat.zero_add
def yB:=@World.cell?_of_block
def yC:=@World.frozen?_of_block
def yD:=@World.rowIs.congr
def yE:=@Nat.le_trans
end Go.Proofs.YtcbcpomacdngmaaGreat
