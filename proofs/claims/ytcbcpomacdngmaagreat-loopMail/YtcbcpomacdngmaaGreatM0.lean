/-
  x
-/
import Derived.Below
import Derived.Deep.Draws
import Derived.Deep.LoopGhost
import Derived.Deep.OwnRows
import Derived.Laws.CopyOwn
import Derived.ProofKit
import Derived.Shelf.Abstract
import Derived.Test.YtcbcpomacdngmaaGreatProg
import Derived.WalkKit
namespace Go.Proofs.YtcbcpomacdngmaaGreat
open Go.RowKit
theorem ya.{u} {c : Prop} {h : Decidable c} (hnc : ¬c) {α : Sort u} {t e : α} : (ite c t e) = e := if_neg hnc
theorem yb.{u} {c : Prop} {h : Decidable c} (hc : c) {α : Sort u} {t e : α} : (ite c t e) = t := if_pos hc
theorem yd:type_of% @World.block_lt_of_cell?:=@World.block_lt_of_cell?
theorem ye:type_of% @Calls.mono:=@Calls.mono
theorem yi:type_of% @Int.toNat_natCast:=@Int.toNat_natCast
theorem yj:type_of% @Nat.le_refl:=@Nat.le_refl
theorem yk:type_of% @Below.refl:=@Below.refl
theorem yr:type_of% @World.size_alloc:=@World.size_alloc
theorem ys:type_of% @Below.heap_setCell:=@Below.heap_setCell
theorem yv:type_of% @bodyPost_ret:=@bodyPost_ret
theorem yw:type_of% @Nat.not_lt_zero:=@Nat.not_lt_zero
theorem yx:type_of% @Nat.lt_of_lt_of_le:=@Nat.lt_of_lt_of_le
theorem yz:type_of% @Nat.zero_add:=@Nat.zero_add
theorem yB:type_of% @World.cell?_of_block:=@World.cell?_of_block
theorem yC:type_of% @World.frozen?_of_block:=@World.frozen?_of_block
theorem yD:type_of% @World.rowIs.congr:=@World.rowIs.congr
theorem yE:type_of% @decide_eq_false:=@decide_eq_false
theorem yF:type_of% @decide_eq_true:=@decide_eq_true
theorem yG:type_of% @Nat.le_trans:=@Nat.le_trans
theorem yH:type_of% @IntKind.wrap_i64:=@IntKind.wrap_i64
theorem yI:type_of% @not_not_intro:=@not_not_intro
theorem yJ:type_of% @enters_of:=@enters_of
theorem yK:type_of% @heap_alloc_new:=@heap_alloc_new
abbrev yL:=@Calls Tryz.prog
end Go.Proofs.YtcbcpomacdngmaaGreat
