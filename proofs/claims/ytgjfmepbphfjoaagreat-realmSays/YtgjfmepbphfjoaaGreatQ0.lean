/-
  x
-/
import Derived.Below
import Derived.Deep.Draws
import Derived.Deep.LoopGhost
import Derived.Deep.OwnRows
import Derived.Laws.CopyOwn
import Derived.ProofKit
import Derived.Shelf.Abstract
import Derived.Test.YtgjfmepbphfjoaaGreatProg
import Derived.WalkKit
namespace Go.Proofs.YtgjfmepbphfjoaaGreat
open Go.RowKit
theorem ya.{u} {c : Prop} {h : Decidable c} (hnc : ¬c) {α : Sort u} {t e : α} : (ite c t e) = e := if_neg hnc
theorem yd.{u} {c : Prop} {h : Decidable c} (hc : c) {α : Sort u} {t e : α} : (ite c t e) = t := if_pos hc
theorem ye:type_of% @World.block_lt_of_cell?:=@World.block_lt_of_cell?
theorem yf:type_of% @Calls.mono:=@Calls.mono
theorem yg:type_of% @Int.toNat_natCast:=@Int.toNat_natCast
theorem yi:type_of% @Nat.le_refl:=@Nat.le_refl
theorem yj:type_of% @Below.refl:=@Below.refl
theorem yk:type_of% @World.size_alloc:=@World.size_alloc
theorem yo:type_of% @Below.heap_setCell:=@Below.heap_setCell
theorem yq:type_of% @bodyPost_ret:=@bodyPost_ret
theorem yr:type_of% @Nat.not_lt_zero:=@Nat.not_lt_zero
theorem ys:type_of% @Nat.lt_of_lt_of_le:=@Nat.lt_of_lt_of_le
theorem yv:type_of% @Nat.zero_add:=@Nat.zero_add
theorem yw:type_of% @World.cell?_of_block:=@World.cell?_of_block
theorem yx:type_of% @Nat.le_trans:=@Nat.le_trans
end Go.Proofs.YtgjfmepbphfjoaaGreat
