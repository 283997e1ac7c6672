/-
  x
-/
import Derived.Below
import Derived.Deep.Draws
import Derived.Deep.LoopGhost
import Derived.Deep.OwnRows
import Derived.Laws.CopyOwn
import Derived.ProofKit
import Derived.Shelf.Abstract
import Derived.Test.YtcbcpomacdngmaaGreatProg
import Derived.WalkKit
namespace Go.Proofs.YtcbcpomacdngmaaGreat
open Go.RowKit
theorem yd.{u} {c : Prop} {h : Decidable c} (hnc : ¬c) {α : Sort u} {t e : α} : (ite c t e) = e := if_neg hnc
theorem ye.{u} {c : Prop} {h : Decidable c} (hc : c) {α : Sort u} {t e : α} : (ite c t e) = t := if_pos hc
theorem yi:type_of% @World.block_lt_of_cell?:=@World.block_lt_of_cell?
theorem yj:type_of% @Calls.mono:=@Calls.mono
theorem yk:type_of% @Int.toNat_natCast:=@Int.toNat_natCast
theorem yr:type_of% @Nat.le_refl:=@Nat.le_refl
theorem yv:type_of% @Below.refl:=@Below.refl
theorem yw:type_of% @World.size_alloc:=@World.size_alloc
theorem yx:type_of% @Below.heap_setCell:=@Below.heap_setCell
theorem yz:type_of% @bodyPost_ret:=@bodyPost_ret
theorem yB:type_of% @Nat.not_lt_zero:=@Nat.not_lt_zero
theorem yC:type_of% @Nat.lt_of_lt_of_le:=@Nat.lt_of_lt_of_le
theorem yD:type_of% @Nat.zero_add:=@Nat.zero_add
theorem yE:type_of% @World.cell?_of_block:=@World.cell?_of_block
theorem yF:type_of% @World.frozen?_of_block:=@World.frozen?_of_block
theorem yG:type_of% @World.rowIs.congr:=@World.rowIs.congr
theorem yH:type_of% @decide_eq_false:=@decide_eq_false
theorem yI:type_of% @decide_eq_true:=@decide_eq_true
theorem yJ:type_of% @Nat.le_trans:=@Nat.le_trans
theorem yK:type_of% @IntKind.wrap_i64:=@IntKind.wrap_i64
theorem yL:type_of% @not_not_intro:=@not_not_intro
theorem yM:type_of% @enters_of:=@enters_of
theorem yN:type_of% @heap_alloc_new:=@heap_alloc_new
abbrev yO:=@Calls Tryz.prog
abbrev OA:=Option Addr
abbrev Wd:=World
abbrev Bl(w v:World):Prop:=Below w.heap.size w v
theorem oaa{p:Prop}(h:p:=by omega):p:=h
theorem oab{p:Prop}(h:p:=by simp;omega):p:=h
theorem oac{p:Prop}(h:p:=by simp):p:=h
theorem oad{p:Prop}(h:p:=by kernel_rfl):p:=h
theorem oae{p:Prop}(h:p:=by decide):p:=h
theorem oaf{p:Prop}(h:p:=by go_simp):p:=h
theorem oag{p:Prop}(h:p:=by first|(simp;done)|(simp;omega)):p:=h
theorem oah{p:Prop}(h:p:=by cases h):p:=h
theorem oai{p:Prop}(h:p:=by unfold maxLen;omega):p:=h
end Go.Proofs.YtcbcpomacdngmaaGreat
