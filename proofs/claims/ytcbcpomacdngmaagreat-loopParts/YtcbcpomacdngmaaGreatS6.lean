/-
  x
-/
import Derived.Test.YtcbcpomacdngmaaGreatS5
import Derived.Laws.AppendOwnNone
import Derived.Deep.RegionHeld3
namespace Go.Proofs.YtcbcpomacdngmaaGreat
set_option maxRecDepth 100000
set_option maxHeartbeats 4000000
set_option linter.unusedVariables false
open Go.RowKit
theorem zhk{P:Program}{w:World}{ops:Array Oper}{rest:List Oper}{o:Oper}{a:Act}{Q:Exit->Act->World->Prop}(F:o.guard=none)(s x:Operand)(t:TypeId)
  (O:o.op=.call { callee:=.builtin .append,args:=#[s,x],argTypes:=#[t,t] })
  (base:Nat) (e:TypeId) (i:TypeInfo) (size:Nat) (J:P.underlying t=some (.slice e)) (hi:P.info? e=some i)
  (v:Value) (n c:Nat) (U:List Value) (hs:a.eval s=v) (D:w.ownsRow base e size v n U) (T:a.eval x=.slice none 0 c)
  (h:wpList P ops Q rest (a.put o.dst v) w):wpList P ops Q (o :: rest) a w:=by
 refine wpList_plain F fun K hK=>?_
 have E:(Builtin.append_ #[t,t] o.type #[v,.slice none 0 c]).run P w=.ok v w:=by
  rcases D.2 with ⟨rfl,rfl⟩ |⟨g,cap,M,rfl,_,_,I,_⟩
  ·simp[Builtin.append_,run_underlying J,sizeOf,typeInfo,hi,Builtin.lenOf,Builtin.firstCells]
  ·simp[Builtin.append_,run_underlying J,sizeOf,typeInfo,hi,Builtin.lenOf,Builtin.firstCells,I,storeCells]
 unfold Oper.wp;simp[execOp,O,resolve,invoke,builtin,hs,T,E,Result.andThen];exact hK _ _ h
theorem grownBy_refl(w:World)(r:Option Nat):w.grownBy w r:=⟨rfl,rfl,rfl,yj _,fun _ _ _=>rfl⟩
theorem zkl{α β:Type}{l:List α}{f g:α->List β}(h:∀ x ∈ l,f x=g x):l.flatMap f=l.flatMap g:=by
 induction l with
 | nil=>rfl
 | cons y l E=>simp only[List.flatMap_cons];rw[h y (by simp),E (fun x D=>h x (by simp[D]))]
end Go.Proofs.YtcbcpomacdngmaaGreat
