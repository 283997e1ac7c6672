/-
  x
-/
import Derived.Test.YtcbcpomacdngmaaGreatA16
import Derived.Maps.OwnSet
import Derived.Maps.OwnOps
import Derived.Maps.Views
import Derived.Maps.AppendAt
namespace Go.Proofs.YtcbcpomacdngmaaGreat
set_option maxRecDepth 100000
set_option maxHeartbeats 4000000
set_option linter.unusedVariables false
open Go.ChangeShapes Go.WideShapes Go.RowKit Tryz
variable{w:Wd}{L:List Fr}{b n g N:Nat}{f t x k:Int}{X:Nat->Prop}{w':World}{key:Value}{T:List Int}
def UB(v:Value):Option (DataW Value × List MemPlace):=some (.held v,[])
def dU(P:Program)(E:TypeId)(w:Wd)(b n:Nat)(f:Lit->Option Value):Prop :=
 ∃ D:DataW Value,w.ownsMap P E UB b n D/\Maps.IsMap D/\∀ kl,WideAt.IsKeyLit kl->Maps.has D kl=(f kl).isSome/\∀ v,f kl=some v->∀ z,D.atKey kl z=.held v
theorem dU.made(P:Program)(D:TypeId)(w:Wd):dU P D (w.alloc (.map #[] 0)) w.heap.size 0 (fun _=>none) :=
 ⟨.map [],World.ownsMap_made w _ _ _,Maps.isMap_empty,fun _ _=>⟨rfl,fun _ h=>by cases h⟩⟩
theorem dU.lt{P:Program}{D:TypeId}{f:Lit->Option Value}(h:dU P D w b n f):b<w.heap.size:=let ⟨_,h1,_⟩:=h;h1.lt
theorem dU.kept{P:Program}{E:TypeId}{w:World}{f:Lit->Option Value}(h:dU P E w b n f)(e:w'.heap[b]?=w.heap[b]?):dU P E w' b n f:=by
 obtain⟨D,⟨I,clock,hb,F,hs,M⟩,J⟩:=h;exact⟨D,⟨I,clock,e.trans hb,F,hs,M⟩,J⟩
theorem dU.mono{P:Program}{E:TypeId}{F:Nat}{f:Lit->Option Value}(h:dU P E w b n f)(hn:n<=F):dU P E w b F f:=let ⟨D,h1,h2⟩:=h;⟨D,h1.mono hn,h2⟩
theorem dU.ne{P:Program}{I:TypeId}{E t:Nat}{f:Lit->Option Value}{J:Array Value}{z:Nat × Nat}(h:dU P I w b n f)(e:w.heap[E]?=some (.cells J t z)):E≠b:=by
 obtain⟨D,⟨M,clock,hb,_⟩,_⟩:=h;intro F;subst F;rw[e] at hb;cases hb
theorem dU.congr{P:Program}{F:TypeId}{f g:Lit->Option Value}(h:dU P F w b n f)(e:∀ kl,WideAt.IsKeyLit kl->f kl=g kl):dU P F w b n g:=by
 obtain⟨D,h1,I,J⟩:=h;exact⟨D,h1,I,fun kl E=>by rw[<- e kl E];exact J kl E⟩
theorem dU.look_ok{P:Program}{J:TypeId}{f:Lit->Option Value}(h:dU P J w b n f)(K:Maps.Keyed P J){t e:TypeId}(U:P.underlying t=some (.map J e)){z:Value}(Z:(zeroValue e).run P w=.ok z w)
   {kl:Lit} (F:keyOf P J key=some kl) (T:WideAt.IsKeyLit kl) :
  (Instr.lookup t (.map (some b)) key true).run P w=.ok (.tuple #[(f kl).getD z,.bool (f kl).isSome]) w:=by
 obtain⟨D,h1,_,O⟩:=h;obtain⟨v,ps,I,hv⟩:=h1.look_ok K U Z (zd:=.held z) (zp:=[]) rfl F;rw[I];obtain⟨M,h5⟩:=O kl T;have E:DataW.held v=D.atKey kl (.held z):=by unfold UB at hv;simp at hv;exact hv.1
 rw[M]
 cases hf:f kl with
 | none =>
  rw[hf] at M;rw[Maps.atKey_of_not_has M] at E;cases E;rfl
 | some y =>
  rw[h5 y hf] at E;cases E;rfl
theorem dU.put{P:Program}{J:TypeId}{f:Lit->Option Value}(h:dU P J w b n f)(K:Maps.Keyed P J){t e:TypeId}(ht:P.underlying t=some (.map J e))(hn:n<maxLen)
   {kl:Lit} (F:keyOf P J key=some kl) (hk:WideAt.IsKeyLit kl) (v:Value) :
  ∃ w',(Instr.mapUpdate t (.map (some b)) key v).run P w=.ok () w' /\(∀ g:Lit->Option Value,g kl=some v->(∀ j,j≠kl->g j=f j)->dU P J w' b (n+1) g)/\w.grownBy w' (some b):=by
 obtain⟨D,h1,O,Z⟩:=h;obtain⟨w', I,h4,h5⟩:=h1.update K ht hn F (val:=v) (d:=.held v) (ps:=[]) rfl;refine⟨w', I,fun g T U=>⟨_,h4,O.put _ _,fun j M=>?_⟩,h5⟩;by_cases e:j=kl
 ·subst e;rw[T];exact⟨Maps.has_put_same O M _,fun v' E z=>by cases E;exact Maps.atKey_put_same O M _ _⟩
 ·rw[U j e,Maps.has_put_other e];exact⟨(Z j M).1,fun v' E z=>by rw[Maps.atKey_put_other e];exact(Z j M).2 v' E z⟩
theorem CX:(prog.info? 3).map (fun i=>(i.zero,i.size,i.bytes))=some (some (.int .i64 0),1,8):=by kernel_rfl
theorem Iu(w:Wd):(zeroValue 3).run prog w=.ok (.int .i64 0) w:=by kernel_rfl
def lk(T:List Int):Lit->Option Value
 | .int .i64 k=>if k ∈ T then some (.int .i64 (at1 T k)) else none
 | _=>none
theorem JW(T:List Int)(k:Int):lk T (.int .i64 k)=if k ∈ T then some (.int .i64 (at1 T k)) else none:=rfl
theorem Iw(h:k ∉ T):lk (T++[k]) (.int .i64 k)=some (.int .i64 (T.length:Int)):=by
 rw[JW,ye (by simp),TH h]
theorem Iy(j:Lit)(h:j≠.int .i64 k):lk (T++[k]) j=lk T j:=by
 unfold lk;split
 ·rename_i x;have E:x≠k:=fun e=>h (by rw[e]);by_cases D:x ∈ T
  ·rw[ye (by simp[D]),ye D,JK D]
  ·rw[yd (by simp[D,E]),yd D]
 ·rfl
structure eY (w:Wd) (B bm bt mb n:Nat) (v:Value) (T:List Int):Prop where
 bmE:w.heap[bm]?=some (.cells #[.map (some mb)] 220 (0,0))
 btE:w.heap[bt]?=some (.cells #[v] 48 (0,0))
 mp:dU prog 3 w mb n (lk T)
 own:w.ownsRow B 3 1 v T.length (T.map (Value.int .i64))
def jO(D E:Nat)(v:Value):Nat->Prop:=fun j=>j=D\/j=E\/v.ownBlock=some j
structure dV (X:Nat->Prop) (w w' : World):Prop where
 os:w'.os=w.os
 tape:w'.tape=w.tape
 output:w'.output=w.output
 size:w.heap.size<=w'.heap.size
 block:∀ k,k<w.heap.size->¬ X k->w'.heap[k]?=w.heap[k]?
theorem dV.refl(X:Nat->Prop)(w:Wd):dV X w w:=⟨rfl,rfl,rfl,yr _,fun _ _ _=>rfl⟩
theorem dV.of_below{w:World}(h:Bl w w'):dV X w w' :=⟨h.os,h.tape,h.output,h.size,fun k D _=>h.block k D⟩
theorem dV.below{w:World}(h:dV X w w'){B:Nat}(F:B<=w.heap.size)(D:∀ k,X k->B<=k):Below B w w' :=
 ⟨h.os,h.tape,h.output,h.size,fun k I=>h.block k (by omega) (fun E=>by have:=D k E;omega)⟩
theorem dV.trans{Y:Nat->Prop}{a b c:Wd}(h:dV X a b)(k:dV Y b c)(D:∀ j,j<a.heap.size->Y j->X j):dV X a c :=
 ⟨k.os.trans h.os,k.tape.trans h.tape,k.output.trans h.output,yJ h.size k.size,fun i hi E=>(k.block i (yC hi h.size) (fun F=>E (D i hi F))).trans (h.block i hi E)⟩
def Later(w:Wd)(v D:Value):Prop:=D.ownBlock=v.ownBlock\/∃ j,D.ownBlock=some j/\w.heap.size<=j
theorem UC(h:(Lit.int .i64 k).wf=true):keyOf prog 3 (.int .i64 k)=some (.int .i64 k):=Maps.keyOf_int_mk underlying3 h
theorem CY(w:Wd)(D o:Nat)(v:Value)(E:X D):dV X w (w.setCell ⟨D,o,none⟩ v):=⟨rfl,rfl,rfl,by simp[World.setCell],fun k _ F=>yx _ _ _ _ (fun e=>F (by rw[e];exact E))⟩
theorem UD{w:World}{r:Option Nat}(h:w.grownBy w' r)(D:∀ j,r=some j->X j):dV X w w' :=⟨h.os,h.tape,h.output,h.size,fun k E F=>h.block k E (fun e=>F (D k e.symm))⟩
theorem UE(B M D F n:Nat)(v:Value)(T:List Int)(k:Int)(w:Wd)(h:eY w B M D F n v T)(hk:(Lit.int .i64 k).wf=true)(hn:n<100000)(hT:T.length<100000)(hB:B<=w.heap.size) :
  yO 180 #[.int .i64 k,.pointer (some ⟨M,0,none⟩),.pointer (some ⟨D,0,none⟩)] w fun e w' => ∃ v', e=.returned (.int .i64 (at1 (bring T k) k))/\eY w' B M D F (n+1) v' (bring T k)/\Later w v v' /\ dV (jO D F v) w w' := by
 obtain⟨i0,b7,b9,c6,c7⟩:=info_parts CX;have c1:=cZ h.bmE;have c2:=cZ h.btE;obtain⟨pa,pc,hv,_⟩:=tO h.own;have I:=h.mp.look_ok (Maps.int_keyed underlying3) (t:=220) underlying220 (Iu w) (UC hk) trivial;by_cases hm:k ∈ T
 ·have e1:lk T (.int .i64 k)=some (.int .i64 (at1 T k)):=by rw[JW,ye hm]
  have e2:bring T k=T:=by unfold bring;rw[ye hm]
  rw[e1] at I;dsimp only[Option.getD,Option.isSome] at I;rw[e2];have a5:Hid (eY w B M D F (n+1) v T):=⟨h.bmE,h.btE,h.mp.mono (by omega),h.own⟩;clear h e1 e2;generalize at1 T k=A at *
  go_enter func180,ntmps180
  go_wp2_with fail
  go_ret;exact⟨v,rfl,a5.o,Or.inl rfl,dV.refl _ _⟩
 ·have e1:lk T (.int .i64 k)=none:=by rw[JW,yd hm]
  have e2:bring T k=T++[k]:=by unfold bring;rw[yd hm]
  rw[e1] at I;dsimp only[Option.getD,Option.isSome] at I;rw[e2,TH hm];have a7:=h.mp.ne h.bmE;have a8:=h.mp.ne h.btE;obtain⟨w1,b0,b3,O⟩:=h.mp.put (Maps.int_keyed underlying3) (t:=220) underlying220 (by unfold maxLen;omega) (UC hk) trivial (.int .i64 (T.length:Int));have b5:Hid (dU prog 3 w1 F (n+1) (lk (T++[k]))):=b3 _ (Iw hm) (fun j U=>Iy j U);have x1:w1.heap[M]?=some (.cells #[.map (some F)] 220 (0,0)):=(O.block M (aR h.bmE) (by intro e;exact a7 (Option.some.inj e))).trans h.bmE;have x2:w1.heap[D]?=some (.cells #[v] 48 (0,0)):=(O.block D (aR h.btE) (by intro e;exact a8 (Option.some.inj e))).trans h.btE
  have Z:∀ j,v.ownBlock=some j->j≠F/\j≠D/\j≠M:=fun j U=>by
   obtain⟨_,ho⟩:=h.own;rcases ho with ⟨rfl,_⟩ |⟨g,cap,c8,rfl,_,h2,_⟩
   ·cases U
   ·cases U;refine⟨h.mp.ne h2,?_,?_⟩
    ·intro e;have e:g=D:=e;rw[e,h.btE] at h2;cases h2
    ·intro e;have e:g=M:=e;rw[e,h.bmE] at h2;cases h2
  have OW:Hid (∀ o1,(w1.alloc o1).ownsRow B 3 1 v T.length (T.map (Value.int .i64))):=fun o1=>fG h.own (fun j U=>(Below.heap_alloc _ _ _ (yC (h.own.lt j U).2 O.size)).trans (O.block j (h.own.lt j U).2 (by intro e;exact(Z j U).1 (Option.some.inj e))));have NR:Hid (∀ j,v.ownBlock=some j->j≠F/\j≠D/\j≠M):=Z;have X1:Hid _:=x1;have X2:Hid _:=x2;have G1:Hid (w.grownBy w1 (some F)):=O;have LT:Hid (M<w.heap.size/\D<w.heap.size/\F<w.heap.size):=⟨aR h.bmE,aR h.btE,h.mp.lt⟩;have a9:Hid (M≠F/\D≠F/\M≠D):=⟨a7,a8,fun e=>by have h1:=h.bmE;rw[e,h.btE] at h1;cases h1⟩;have y1:=cZ x1;have y2:=cZ x2;have s1:=O.size;have b8:D<w1.heap.size:=aR x2;clear h b3 Z x1 x2 e1 e2 O hm a7 a8;subst hv;obtain⟨l,hl⟩:∃ z,T.length=z:=⟨_,rfl⟩;have HL:Hid (T.length=l):=hl;rw[hl] at OW b0 hT y2 X2 NR c2 |-;clear hl
  go_enter func180,ntmps180
  go_wp2_with (at_builtin;refine wpList_append_own_at _ rfl _ _ 48 rfl B 3 i0 (.int .i64 0) 1 8 underlying48 b7 b9 c6 c7 rfl (by decide) (.slice pa l pc) l (T.map (Value.int .i64)) rfl ?how ⟨w1.heap.size,0,none⟩ 1 1 [.int .i64 k] rfl rfl ?c1 ?c2 ?c3 ?c4 ?c5 ?_)
  case how=>exact OW.o _
  case c1=>exact cell_one_new _ _ _
  case c2=>intro u hu;simp at hu;subst hu;rfl
  case c3=>unfold maxLen;omega
  case c4=>omega
  case c5=>simp;omega
  intro v2 w2 J E _ a6;have e6:(T++[k]).map (Value.int .i64)=T.map (Value.int .i64)++[.int .i64 k]:=by simp
  rw[<- e6] at J;obtain⟨na,nc,b1,_⟩:=tO J;have e5:(T++[k]).length=l+1:=by simp[HL.o]
  rw[e5] at b1;subst b1;have b2:w2.heap[D]?=some (.cells #[.slice pa l pc] 48 (0,0)):=(E.block D (by simp;omega) (by intro e;exact(NR D e.symm).2.1 rfl)).trans ((Below.heap_alloc _ _ _ b8).trans X2);have y3:=cZ b2;have y4:=iB (o:=0) b2;have s2:=E.size;simp only[yw] at s2;have z2:D<w2.heap.size:=by omega
  have a5:Hid (eY (w2.setCell ⟨D,0,none⟩ (.slice na (l+1) nc)) B M D F (n+1) (.slice na (l+1) nc) (T++[k])):=by
   have kp:∀ j,j<w1.heap.size->(Value.slice pa l pc).ownBlock≠some j->j≠D->(w2.setCell ⟨D,0,none⟩ (.slice na (l+1) nc)).heap[j]?=w1.heap[j]?:=fun j h1 h2 h3 =>
    (yx _ _ _ _ h3).trans ((E.block j (by simp;omega) (fun e=>h2 e.symm)).trans (Below.heap_alloc _ _ _ h1))
   have ob:=J.lt;refine⟨(kp M (by have:=LT.o.1;omega) (fun e=>(NR M e).2.2 rfl) a9.o.2.2).trans X1,wN b2,b5.kept (kp F (by have:=LT.o.2.2;omega) (fun e=>(NR F e).1 rfl) (fun e=>a9.o.2.1 e.symm)),?_⟩;rw[e5];refine fG J (fun j U=>yx _ _ _ _ ?_);intro e;have e:j=D:=e;subst e;rcases a6 with h1|h1
   ·rw[h1] at U;exact(NR j U).2.1 rfl
   ·rw[h1] at U;have:=Option.some.inj U
    first|omega|(simp only[yw] at this;omega)
  have b4:Hid (Later w (.slice pa l pc) (.slice na (l+1) nc)):=by
   rcases a6 with h1|h1
   ·exact Or.inl h1
   ·exact Or.inr ⟨_,h1,by first|omega|(simp;omega)⟩
  have b6:Hid (dV (jO D F (.slice pa l pc)) w (w2.setCell ⟨D,0,none⟩ (.slice na (l+1) nc))):=by
   refine dV.trans (Y:=jO D F (.slice pa l pc)) (UD G1.o (fun j e=>Or.inr (Or.inl (Option.some.inj e).symm))) ?_ (fun _ _ h=>h);have g2:dV (jO D F (.slice pa l pc)) _ w2:=UD E (fun j e=>Or.inr (Or.inr e));have g3:=dV.trans (X:=jO D F (.slice pa l pc)) (Y:=jO D F (.slice pa l pc)) (dV.of_below (aB w1 _)) g2 (fun _ _ h=>h);exact dV.trans (Y:=jO D F (.slice pa l pc)) g3 (CY _ _ _ _ (Or.inl rfl)) (fun _ _ h=>h)
  clear J E a6 b2 e5 e6
  go_wp2_with fail
  go_ret;exact⟨_,rfl,a5.o,b4.o,b6.o⟩
theorem KI:(prog.info? 65).map (fun i=>(i.zero,i.size,i.bytes))=some (some (.agg #[.int .i64 0,.int .i64 0,.int .i64 0,.int .i64 0,.bool false]),5,40):=by kernel_rfl
def lG:Array Value:=#[.int .i64 0,.int .i64 0,.int .i64 0,.int .i64 0,.bool false]
theorem UV(n:Nat)(hn:n<=24)(w:Wd):(Instr.makeSlice 22 (.int .i64 (n:Int)) (.int .i64 (n:Int))).run prog w=.ok (.slice (some ⟨w.heap.size,0,none⟩) n n) (w.alloc (.cells (madeCells lG (n*5)) 65)):=by
 obtain⟨i,hi,D,E,F⟩:=info_parts KI;have h:=run_make (P:=prog) w 22 65 i _ underlying22 hi D .i64 .i64 n n (by omega) (by omega) (by rw[F];omega) (by omega);rw[E] at h;simp only[yk] at h;exact h
def KJ(x:Fr):Nat->Value
 | 0=>.int .i64 x.p
 | 1=>.int .i64 x.o
 | 2=>.int .i64 x.m
 | 3=>.int .i64 x.t
 | _=>.bool x.g
def frF(L:List Fr)(m:Nat):Value:=KJ (fr L (m / 5)) (m % 5)
theorem jT(L:List Fr)(i j:Nat)(D:j<5):frF L (i*5+j)=KJ (fr L i) j:=by
 unfold frF;rw[show (i*5+j) % 5=j by omega,show (i*5+j) / 5=i by omega]
theorem DZ{M:List Fr}{m:Nat}(h:fr L (m / 5)=fr M (m / 5)):frF L m=frF M m:=by
 unfold frF;rw[h]
theorem Kl(L:List Fr)(m:Nat):(frF L m).oneCell' = true:=by
 unfold frF KJ
 split <;> rfl
theorem row_of{t:Nat}{X:List Value}(h:w.heap[g]?=some (.cells X.toArray t (0,0))):w.rowIs g t X.length (fun i=>X.getD i (.bool false)) :=
 ⟨X.toArray,h,by simp,fun i hi=>by simp[hi]⟩
theorem KP{F:Nat->Value}(h:w.rowIs g 65 N F)(hl:L.length*5<=N)(D:∀ m,m<L.length*5->F m=frF L m):aS w (some ⟨g,0,none⟩) L:=fun i hi=>by
 have hc:∀ j,j<5->w.cell? ⟨g,0+i*5+j,none⟩=some (frF L (i*5+j)):=fun j E=>by
  rw[yD,h.cell (by omega),D _ (by omega)]
 refine⟨g,0,rfl,?_,?_,?_,?_,?_⟩
 ·have:=hc 0 (by omega);rwa [jT L i 0 (by omega)] at this
 ·have:=hc 1 (by omega);rwa [jT L i 1 (by omega)] at this
 ·have:=hc 2 (by omega);rwa [jT L i 2 (by omega)] at this
 ·have:=hc 3 (by omega);rwa [jT L i 3 (by omega)] at this
 ·have:=hc 4 (by omega);rwa [jT L i 4 (by omega)] at this
def dW(L:List Fr):List Value:=(List.range (L.length*5)).map (frF L)
theorem xZ(L:List Fr):(dW L).length=L.length*5:=by unfold dW;simp
theorem KQ(L:List Fr):∀ v ∈ dW L,v.oneCell' = true:=fun v hv=>by
 unfold dW at hv;obtain⟨m,_,rfl⟩:=List.mem_map.1 hv;exact Kl L m
theorem aS.src{o:Nat}(h:aS w (some ⟨b,o,none⟩) L):∀ j v,(dW L)[j]?=some v->w.cell? ((⟨b,o,none⟩:Addr).add j)=some v:=fun j v E=>by
 unfold dW at E;rw[List.getElem?_map] at E
 have F:j<L.length*5:=by
  rcases Nat.lt_or_ge j (L.length*5) with h|h
  ·exact h
  ·rw[List.getElem?_eq_none (by simpa using h)] at E;cases E
 rw[List.getElem?_range F] at E;have hv:frF L j=v:=by simpa using E
 rw[Addr.add_lit,<- hv];obtain⟨I,J,e,c0,c1,c2,c3,c4⟩:=h (j / 5) (by omega);cases e;have hs:j % 5=0\/j % 5=1\/j % 5=2\/j % 5=3\/j % 5=4:=by omega
 rcases hs with e|e|e|e|e
 ·have D:j=j / 5*5+0:=by omega
  rw[D,jT L (j / 5) 0 (by omega),<- D,show o+j=o+j / 5*5 by omega];exact c0
 ·have D:j=j / 5*5+1:=by omega
  rw[D,jT L (j / 5) 1 (by omega),<- D,show o+j=o+j / 5*5+1 by omega];exact c1
 ·have D:j=j / 5*5+2:=by omega
  rw[D,jT L (j / 5) 2 (by omega),<- D,show o+j=o+j / 5*5+2 by omega];exact c2
 ·have D:j=j / 5*5+3:=by omega
  rw[D,jT L (j / 5) 3 (by omega),<- D,show o+j=o+j / 5*5+3 by omega];exact c3
 ·have D:j=j / 5*5+4:=by omega
  rw[D,jT L (j / 5) 4 (by omega),<- D,show o+j=o+j / 5*5+4 by omega];exact c4
theorem UW(hg:w.heap[g]?=some (.cells (dW L++(madeCells lG N).toList.drop (dW L).length).toArray 65 (0,0)))(hl:L.length*5<=N):∃ F,w.rowIs g 65 N F/\∀ m,m<L.length*5->F m=frF L m:=by
 have h:=row_of hg
 have hs:(dW L++(madeCells lG N).toList.drop (dW L).length).length=N:=by
  simp[xZ,size_madeCells];omega
 rw[hs] at h;refine⟨_,h,fun m E=>?_⟩;have D:m<(dW L).length:=by rw[xZ];exact E
 have e:(dW L)[m]?=some (frF L m):=by
  unfold dW;rw[List.getElem?_map,List.getElem?_range E];rfl
 rw[List.getD_eq_getElem?_getD,List.getElem?_append_left D,e];rfl
theorem Km(a:OA)(c:Nat)(L:List Fr)(k:Int)(w:Wd)(O:L.length<=9223372036854775807)(J:aS w a L)(M:dR L k≠0) :
  yO 138 #[.slice a L.length c,.int .i64 k] w fun e w' => e=.returned (.tuple #[.int .i64 0,.int .i64 (dR L k)])/\Below w.heap.size w w' := by
 have D:Hid _:=KF a c L k w O J;have T:decide (dR L k=0)=false:=yH M;clear J;generalize dR L k=E at *;generalize L.length=n at *
 go_enter func138,ntmps138
 go_wp2_with fail
 refine yj D.o ?_;rintro e w1 ⟨rfl,F⟩;have I:Hid (Bl w w1):=F;clear F
 go_wp2_with fail
 exact yz (v:=.tuple #[.int .i64 0,.int .i64 E]) (by simp[results,results138,go_sem]) rfl ⟨rfl,I.o⟩
theorem Kn(a:OA)(c:Nat)(L:List Fr)(k:Int)(w:Wd)(hN:L.length<=8)(hL:aS w a L)(hE:dR L k=0) :
  yO 138 #[.slice a L.length c,.int .i64 k] w fun e w' => e=.returned (.tuple #[.int .i64 (gM L k:Nat),.int .i64 0])/\Below w.heap.size w w' := by
 have d:=KF a c L k w (by omega) hL;rw[hE] at d;have D:Hid _:=d;have HL:Hid (aS w a L):=hL;have ST:Hid (∀ j,j<L.length->gM (L.take (j+1)) k=gM (L.take j) k+(if (fr L j).p=k/\(fr L j).g=false then 1 else 0)):=fun j hj=>Jv k hj;have EN:Hid (gM (L.take L.length) k=gM L k):=(by rw[List.take_length]:gM (L.take L.length) k=gM L k);have Z:Hid (gM (L.take 0) k=0):=rfl;clear hL hE d;obtain⟨r,hr⟩:∃ r,gM L k=r:=⟨_,rfl⟩;rw[hr] at EN |-;clear hr;obtain⟨n,hn⟩:∃ n,L.length=n:=⟨_,rfl⟩;have HN:Hid (L.length=n):=hn;rw[hn] at hN ST EN D |-;clear hn
 go_enter func138,ntmps138
 go_wp2_with fail
 refine yj D.o ?_;rintro e w1 ⟨rfl,T⟩;have O:Hid (Bl w w1):=T;clear T
 go_wp2_with fail
 go_loopg [7,18] n (fun g s7 s18 wr=>∃ (i q:Nat),i<=n/\n-i<=g/\s18=.int .i64 i/\s7=.int .i64 q/\q<=i/\Hid (Bl w wr)/\Hid (gM (L.take i) k=q))
 case atStart=>exact⟨0,0,by omega,by omega,rfl,rfl,by omega,O,Z⟩
 case round =>
  obtain⟨i,q,hi,hg,rfl,rfl,hq,I,M⟩:=hrel;clear O;by_cases U:i<n
  ·have a6:(i:Int)<(n:Int):=(by omega);obtain⟨b,o,ea,c0,c1,c2,c3,c4⟩:=(HL.below I) i (by rw[HN.o];exact U);subst ea;have E:=ST.o i U;rw[M.o] at E;have q0:=yi _ _ c0;have J:Hid (∀ o1,Bl w (wr.alloc o1)):=fun o1=>I.trans ((aB wr o1).mono I.size);generalize fr L i=x at *;obtain⟨xp,xo,xm,xt,xg⟩:=x;dsimp only at c0 c1 c2 c3 c4 E;by_cases hp:xp=k
   ·subst hp;cases xg
    ·have F:Hid (gM (L.take (i+1)) xp=q+1):=(by rw[ye ⟨rfl,rfl⟩] at E;exact E);clear E
     go_wp2_with fail
     go_roundg (n-(i+1))
     case measure=>omega
     case rel=>exact⟨i+1,q+1,by omega,by omega,by go_num,by go_num,by omega,J.o _,F⟩
    ·have F:Hid (gM (L.take (i+1)) xp=q):=(by rw[yd (by simp)] at E;exact E);clear E
     go_wp2_with fail
     go_roundg (n-(i+1))
     case measure=>omega
     case rel=>exact⟨i+1,q,by omega,by omega,by go_num,rfl,by omega,J.o _,F⟩
   ·have F:Hid (gM (L.take (i+1)) k=q):=(by rw[yd (fun hh=>hp hh.1)] at E;exact E);have a7:decide (xp=k)=false:=yH hp;have a8:(xp == k)=false:=(by simp[hp]);clear E
    go_wp2_with fail
    go_roundg (n-(i+1))
    case measure=>omega
    case rel=>exact⟨i+1,q,by omega,by omega,by go_num,rfl,by omega,J.o _,F⟩
  ·have a5:i=n:=(by omega);subst a5;have F:Hid (q=r):=M.symm.trans EN;clear M
   go_wp2_with fail
   exact yz (v:=.tuple #[.int .i64 (q:Int),.int .i64 0]) (by simp[results,results138,go_sem]) rfl ⟨by rw[F.o],I.o⟩
def mY(L:List Fr)(ks:List Int):Int:=ks.foldl (fun e k=>if e=0 then bC L k else e) (bS L)
def mI(L:List Fr)(f t x:Int):Bool :=
 if x=1 then decide ((fr L f.toNat).o=(fr L t.toNat).o)
 else if x=2 then true
 else if x=3 then decide (bits .andNot .i64 2 (fr L f.toNat).m=0)
 else (!decide (t=f)) && inF L t f
def bG(L:List Fr)(f t x:Int):Int :=
 if mY L [f,t]≠0 then mY L [f,t] else if ¬ (1<=x/\x<=5) then 3 else if mI L f t x=true then 0 else 7
theorem vG(L:List Fr)(f t:Int):mY L [f,t]=if bS L≠0 then bS L else if bC L f≠0 then bC L f else bC L t:=by
 unfold mY;simp only[List.foldl];by_cases h1:bS L=0
 ·rw[ye h1,yd (yL h1)];by_cases D:bC L f=0
  ·rw[ye D,yd (yL D)]
  ·rw[yd D,ye D]
 ·rw[yd h1,yd h1,ye h1]
theorem UX(h:mY L [f,t]=0):bS L=0/\bC L f=0/\bC L t=0:=by
 rw[vG] at h;by_cases h1:bS L=0
 ·rw[yd (yL h1)] at h;by_cases D:bC L f=0
  ·rw[yd (yL D)] at h;exact⟨h1,D,h⟩
  ·rw[ye D] at h;exact absurd h D
 ·rw[ye h1] at h;exact absurd h h1
theorem UY(h1:bS L=0)(D:bC L f=0)(E:bC L t=0):mY L [f,t]=0:=by
 rw[vG,yd (yL h1),yd (yL D),E]
def pG(k:Int):Option (Bool × Int × Bool) :=
 if k=1 then some (true,0,false) else if k=2 then some (false,0,false) else if k=3 then some (false,2,false) else if k=4\/k=5 then some (false,0,true) else none
def yP(L:List Fr)(f t:Int)(D:Bool)(nd:Int)(E:Bool):Bool :=
 (!D || decide ((fr L f.toNat).o=(fr L t.toNat).o)) && (decide (bits .andNot .i64 nd (fr L f.toNat).m=0) && (!E ||((!decide (t=f)) && inF L t f)))
theorem KR{a:Int}(h0:0<=a)(D:a<=7):bits .andNot .i64 0 a=0:=UN (P:=fun a=>bits .andNot .i64 0 a=0) (by decide +kernel) h0 D
theorem KT:pG x=none↔¬ (1<=x/\x<=5):=by
 unfold pG;by_cases h1:x=1
 ·rw[ye h1];simp;omega
 ·rw[yd h1];by_cases D:x=2
  ·rw[ye D];simp;omega
  ·rw[yd D];by_cases E:x=3
   ·rw[ye E];simp;omega
   ·rw[yd E];by_cases F:x=4\/x=5
    ·rw[ye F];simp;omega
    ·rw[yd F];simp;omega
theorem Ko(R:gL L){f t:Nat}(O:f<L.length){I J:Bool}{nd:Int}(h:pG x=some (I,nd,J)):yP L f t I nd J=mI L f t x:=by
 have D:=R.may O;unfold pG at h;unfold yP mI;rw[yk];by_cases h1:x=1
 ·rw[ye h1] at h;rw[ye h1];cases h;simp[KR D.1 D.2]
 ·rw[yd h1] at h;rw[yd h1];by_cases E:x=2
  ·rw[ye E] at h;rw[ye E];cases h;simp[KR D.1 D.2]
  ·rw[yd E] at h;rw[yd E];by_cases F:x=3
   ·rw[ye F] at h;rw[ye F];cases h;simp
   ·rw[yd F] at h;rw[yd F];by_cases M:x=4\/x=5
    ·rw[ye M] at h;cases h;simp[KR D.1 D.2]
    ·rw[yd M] at h;cases h
theorem Kq(h:bS L≠0):bG L f t x=bS L:=by
 unfold bG;rw[vG,ye h,ye h]
theorem Kr(h:bS L=0)(D:bC L f≠0):bG L f t x=bC L f:=by
 unfold bG;rw[vG,yd (yL h),ye D,ye D]
theorem Kt(h:bS L=0)(D:bC L f=0)(E:bC L t≠0):bG L f t x=bC L t:=by
 unfold bG;rw[vG,yd (yL h),yd (yL D),ye E]
theorem Ku(h:bS L=0)(D:bC L f=0)(E:bC L t=0):bG L f t x=if ¬ (1<=x/\x<=5) then 3 else if mI L f t x=true then 0 else 7:=by
 unfold bG;rw[UY h D E,yd (by decide)]
theorem pJ{w1:Wd}{a:OA}{c:Nat}{p u:Int}(hb:Below (w.heap.size+1+1+1+1) ((((w.alloc (.cells #[.slice a n c] 43)).alloc (.cells #[.int .i64 p,.int .i64 u] 61)).alloc (.cells #[.slice none 0 0] 43)).alloc (.cells #[.int .i64 0,.int .i64 0] 61)) w1) :
  w1.cell? ⟨w.heap.size,0,none⟩=some (.slice a n c)/\w1.cell? ⟨w.heap.size+1,0,none⟩=some (.int .i64 p)/\w1.cell? ⟨w.heap.size+1,1,none⟩=some (.int .i64 u)/\w1.cell? ⟨w.heap.size+1+1,0,none⟩=some (.slice none 0 0)/\w1.cell? ⟨w.heap.size+1+1+1,0,none⟩=some (.int .i64 0)/\w1.cell? ⟨w.heap.size+1+1+1,1,none⟩=some (.int .i64 0)/\(∀ o,w1.frozen? ⟨w.heap.size+1+1,o,none⟩=false)/\(∀ o,w1.frozen? ⟨w.heap.size+1+1+1,o,none⟩=false):=by
 refine⟨?_,?_,?_,?_,?_,?_,fun o=>?_,fun o=>?_⟩
 all_goals first|exact(hb.cell (by first|(simp;done)|(simp;omega))).trans (by go_simp)|exact(hb.frozen (by first|(simp;done)|(simp;omega))).trans (by go_simp)
theorem Lg(a:OA)(c:Nat)(S:List Nd)(k f:Nat)(u:Int)(cl:Bool)(w:Wd)(wf:WF S)(hS:aD w a S)(hk:k<S.length)(hE:aP S k u=0)(hH:iD S k=false)(hf:f<S.length)(b2:dI (nd S f)=true)(T:∀ i,i<f->dI (nd S i)=false) :
  yO 193 #[.agg #[.slice a S.length c],.agg #[.int .i64 (k:Int),.int .i64 u],.bool cl] w fun e w' => ∃ g,e=.returned (.tuple #[.agg #[.slice (some ⟨g,0,none⟩) S.length S.length],.agg #[.int .i64 (f:Int),.int .i64 ((nd S f).n+1)],.int .i64 0])/\Below w.heap.size w w' /\ w.heap.size<=g/\iY w' g (S.set f (fJ (nd S f) k cl)):=by
 have hN:=wf.small;have D0:Hid (∀ W,aD W a S->Calls _ _ _ _ _):=fun W hW=>find_ok a c S k u W (by omega) wf.big hW hk hE (by have:=wf.kids_small hk;omega);have d1:=fun W hW=>xD a c S (k:Int) W (by omega) hW (by omega);rw[hH] at d1;have D1:Hid _:=d1;have D2:Hid (∀ W,aD W a S->Calls _ _ _ _ _):=fun W hW=>RJ a c S 0 W hN (fun i hi=>by have:=wf.kids_small hi;omega) hW ((mU _).2 wf) (by omega) (by omega) f hf b2 (wf.uses hf).1 T;have HS:Hid (aD w a S):=hS
 have RT:Hid (∀ W g,iY W g (S.set f (fI (nd S f) 0))->iY ((W.setCell ⟨g,f*8+6,none⟩ (.int .i64 (k:Int))).setCell ⟨g,f*8+7,none⟩ (.bool cl)) g (S.set f (fJ (nd S f) k cl))):=fun W g h=>by
  have h2:=h.root (k:=f) (by simpa using hf) (k:Int) cl;rw[iQ S f f _ hf,ye rfl,List.set_set] at h2;exact h2
 have RC:Hid (∀ W g,iY W g (S.set f (fI (nd S f) 0))->g<W.heap.size/\(∀ o,W.frozen? ⟨g,o,none⟩=false)/\(∃ v6 v7,W.cell? ⟨g,f*8+6,none⟩=some v6/\W.cell? ⟨g,f*8+7,none⟩=some v7)):=fun W g ⟨F,hF,_⟩=>by
  rw[List.length_set] at hF;exact⟨hF.lt,hF.frozen,_,_,hF.cell (by omega),hF.cell (by omega)⟩
 have b8:(f:Int)<(S.length:Int):=by omega
 have b9:decide ((f:Int)<0)=false:=yH (by omega);clear hS wf hE hH b2 T d1;obtain⟨x0,b3⟩:∃ x,nd S k=x:=⟨_,rfl⟩;rw[b3] at D0;clear b3;obtain⟨S1,b0⟩:∃ S1,S.set f (fI (nd S f) 0)=S1:=⟨_,rfl⟩;obtain⟨S2,b1⟩:∃ S2,S.set f (fJ (nd S f) k cl)=S2:=⟨_,rfl⟩;rw[b0] at D2 RT RC;rw[b1] at RT |-;clear b0 b1;generalize (nd S f).n=nf at *;generalize S.length=n at *
 go_enter func193,ntmps193
 go_wp2_with fail
 refine yj (D0 _ (HS.below (fB _ _ _ _ _))) ?_;rintro e w2 ⟨fg,rfl,J,_⟩;simp only[yw] at J;have a7:Hid (Below (w.heap.size+1+1+1+1) ((((w.alloc (.cells #[.slice a n c] 43)).alloc (.cells #[.int .i64 (k:Int),.int .i64 u] 61)).alloc (.cells #[.slice none 0 0] 43)).alloc (.cells #[.int .i64 0,.int .i64 0] 61)) w2):=J;have b6:=J.size;simp only[yw] at b6;obtain⟨l0,l1,l2,l3,l4,l5,l6,l7⟩:=pJ J;have BW:Hid (∀ W,Below (w.heap.size+1+1+1+1) ((((w.alloc (.cells #[.slice a n c] 43)).alloc (.cells #[.int .i64 (k:Int),.int .i64 u] 61)).alloc (.cells #[.slice none 0 0] 43)).alloc (.cells #[.int .i64 0,.int .i64 0] 61)) W->Bl w W):=fun W h=>(fB _ _ _ _ _).trans (h.mono (by omega));clear J;have q0:w.heap.size<w2.heap.size:=by omega
 have q1:w.heap.size+1<w2.heap.size:=by omega
 go_wp2_with fail
 refine yj (D1 _ (HS.below (BW _ (a7.alloc (by omega) _)))) ?_;rintro e w3 ⟨rfl,M⟩;simp only[yw] at M;have U:Hid (Below (w.heap.size+1+1+1+1) ((((w.alloc (.cells #[.slice a n c] 43)).alloc (.cells #[.int .i64 (k:Int),.int .i64 u] 61)).alloc (.cells #[.slice none 0 0] 43)).alloc (.cells #[.int .i64 0,.int .i64 0] 61)) w3):=(a7.alloc (by omega) _).trans (M.mono (by omega));have b7:=M.size;simp only[yw] at b7;clear M l0 l1 l2 l3 l4 l5 l6 l7;obtain⟨l0,l1,l2,l3,l4,l5,l6,l7⟩:=pJ U.o
 go_wp2_with fail
 refine yj (D2 _ (HS.below (BW _ U.o))) ?_;rintro e I ⟨g,rfl,a6,c6,a5⟩;have Z:Hid (Below (w.heap.size+1+1+1+1) ((((w.alloc (.cells #[.slice a n c] 43)).alloc (.cells #[.int .i64 (k:Int),.int .i64 u] 61)).alloc (.cells #[.slice none 0 0] 43)).alloc (.cells #[.int .i64 0,.int .i64 0] 61)) I):=U.trans (a6.mono (by omega));have c8:=a6.size;clear a6 l0 l1 l2 l3 l4 l5 l6 l7;obtain⟨l0,l1,l2,l3,l4,l5,l6,l7⟩:=pJ Z.o;obtain⟨c7,b5,v6,v7,d6,d7⟩:=RC.o _ _ a5;have a9:Hid (iY I g S1):=a5;have e1:¬ g=w.heap.size+1:=by omega
 have e2:¬ w.heap.size+1=g:=by omega
 have e3:¬ g=w.heap.size+1+1:=by omega
 have e4:¬ w.heap.size+1+1=g:=by omega
 have e5:¬ g=w.heap.size+1+1+1:=by omega
 have e6:¬ w.heap.size+1+1+1=g:=by omega
 have q2:w.heap.size+1<I.heap.size:=by omega
 have q3:w.heap.size+1+1<I.heap.size:=by omega
 have q4:w.heap.size+1+1+1<I.heap.size:=by omega
 have q5:w.heap.size<I.heap.size:=by omega
 clear a5 D0 D1 D2
 go_wp2_with fail
 first
  |(obtain⟨E,D⟩:∃ E,E=((((I.setCell ⟨g,f*8+6,none⟩ (.int .i64 (k:Int))).setCell ⟨g,f*8+7,none⟩ (.bool cl)).alloc (.cells #[.slice (some ⟨g,0,none⟩) n n] 43)).alloc (.cells #[.int .i64 (f:Int),.int .i64 (nf+1)] 61)):=⟨_,rfl⟩;rw[<- D])
  |(obtain⟨E,D⟩:∃ E,E=((((I.alloc (.cells #[.slice (some ⟨g,0,none⟩) n n] 43)).alloc (.cells #[.int .i64 (f:Int),.int .i64 (nf+1)] 61)).setCell ⟨g,f*8+6,none⟩ (.int .i64 (k:Int))).setCell ⟨g,f*8+7,none⟩ (.bool cl)):=⟨_,rfl⟩;rw[<- D])
 have b4:Hid (iY E g S2):=by
  rw[D]
  first
   | exact(RT I g a9.o).up (fun b _ O=>(((yv _ _).alloc (yr _) _).alloc (by simp) _).block b O)
   | exact RT.o _ g (a9.up (fun b _ O=>(((yv _ _).alloc (yr _) _).alloc (by simp) _).block b O))
 have c9:E.heap.size=I.heap.size+1+1:=by rw[D];simp
 have a8:Hid (Bl w E):=by
  rw[D]
  first
   | exact((((BW _ Z.o).setCell (by simp;omega) _).setCell (by simp;omega) _).alloc (by simp;omega) _).alloc (by simp;omega) _
   | exact((((BW _ Z.o).alloc (by omega) _).alloc (by simp;omega) _).setCell (by simp;omega) _).setCell (by simp;omega) _
 have y0:E.cell? ⟨I.heap.size,0,none⟩=some (.slice (some ⟨g,0,none⟩) n n):=by rw[D];go_simp
 have y1:E.cell? ⟨I.heap.size+1,0,none⟩=some (.int .i64 (f:Int)):=by rw[D];go_simp
 have y2:E.cell? ⟨I.heap.size+1,1,none⟩=some (.int .i64 (nf+1)):=by rw[D];go_simp
 have y3:E.cell? ⟨w.heap.size+1+1,0,none⟩=some (.slice none 0 0):=by rw[D];go_simp
 have y4:E.cell? ⟨w.heap.size+1+1+1,0,none⟩=some (.int .i64 0):=by rw[D];go_simp
 have y5:E.cell? ⟨w.heap.size+1+1+1,1,none⟩=some (.int .i64 0):=by rw[D];go_simp
 have y6:∀ o,E.frozen? ⟨w.heap.size+1+1,o,none⟩=false:=fun o=>by rw[D];go_simp
 have y7:∀ o,E.frozen? ⟨w.heap.size+1+1+1,o,none⟩=false:=fun o=>by rw[D];go_simp
 have z1:I.heap.size<E.heap.size:=by omega
 have z2:I.heap.size+1<E.heap.size:=by omega
 have z3:w.heap.size+1+1<E.heap.size:=by omega
 have z4:w.heap.size+1+1+1<E.heap.size:=by omega
 have z5:¬ I.heap.size=w.heap.size+1+1:=by omega
 have z6:¬ I.heap.size+1=w.heap.size+1+1:=by omega
 have z7:¬ I.heap.size=w.heap.size+1+1+1:=by omega
 have z8:¬ I.heap.size+1=w.heap.size+1+1+1:=by omega
 clear D l0 l1 l2 l3 l4 l5 l6 l7 d6 d7 b5
 go_region
 all_goals (try go_wp2)
 all_goals
  refine yz (v:=.tuple #[.agg #[.slice (some ⟨g,0,none⟩) n n],.agg #[.int .i64 (f:Int),.int .i64 (nf+1)],.int .i64 0]) (by simp[results,results193,go_sem,y3,y4,y5]) rfl ⟨g,rfl,?_,by omega,?_⟩
  ·first
    | exact(((a8.setCell (by simp;omega) _).setCell (by simp;omega) _).setCell (by simp;omega) _).drew
    | exact((a8.setCell (by simp;omega) _).setCell (by simp;omega) _).setCell (by simp;omega) _
  ·refine b4.up (fun b hb O=>?_)
   first
    | rw[heap_drew,yx _ _ _ _ (by show b≠w.heap.size+1+1+1;omega),yx _ _ _ _ (by show b≠w.heap.size+1+1+1;omega),yx _ _ _ _ (by show b≠w.heap.size+1+1;omega)]
    | rw[yx _ _ _ _ (by show b≠w.heap.size+1+1+1;omega),yx _ _ _ _ (by show b≠w.heap.size+1+1+1;omega),yx _ _ _ _ (by show b≠w.heap.size+1+1;omega)]
