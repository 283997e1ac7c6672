/-
  x
-/
import Derived.Test.YtcbcpomacdngmaaGreatM17
import Derived.Maps.OwnSet
import Derived.Maps.OwnOps
import Derived.Maps.Views
import Derived.Maps.AppendAt
import Derived.Deep.RegionWith
namespace Go.Proofs.YtcbcpomacdngmaaGreat
set_option maxRecDepth 100000
set_option maxHeartbeats 4000000
set_option linter.unusedVariables false
open Go.ChangeShapes Go.WideShapes Go.RowKit
def zAP(v:Value):Option (DataW Value × List MemPlace):=some (.held v,[])
def zcw(P:Program)(E:TypeId)(w:World)(b n:Nat)(f:Lit->Option Value):Prop :=
 ∃ D:DataW Value,w.ownsMap P E zAP b n D/\Maps.IsMap D/\∀ kl,WideAt.IsKeyLit kl->Maps.has D kl=(f kl).isSome/\∀ v,f kl=some v->∀ z,D.atKey kl z=.held v
theorem zcw.made(P:Program)(D:TypeId)(w:World):zcw P D (w.alloc (.map #[] 0)) w.heap.size 0 (fun _=>none) :=
 ⟨.map [],World.ownsMap_made w _ _ _,Maps.isMap_empty,fun _ _=>⟨rfl,fun _ h=>by cases h⟩⟩
theorem zcw.lt{P:Program}{D:TypeId}{w:World}{b n:Nat}{f:Lit->Option Value}(h:zcw P D w b n f):b<w.heap.size:=let ⟨_,h1,_⟩:=h;h1.lt
theorem zcw.kept{P:Program}{E:TypeId}{w w' : World}{b n:Nat}{f:Lit->Option Value}(h:zcw P E w b n f)(e:w'.heap[b]?=w.heap[b]?):zcw P E w' b n f:=by
 obtain⟨D,⟨I,clock,O,F,hs,M⟩,J⟩:=h;exact⟨D,⟨I,clock,e.trans O,F,hs,M⟩,J⟩
theorem zcw.mono{P:Program}{E:TypeId}{w:World}{b n F:Nat}{f:Lit->Option Value}(h:zcw P E w b n f)(hn:n<=F):zcw P E w b F f:=let ⟨D,h1,h2⟩:=h;⟨D,h1.mono hn,h2⟩
theorem zcw.ne{P:Program}{J:TypeId}{w:World}{b n E t:Nat}{f:Lit->Option Value}{M:Array Value}{z:Nat × Nat}(h:zcw P J w b n f)(e:w.heap[E]?=some (.cells M t z)):E≠b:=by
 obtain⟨D,⟨O,clock,F,_⟩,_⟩:=h;intro I;subst I;rw[e] at F;cases F
theorem zcw.congr{P:Program}{F:TypeId}{w:World}{b n:Nat}{f g:Lit->Option Value}(h:zcw P F w b n f)(e:∀ kl,WideAt.IsKeyLit kl->f kl=g kl):zcw P F w b n g:=by
 obtain⟨D,h1,I,J⟩:=h;exact⟨D,h1,I,fun kl E=>by rw[<- e kl E];exact J kl E⟩
theorem zcw.look_ok{P:Program}{J:TypeId}{w:World}{b n:Nat}{f:Lit->Option Value}(h:zcw P J w b n f)(K:Maps.Keyed P J){t e:TypeId}(Z:P.underlying t=some (.map J e)){z:Value}(hz:(zeroValue e).run P w=.ok z w)
  {key:Value} {kl:Lit} (F:keyOf P J key=some kl) (U:WideAt.IsKeyLit kl) :
  (Instr.lookup t (.map (some b)) key true).run P w=.ok (.tuple #[(f kl).getD z,.bool (f kl).isSome]) w:=by
 obtain⟨D,h1,_,T⟩:=h;obtain⟨v,ps,I,O⟩:=h1.look_ok K Z hz (zd:=.held z) (zp:=[]) rfl F;rw[I];obtain⟨M,h5⟩:=T kl U;have E:DataW.held v=D.atKey kl (.held z):=by unfold zAP at O;simp at O;exact O.1
 rw[M]
 cases hf:f kl with
 | none =>
  rw[hf] at M;rw[Maps.atKey_of_not_has M] at E;cases E;rfl
 | some y =>
  rw[h5 y hf] at E;cases E;rfl
theorem zcw.put{P:Program}{J:TypeId}{w:World}{b n:Nat}{f:Lit->Option Value}(h:zcw P J w b n f)(K:Maps.Keyed P J){t e:TypeId}(ht:P.underlying t=some (.map J e))(hn:n<maxLen)
  {key:Value} {kl:Lit} (F:keyOf P J key=some kl) (hk:WideAt.IsKeyLit kl) (v:Value) :
  ∃ w',(Instr.mapUpdate t (.map (some b)) key v).run P w=.ok () w' /\(∀ g:Lit->Option Value,g kl=some v->(∀ j,j≠kl->g j=f j)->zcw P J w' b (n+1) g)/\w.grownBy w' (some b):=by
 obtain⟨D,h1,O,Z⟩:=h;obtain⟨w', I,h4,h5⟩:=h1.update K ht hn F (val:=v) (d:=.held v) (ps:=[]) rfl;refine⟨w', I,fun g T U=>⟨_,h4,O.put _ _,fun j M=>?_⟩,h5⟩;by_cases e:j=kl
 ·subst e;rw[T];exact⟨Maps.has_put_same O M _,fun v' E z=>by cases E;exact Maps.atKey_put_same O M _ _⟩
 ·rw[U j e,Maps.has_put_other e];exact⟨(Z j M).1,fun v' E z=>by rw[Maps.atKey_put_other e];exact(Z j M).2 v' E z⟩
theorem ziE:(Tryz.prog.info? 3).map (fun i=>(i.zero,i.size,i.bytes))=some (some (.int .i64 0),1,8):=by kernel_rfl
theorem zxd(w:World):(zeroValue 3).run Tryz.prog w=.ok (.int .i64 0) w:=by kernel_rfl
def lk(T:List Int):Lit->Option Value
 | .int .i64 k=>if k ∈ T then some (.int .i64 (at1 T k)) else none
 | _=>none
theorem ztp(T:List Int)(k:Int):lk T (.int .i64 k)=if k ∈ T then some (.int .i64 (at1 T k)) else none:=rfl
theorem zzH{T:List Int}{k:Int}(h:k ∉ T):lk (T++[k]) (.int .i64 k)=some (.int .i64 (T.length:Int)):=by
 rw[ztp,yb (by simp),zsb h]
theorem zzI{T:List Int}{k:Int}(j:Lit)(h:j≠.int .i64 k):lk (T++[k]) j=lk T j:=by
 unfold lk;split
 ·rename_i x;have E:x≠k:=fun e=>h (by rw[e]);by_cases D:x ∈ T
  ·rw[yb (by simp[D]),yb D,znH D]
  ·rw[ya (by simp[D,E]),ya D]
 ·rfl
structure zio (w:World) (B bm bt mb n:Nat) (v:Value) (T:List Int):Prop where
 bmE:w.heap[bm]?=some (.cells #[.map (some mb)] 220 (0,0))
 btE:w.heap[bt]?=some (.cells #[v] 48 (0,0))
 mp:zcw Tryz.prog 3 w mb n (lk T)
 own:w.ownsRow B 3 1 v T.length (T.map (Value.int .i64))
def zfZ(D E:Nat)(v:Value):Nat->Prop:=fun j=>j=D\/j=E\/v.ownBlock=some j
structure zho (X:Nat->Prop) (w w' : World):Prop where
 os:w'.os=w.os
 tape:w'.tape=w.tape
 output:w'.output=w.output
 size:w.heap.size<=w'.heap.size
 block:∀ k,k<w.heap.size->¬ X k->w'.heap[k]?=w.heap[k]?
theorem zho.refl(X:Nat->Prop)(w:World):zho X w w:=⟨rfl,rfl,rfl,yj _,fun _ _ _=>rfl⟩
theorem zho.of_below{X:Nat->Prop}{w w' : World}(h:Below w.heap.size w w'):zho X w w' :=⟨h.os,h.tape,h.output,h.size,fun k D _=>h.block k D⟩
theorem zho.below{X:Nat->Prop}{w w' : World}(h:zho X w w'){B:Nat}(F:B<=w.heap.size)(D:∀ k,X k->B<=k):Below B w w' :=
 ⟨h.os,h.tape,h.output,h.size,fun k I=>h.block k (by omega) (fun E=>by have:=D k E;omega)⟩
theorem zho.trans{X Y:Nat->Prop}{a b c:World}(h:zho X a b)(k:zho Y b c)(D:∀ j,j<a.heap.size->Y j->X j):zho X a c :=
 ⟨k.os.trans h.os,k.tape.trans h.tape,k.output.trans h.output,yG h.size k.size,fun i hi E=>(k.block i (yx hi h.size) (fun F=>E (D i hi F))).trans (h.block i hi E)⟩
def Later(w:World)(v D:Value):Prop:=D.ownBlock=v.ownBlock\/∃ j,D.ownBlock=some j/\w.heap.size<=j
theorem zxo{k:Int}(h:(Lit.int .i64 k).wf=true):keyOf Tryz.prog 3 (.int .i64 k)=some (.int .i64 k):=Maps.keyOf_int_mk Tryz.underlying3 h
theorem zeK(w:World)(D o:Nat)(v:Value){X:Nat->Prop}(E:X D):zho X w (w.setCell ⟨D,o,none⟩ v):=⟨rfl,rfl,rfl,by simp[World.setCell],fun k _ F=>ys _ _ _ _ (fun e=>F (by rw[e];exact E))⟩
theorem zmJ{w w' : World}{r:Option Nat}(h:w.grownBy w' r){X:Nat->Prop}(D:∀ j,r=some j->X j):zho X w w' :=⟨h.os,h.tape,h.output,h.size,fun k E F=>h.block k E (fun e=>F (D k e.symm))⟩
theorem zmp(B M D F n:Nat)(v:Value)(T:List Int)(k:Int)(w:World)(h:zio w B M D F n v T)(hk:(Lit.int .i64 k).wf=true)(hn:n<100000)(hT:T.length<100000)(hB:B<=w.heap.size) :
  yL 180 #[.int .i64 k,.pointer (some ⟨M,0,none⟩),.pointer (some ⟨D,0,none⟩)] w fun e w' => ∃ v', e=.returned (.int .i64 (at1 (bring T k) k))/\zio w' B M D F (n+1) v' (bring T k)/\Later w v v' /\ zho (zfZ D F v) w w' := by
 obtain⟨i0,b7,b9,c6,c7⟩:=info_parts ziE;have c1:=zaI h.bmE;have c2:=zaI h.btE;obtain⟨pa,pc,hv,_⟩:=zfJ h.own;have I:=h.mp.look_ok (Maps.int_keyed Tryz.underlying3) (t:=220) Tryz.underlying220 (zxd w) (zxo hk) trivial;by_cases hm:k ∈ T
 ·have e1:lk T (.int .i64 k)=some (.int .i64 (at1 T k)):=by rw[ztp,yb hm]
  have e2:bring T k=T:=by unfold bring;rw[yb hm]
  rw[e1] at I;dsimp only[Option.getD,Option.isSome] at I;rw[e2];have a5:Hid (zio w B M D F (n+1) v T):=⟨h.bmE,h.btE,h.mp.mono (by omega),h.own⟩;clear h e1 e2;generalize at1 T k=A at *
  go_enter Tryz.func180,Tryz.ntmps180
  go_wp2_with fail
  go_ret;exact⟨v,rfl,a5.out,Or.inl rfl,zho.refl _ _⟩
 ·have e1:lk T (.int .i64 k)=none:=by rw[ztp,ya hm]
  have e2:bring T k=T++[k]:=by unfold bring;rw[ya hm]
  rw[e1] at I;dsimp only[Option.getD,Option.isSome] at I;rw[e2,zsb hm];have a7:=h.mp.ne h.bmE;have a8:=h.mp.ne h.btE;obtain⟨w1,b0,b3,O⟩:=h.mp.put (Maps.int_keyed Tryz.underlying3) (t:=220) Tryz.underlying220 (by unfold maxLen;omega) (zxo hk) trivial (.int .i64 (T.length:Int));have b5:Hid (zcw Tryz.prog 3 w1 F (n+1) (lk (T++[k]))):=b3 _ (zzH hm) (fun j U=>zzI j U);have x1:w1.heap[M]?=some (.cells #[.map (some F)] 220 (0,0)):=(O.block M (zau h.bmE) (by intro e;exact a7 (Option.some.inj e))).trans h.bmE;have x2:w1.heap[D]?=some (.cells #[v] 48 (0,0)):=(O.block D (zau h.btE) (by intro e;exact a8 (Option.some.inj e))).trans h.btE
  have Z:∀ j,v.ownBlock=some j->j≠F/\j≠D/\j≠M:=fun j U=>by
   obtain⟨_,ho⟩:=h.own;rcases ho with ⟨rfl,_⟩ |⟨g,cap,c8,rfl,_,h2,_⟩
   ·cases U
   ·cases U;refine⟨h.mp.ne h2,?_,?_⟩
    ·intro e;have e:g=D:=e;rw[e,h.btE] at h2;cases h2
    ·intro e;have e:g=M:=e;rw[e,h.bmE] at h2;cases h2
  have OW:Hid (∀ o1,(w1.alloc o1).ownsRow B 3 1 v T.length (T.map (Value.int .i64))):=fun o1=>zaJ h.own (fun j U=>(Below.heap_alloc _ _ _ (yx (h.own.lt j U).2 O.size)).trans (O.block j (h.own.lt j U).2 (by intro e;exact(Z j U).1 (Option.some.inj e))));have NR:Hid (∀ j,v.ownBlock=some j->j≠F/\j≠D/\j≠M):=Z;have X1:Hid _:=x1;have X2:Hid _:=x2;have G1:Hid (w.grownBy w1 (some F)):=O;have LT:Hid (M<w.heap.size/\D<w.heap.size/\F<w.heap.size):=⟨zau h.bmE,zau h.btE,h.mp.lt⟩;have a9:Hid (M≠F/\D≠F/\M≠D):=⟨a7,a8,fun e=>by have h1:=h.bmE;rw[e,h.btE] at h1;cases h1⟩;have y1:=zaI x1;have y2:=zaI x2;have s1:=O.size;have b8:D<w1.heap.size:=zau x2;clear h b3 Z x1 x2 e1 e2 O hm a7 a8;subst hv;obtain⟨l,hl⟩:∃ z,T.length=z:=⟨_,rfl⟩;have HL:Hid (T.length=l):=hl;rw[hl] at OW b0 hT y2 X2 NR c2 |-;clear hl
  go_enter Tryz.func180,Tryz.ntmps180
  go_wp2_with (at_builtin;refine wpList_append_own_at _ rfl _ _ 48 rfl B 3 i0 (.int .i64 0) 1 8 Tryz.underlying48 b7 b9 c6 c7 rfl (by decide) (.slice pa l pc) l (T.map (Value.int .i64)) rfl ?how ⟨w1.heap.size,0,none⟩ 1 1 [.int .i64 k] rfl rfl ?c1 ?c2 ?c3 ?c4 ?c5 ?_)
  case how=>exact OW.out _
  case c1=>exact cell_one_new _ _ _
  case c2=>intro u hu;simp at hu;subst hu;rfl
  case c3=>unfold maxLen;omega
  case c4=>omega
  case c5=>simp;omega
  intro v2 w2 J E _ a6;have e6:(T++[k]).map (Value.int .i64)=T.map (Value.int .i64)++[.int .i64 k]:=by simp
  rw[<- e6] at J;obtain⟨na,nc,b1,_⟩:=zfJ J;have e5:(T++[k]).length=l+1:=by simp[HL.out]
  rw[e5] at b1;subst b1;have b2:w2.heap[D]?=some (.cells #[.slice pa l pc] 48 (0,0)):=(E.block D (by simp;omega) (by intro e;exact(NR.out D e.symm).2.1 rfl)).trans ((Below.heap_alloc _ _ _ b8).trans X2.out);have y3:=zaI b2;have y4:=zaY (o:=0) b2;have s2:=E.size;simp only[yr] at s2;have z2:D<w2.heap.size:=by omega
  have a5:Hid (zio (w2.setCell ⟨D,0,none⟩ (.slice na (l+1) nc)) B M D F (n+1) (.slice na (l+1) nc) (T++[k])):=by
   have kp:∀ j,j<w1.heap.size->(Value.slice pa l pc).ownBlock≠some j->j≠D->(w2.setCell ⟨D,0,none⟩ (.slice na (l+1) nc)).heap[j]?=w1.heap[j]?:=fun j h1 h2 h3 =>
    (ys _ _ _ _ h3).trans ((E.block j (by simp;omega) (fun e=>h2 e.symm)).trans (Below.heap_alloc _ _ _ h1))
   have ob:=J.lt;refine⟨(kp M (by have:=LT.out.1;omega) (fun e=>(NR.out M e).2.2 rfl) a9.out.2.2).trans X1.out,ziN b2,b5.out.kept (kp F (by have:=LT.out.2.2;omega) (fun e=>(NR.out F e).1 rfl) (fun e=>a9.out.2.1 e.symm)),?_⟩;rw[e5];refine zaJ J (fun j U=>ys _ _ _ _ ?_);intro e;have e:j=D:=e;subst e;rcases a6 with h1|h1
   ·rw[h1] at U;exact(NR.out j U).2.1 rfl
   ·rw[h1] at U;have:=Option.some.inj U
    first|omega|(simp only[yr] at this;omega)
  have b4:Hid (Later w (.slice pa l pc) (.slice na (l+1) nc)):=by
   rcases a6 with h1|h1
   ·exact Or.inl h1
   ·exact Or.inr ⟨_,h1,by first|omega|(simp;omega)⟩
  have b6:Hid (zho (zfZ D F (.slice pa l pc)) w (w2.setCell ⟨D,0,none⟩ (.slice na (l+1) nc))):=by
   refine zho.trans (Y:=zfZ D F (.slice pa l pc)) (zmJ G1.out (fun j e=>Or.inr (Or.inl (Option.some.inj e).symm))) ?_ (fun _ _ h=>h);have g2:zho (zfZ D F (.slice pa l pc)) _ w2:=zmJ E (fun j e=>Or.inr (Or.inr e));have g3:=zho.trans (X:=zfZ D F (.slice pa l pc)) (Y:=zfZ D F (.slice pa l pc)) (zho.of_below (zaa w1 _)) g2 (fun _ _ h=>h);exact zho.trans (Y:=zfZ D F (.slice pa l pc)) g3 (zeK _ _ _ _ (Or.inl rfl)) (fun _ _ h=>h)
  clear J E a6 b2 e5 e6
  go_wp2_with fail
  go_ret;exact⟨_,rfl,a5.out,b4.out,b6.out⟩
theorem ziZ:(Tryz.prog.info? 65).map (fun i=>(i.zero,i.size,i.bytes))=some (some (.agg #[.int .i64 0,.int .i64 0,.int .i64 0,.int .i64 0,.bool false]),5,40):=by kernel_rfl
def zeu:Array Value:=#[.int .i64 0,.int .i64 0,.int .i64 0,.int .i64 0,.bool false]
theorem zkL(n:Nat)(hn:n<=24)(w:World):(Instr.makeSlice 22 (.int .i64 (n:Int)) (.int .i64 (n:Int))).run Tryz.prog w=.ok (.slice (some ⟨w.heap.size,0,none⟩) n n) (w.alloc (.cells (madeCells zeu (n*5)) 65)):=by
 obtain⟨i,hi,D,E,F⟩:=info_parts ziZ;have h:=run_make (P:=Tryz.prog) w 22 65 i _ Tryz.underlying22 hi D .i64 .i64 n n (by omega) (by omega) (by rw[F];omega) (by omega);rw[E] at h;simp only[yi] at h;exact h
def zxJ(x:Fr):Nat->Value
 | 0=>.int .i64 x.p
 | 1=>.int .i64 x.o
 | 2=>.int .i64 x.m
 | 3=>.int .i64 x.t
 | _=>.bool x.g
def frF(L:List Fr)(m:Nat):Value:=zxJ (fr L (m / 5)) (m % 5)
theorem zdx(L:List Fr)(i j:Nat)(D:j<5):frF L (i*5+j)=zxJ (fr L i) j:=by
 unfold frF;rw[show (i*5+j) % 5=j by omega,show (i*5+j) / 5=i by omega]
theorem zgS{L M:List Fr}{m:Nat}(h:fr L (m / 5)=fr M (m / 5)):frF L m=frF M m:=by
 unfold frF;rw[h]
theorem zyd(L:List Fr)(m:Nat):(frF L m).oneCell' = true:=by
 unfold frF zxJ
 split <;> rfl
theorem row_of{w:World}{g t:Nat}{X:List Value}(h:w.heap[g]?=some (.cells X.toArray t (0,0))):w.rowIs g t X.length (fun i=>X.getD i (.bool false)) :=
 ⟨X.toArray,h,by simp,fun i hi=>by simp[hi]⟩
theorem zhy{w:World}{g N:Nat}{F:Nat->Value}{L:List Fr}(h:w.rowIs g 65 N F)(hl:L.length*5<=N)(D:∀ m,m<L.length*5->F m=frF L m):zaS w (some ⟨g,0,none⟩) L:=fun i hi=>by
 have hc:∀ j,j<5->w.cell? ⟨g,0+i*5+j,none⟩=some (frF L (i*5+j)):=fun j E=>by
  rw[yz,h.cell (by omega),D _ (by omega)]
 refine⟨g,0,rfl,?_,?_,?_,?_,?_⟩
 ·have:=hc 0 (by omega);rwa [zdx L i 0 (by omega)] at this
 ·have:=hc 1 (by omega);rwa [zdx L i 1 (by omega)] at this
 ·have:=hc 2 (by omega);rwa [zdx L i 2 (by omega)] at this
 ·have:=hc 3 (by omega);rwa [zdx L i 3 (by omega)] at this
 ·have:=hc 4 (by omega);rwa [zdx L i 4 (by omega)] at this
def zbA(L:List Fr):List Value:=(List.range (L.length*5)).map (frF L)
theorem zdY(L:List Fr):(zbA L).length=L.length*5:=by unfold zbA;simp
theorem zhv(L:List Fr):∀ v ∈ zbA L,v.oneCell' = true:=fun v D=>by
 unfold zbA at D;obtain⟨m,_,rfl⟩:=List.mem_map.1 D;exact zyd L m
theorem zaS.src{w:World}{b o:Nat}{L:List Fr}(h:zaS w (some ⟨b,o,none⟩) L):∀ j v,(zbA L)[j]?=some v->w.cell? ((⟨b,o,none⟩:Addr).add j)=some v:=fun j v E=>by
 unfold zbA at E;rw[List.getElem?_map] at E
 have F:j<L.length*5:=by
  rcases Nat.lt_or_ge j (L.length*5) with h|h
  ·exact h
  ·rw[List.getElem?_eq_none (by simpa using h)] at E;cases E
 rw[List.getElem?_range F] at E;have I:frF L j=v:=by simpa using E
 rw[Addr.add_lit,<- I];obtain⟨J,M,e,c0,c1,c2,c3,c4⟩:=h (j / 5) (by omega);cases e;have hs:j % 5=0\/j % 5=1\/j % 5=2\/j % 5=3\/j % 5=4:=by omega
 rcases hs with e|e|e|e|e
 ·have D:j=j / 5*5+0:=by omega
  rw[D,zdx L (j / 5) 0 (by omega),<- D,show o+j=o+j / 5*5 by omega];exact c0
 ·have D:j=j / 5*5+1:=by omega
  rw[D,zdx L (j / 5) 1 (by omega),<- D,show o+j=o+j / 5*5+1 by omega];exact c1
 ·have D:j=j / 5*5+2:=by omega
  rw[D,zdx L (j / 5) 2 (by omega),<- D,show o+j=o+j / 5*5+2 by omega];exact c2
 ·have D:j=j / 5*5+3:=by omega
  rw[D,zdx L (j / 5) 3 (by omega),<- D,show o+j=o+j / 5*5+3 by omega];exact c3
 ·have D:j=j / 5*5+4:=by omega
  rw[D,zdx L (j / 5) 4 (by omega),<- D,show o+j=o+j / 5*5+4 by omega];exact c4
theorem zky{w:World}{g N:Nat}{L:List Fr}(hg:w.heap[g]?=some (.cells (zbA L++(madeCells zeu N).toList.drop (zbA L).length).toArray 65 (0,0)))(hl:L.length*5<=N):∃ F,w.rowIs g 65 N F/\∀ m,m<L.length*5->F m=frF L m:=by
 have h:=row_of hg
 have hs:(zbA L++(madeCells zeu N).toList.drop (zbA L).length).length=N:=by
  simp[zdY,size_madeCells];omega
 rw[hs] at h;refine⟨_,h,fun m E=>?_⟩;have D:m<(zbA L).length:=by rw[zdY];exact E
 have e:(zbA L)[m]?=some (frF L m):=by
  unfold zbA;rw[List.getElem?_map,List.getElem?_range E];rfl
 rw[List.getD_eq_getElem?_getD,List.getElem?_append_left D,e];rfl
theorem zqU(a:Option Addr)(c:Nat)(L:List Fr)(k:Int)(w:World)(O:L.length<=9223372036854775807)(J:zaS w a L)(M:zcs L k≠0) :
  yL 138 #[.slice a L.length c,.int .i64 k] w fun e w' => e=.returned (.tuple #[.int .i64 0,.int .i64 (zcs L k)])/\Below w.heap.size w w' := by
 have D:Hid _:=zeA a c L k w O J;have T:decide (zcs L k=0)=false:=yE M;clear J;generalize zcs L k=E at *;generalize L.length=n at *
 go_enter Tryz.func138,Tryz.ntmps138
 go_wp2_with fail
 refine ye D.out ?_;rintro e w1 ⟨rfl,F⟩;have I:Hid (Below w.heap.size w w1):=F;clear F
 go_wp2_with fail
 exact yv (v:=.tuple #[.int .i64 0,.int .i64 E]) (by simp[results,Tryz.results138,go_sem]) rfl ⟨rfl,I.out⟩
theorem ztn(a:Option Addr)(c:Nat)(L:List Fr)(k:Int)(w:World)(hN:L.length<=8)(hL:zaS w a L)(hE:zcs L k=0) :
  yL 138 #[.slice a L.length c,.int .i64 k] w fun e w' => e=.returned (.tuple #[.int .i64 (zki L k:Nat),.int .i64 0])/\Below w.heap.size w w' := by
 have d:=zeA a c L k w (by omega) hL;rw[hE] at d;have D:Hid _:=d;have HL:Hid (zaS w a L):=hL;have ST:Hid (∀ j,j<L.length->zki (L.take (j+1)) k=zki (L.take j) k+(if (fr L j).p=k/\(fr L j).g=false then 1 else 0)):=fun j hj=>zwe k hj;have EN:Hid (zki (L.take L.length) k=zki L k):=(by rw[List.take_length]:zki (L.take L.length) k=zki L k);have Z:Hid (zki (L.take 0) k=0):=rfl;clear hL hE d;obtain⟨r,hr⟩:∃ r,zki L k=r:=⟨_,rfl⟩;rw[hr] at EN |-;clear hr;obtain⟨n,hn⟩:∃ n,L.length=n:=⟨_,rfl⟩;have HN:Hid (L.length=n):=hn;rw[hn] at hN ST EN D |-;clear hn
 go_enter Tryz.func138,Tryz.ntmps138
 go_wp2_with fail
 refine ye D.out ?_;rintro e w1 ⟨rfl,T⟩;have O:Hid (Below w.heap.size w w1):=T;clear T
 go_wp2_with fail
 go_loopg [7,18] n (fun g s7 s18 wr=>∃ (i q:Nat),i<=n/\n-i<=g/\s18=.int .i64 i/\s7=.int .i64 q/\q<=i/\Hid (Below w.heap.size w wr)/\Hid (zki (L.take i) k=q))
 case atStart=>exact⟨0,0,by omega,by omega,rfl,rfl,by omega,O,Z⟩
 case round =>
  obtain⟨i,q,hi,hg,rfl,rfl,hq,I,M⟩:=hrel;clear O;by_cases U:i<n
  ·have a6:(i:Int)<(n:Int):=(by omega);obtain⟨b,o,ea,c0,c1,c2,c3,c4⟩:=(HL.out.below I.out) i (by rw[HN.out];exact U);subst ea;have E:=ST.out i U;rw[M.out] at E;have q0:=yd _ _ c0;have J:Hid (∀ o1,Below w.heap.size w (wr.alloc o1)):=fun o1=>I.out.trans ((zaa wr o1).mono I.out.size);generalize fr L i=x at *;obtain⟨xp,xo,xm,xt,xg⟩:=x;dsimp only at c0 c1 c2 c3 c4 E;by_cases hp:xp=k
   ·subst hp;cases xg
    ·have F:Hid (zki (L.take (i+1)) xp=q+1):=(by rw[yb ⟨rfl,rfl⟩] at E;exact E);clear E
     go_wp2_with fail
     go_roundg (n-(i+1))
     case measure=>omega
     case rel=>exact⟨i+1,q+1,by omega,by omega,by go_num,by go_num,by omega,J.out _,F⟩
    ·have F:Hid (zki (L.take (i+1)) xp=q):=(by rw[ya (by simp)] at E;exact E);clear E
     go_wp2_with fail
     go_roundg (n-(i+1))
     case measure=>omega
     case rel=>exact⟨i+1,q,by omega,by omega,by go_num,rfl,by omega,J.out _,F⟩
   ·have F:Hid (zki (L.take (i+1)) k=q):=(by rw[ya (fun hh=>hp hh.1)] at E;exact E);have a7:decide (xp=k)=false:=yE hp;have a8:(xp == k)=false:=(by simp[hp]);clear E
    go_wp2_with fail
    go_roundg (n-(i+1))
    case measure=>omega
    case rel=>exact⟨i+1,q,by omega,by omega,by go_num,rfl,by omega,J.out _,F⟩
  ·have a5:i=n:=(by omega);subst a5;have F:Hid (q=r):=M.out.symm.trans EN.out;clear M
   go_wp2_with fail
   exact yv (v:=.tuple #[.int .i64 (q:Int),.int .i64 0]) (by simp[results,Tryz.results138,go_sem]) rfl ⟨by rw[F.out],I.out⟩
def zfh(L:List Fr)(ks:List Int):Int:=ks.foldl (fun e k=>if e=0 then zax L k else e) (zaO L)
def zsa(L:List Fr)(f t x:Int):Bool :=
 if x=1 then decide ((fr L f.toNat).o=(fr L t.toNat).o)
 else if x=2 then true
 else if x=3 then decide (bits .andNot .i64 2 (fr L f.toNat).m=0)
 else (!decide (t=f)) && inF L t f
def zdF(L:List Fr)(f t x:Int):Int :=
 if zfh L [f,t]≠0 then zfh L [f,t] else if ¬ (1<=x/\x<=5) then 3 else if zsa L f t x=true then 0 else 7
theorem zed(L:List Fr)(f t:Int):zfh L [f,t]=if zaO L≠0 then zaO L else if zax L f≠0 then zax L f else zax L t:=by
 unfold zfh;simp only[List.foldl];by_cases h1:zaO L=0
 ·rw[yb h1,ya (yI h1)];by_cases D:zax L f=0
  ·rw[yb D,ya (yI D)]
  ·rw[ya D,yb D]
 ·rw[ya h1,ya h1,yb h1]
theorem zfU{L:List Fr}{f t:Int}(h:zfh L [f,t]=0):zaO L=0/\zax L f=0/\zax L t=0:=by
 rw[zed] at h;by_cases h1:zaO L=0
 ·rw[ya (yI h1)] at h;by_cases D:zax L f=0
  ·rw[ya (yI D)] at h;exact⟨h1,D,h⟩
  ·rw[yb D] at h;exact absurd h D
 ·rw[yb h1] at h;exact absurd h h1
theorem zic{L:List Fr}{f t:Int}(h1:zaO L=0)(D:zax L f=0)(E:zax L t=0):zfh L [f,t]=0:=by
 rw[zed,ya (yI h1),ya (yI D),E]
def zhe(k:Int):Option (Bool × Int × Bool) :=
 if k=1 then some (true,0,false) else if k=2 then some (false,0,false) else if k=3 then some (false,2,false) else if k=4\/k=5 then some (false,0,true) else none
def zto(L:List Fr)(f t:Int)(D:Bool)(nd:Int)(E:Bool):Bool :=
 (!D || decide ((fr L f.toNat).o=(fr L t.toNat).o)) && (decide (bits .andNot .i64 nd (fr L f.toNat).m=0) && (!E ||((!decide (t=f)) && inF L t f)))
theorem znG{a:Int}(h0:0<=a)(D:a<=7):bits .andNot .i64 0 a=0:=zAO (P:=fun a=>bits .andNot .i64 0 a=0) (by decide +kernel) h0 D
theorem zjy{x:Int}:zhe x=none↔¬ (1<=x/\x<=5):=by
 unfold zhe;by_cases h1:x=1
 ·rw[yb h1];simp;omega
 ·rw[ya h1];by_cases D:x=2
  ·rw[yb D];simp;omega
  ·rw[ya D];by_cases E:x=3
   ·rw[yb E];simp;omega
   ·rw[ya E];by_cases F:x=4\/x=5
    ·rw[yb F];simp;omega
    ·rw[ya F];simp;omega
theorem zwg{L:List Fr}(R:zcl L){f t:Nat}(O:f<L.length){x:Int}{I J:Bool}{nd:Int}(h:zhe x=some (I,nd,J)):zto L f t I nd J=zsa L f t x:=by
 have D:=R.may O;unfold zhe at h;unfold zto zsa;rw[yi];by_cases h1:x=1
 ·rw[yb h1] at h;rw[yb h1];cases h;simp[znG D.1 D.2]
 ·rw[ya h1] at h;rw[ya h1];by_cases E:x=2
  ·rw[yb E] at h;rw[yb E];cases h;simp[znG D.1 D.2]
  ·rw[ya E] at h;rw[ya E];by_cases F:x=3
   ·rw[yb F] at h;rw[yb F];cases h;simp
   ·rw[ya F] at h;rw[ya F];by_cases M:x=4\/x=5
    ·rw[yb M] at h;cases h;simp[znG D.1 D.2]
    ·rw[ya M] at h;cases h
theorem zyu{L:List Fr}{f t x:Int}(h:zaO L≠0):zdF L f t x=zaO L:=by
 unfold zdF;rw[zed,yb h,yb h]
theorem zyv{L:List Fr}{f t x:Int}(h:zaO L=0)(D:zax L f≠0):zdF L f t x=zax L f:=by
 unfold zdF;rw[zed,ya (yI h),yb D,yb D]
theorem ztz{L:List Fr}{f t x:Int}(h:zaO L=0)(D:zax L f=0)(E:zax L t≠0):zdF L f t x=zax L t:=by
 unfold zdF;rw[zed,ya (yI h),ya (yI D),yb E]
theorem zwr{L:List Fr}{f t x:Int}(h:zaO L=0)(D:zax L f=0)(E:zax L t=0):zdF L f t x=if ¬ (1<=x/\x<=5) then 3 else if zsa L f t x=true then 0 else 7:=by
 unfold zdF;rw[zic h D E,ya (by decide)]
theorem Own.nil8{w:World}{B g:Nat}{S:List Nd}{kb kc:Nat->Nat}{k:Nat}(h:Own w B g S kb kc S.length)(hk:k<S.length)(x:Nd)(U:x.ks=[])(w3:World)
  (J:∀ b,g<=b->b<w.heap.size->w3.heap[b]?=((((((((w.setCell ⟨g,k*8,none⟩ (.bool x.u)).setCell ⟨g,k*8+1,none⟩ (.int .i64 x.n)).setCell ⟨g,k*8+2,none⟩ (.int .i64 x.t)).setCell ⟨g,k*8+3,none⟩ (.int .i64 x.m)).setCell ⟨g,k*8+4,none⟩ (.int .i64 x.p)).setCell ⟨g,k*8+5,none⟩ (.slice none 0 0)).setCell ⟨g,k*8+6,none⟩ (.int .i64 x.h)).setCell ⟨g,k*8+7,none⟩ (.bool x.c)).heap[b]?) :
  zah w3 (some ⟨g,0,none⟩) (S.set k x):=fun i hi=>by
 obtain⟨_,F,T,hN,hg,_⟩:=h;rw[List.length_set] at hi;have E:=(zpH T (k*8) (.bool x.u) (.int .i64 x.n) (.int .i64 x.t) (.int .i64 x.m) (.int .i64 x.p) (.slice none 0 0) (.int .i64 x.h) (.bool x.c)).of_block (J g (yj _) T.lt);refine⟨g,0,rfl,?_⟩;rw[yz,zcR S k i x hk];by_cases e:i=k
 ·subst e;rw[yb rfl];refine⟨?_,?_,?_,?_,?_,⟨none,0,?_,fun j O=>absurd O (by rw[U];exact yw _)⟩,?_,?_⟩
  ·rw[E.cell (by omega)];unfold zrI;rw[ya (by omega),ya (by omega),ya (by omega),ya (by omega),ya (by omega),ya (by omega),ya (by omega),yb rfl]
  ·rw[E.cell (by omega)];unfold zrI;rw[ya (by omega),ya (by omega),ya (by omega),ya (by omega),ya (by omega),ya (by omega),yb rfl]
  ·rw[E.cell (by omega)];unfold zrI;rw[ya (by omega),ya (by omega),ya (by omega),ya (by omega),ya (by omega),yb rfl]
  ·rw[E.cell (by omega)];unfold zrI;rw[ya (by omega),ya (by omega),ya (by omega),ya (by omega),yb rfl]
  ·rw[E.cell (by omega)];unfold zrI;rw[ya (by omega),ya (by omega),ya (by omega),yb rfl]
  ·rw[E.cell (by omega),U];unfold zrI;rw[ya (by omega),ya (by omega),yb rfl];rfl
  ·rw[E.cell (by omega)];unfold zrI;rw[ya (by omega),yb rfl]
  ·rw[E.cell (by omega)];unfold zrI;rw[yb rfl]
 ·rw[ya e];have M:=hg i hi;obtain⟨Z,e1,e2,e3,e4,e5,e6,e7,e8,a5,G,I,e9⟩:=hN i hi;have D:kb i≠g:=by omega
  have hG:=I.of_block (w' := w3) ((J (kb i) (Nat.le_of_lt M) I.lt).trans (by
   rw[ys _ _ _ _ D,ys _ _ _ _ D,ys _ _ _ _ D,ys _ _ _ _ D,ys _ _ _ _ D,ys _ _ _ _ D,ys _ _ _ _ D,ys _ _ _ _ D]))
  refine⟨?_,?_,?_,?_,?_,⟨some ⟨kb i,0,none⟩,kc i,?_,fun j O=>⟨kb i,0,rfl,?_⟩⟩,?_,?_⟩
  ·rw[E.cell (by omega),zbU (by omega),Z]
  ·rw[E.cell (by omega),zbU (by omega),e1]
  ·rw[E.cell (by omega),zbU (by omega),e2]
  ·rw[E.cell (by omega),zbU (by omega),e3]
  ·rw[E.cell (by omega),zbU (by omega),e4]
  ·rw[E.cell (by omega),zbU (by omega),e5]
  ·rw[yz,hG.cell (by omega),e9 j O]
  ·rw[E.cell (by omega),zbU (by omega),e6]
  ·rw[E.cell (by omega),zbU (by omega),e7]
theorem zbT{w w1:World}{v:Value}{x y:Int}(D:Below (w.heap.size+1+1+1) (((w.alloc (.cells #[v] 43)).alloc (.cells #[.int .i64 x,.int .i64 y] 61)).alloc (.cells #[.slice none 0 0] 43)) w1) :
  w1.cell? ⟨w.heap.size,0,none⟩=some v/\w1.cell? ⟨w.heap.size+1,0,none⟩=some (.int .i64 x)/\w1.cell? ⟨w.heap.size+1,1,none⟩=some (.int .i64 y)/\w1.cell? ⟨w.heap.size+1+1,0,none⟩=some (.slice none 0 0)/\w1.frozen? ⟨w.heap.size+1+1,0,none⟩=false :=
 ⟨(D.cell (by simp;omega)).trans (by go_simp),(D.cell (by simp)).trans (by go_simp),(D.cell (by simp)).trans (by go_simp),(D.cell (by simp)).trans (by go_simp),(D.frozen (by simp)).trans (by go_simp)⟩
theorem zeD{B:Nat}{W w1 E:World}{a0 a1 a2 a3 a4 I J M:Value}(F:Below B W w1)(hs:B<=w1.heap.size)(D:Below (w1.heap.size+1) (w1.alloc (.cells #[a0,a1,a2,a3,a4,I,J,M] 57)) E) :
  Below B W E/\E.cell? ⟨w1.heap.size,0,none⟩=some a0/\E.cell? ⟨w1.heap.size,1,none⟩=some a1/\E.cell? ⟨w1.heap.size,2,none⟩=some a2/\E.cell? ⟨w1.heap.size,3,none⟩=some a3/\E.cell? ⟨w1.heap.size,4,none⟩=some a4/\E.cell? ⟨w1.heap.size,5,none⟩=some I/\E.cell? ⟨w1.heap.size,6,none⟩=some J/\E.cell? ⟨w1.heap.size,7,none⟩=some M :=
 ⟨(F.alloc hs _).trans (D.mono (by omega)),(D.cell (by simp)).trans (by go_simp),(D.cell (by simp)).trans (by go_simp),(D.cell (by simp)).trans (by go_simp),(D.cell (by simp)).trans (by go_simp),(D.cell (by simp)).trans (by go_simp),(D.cell (by simp)).trans (by go_simp),(D.cell (by simp)).trans (by go_simp),(D.cell (by simp)).trans (by go_simp)⟩
theorem zvE(a:Option Addr)(c:Nat)(S:List Nd)(p u E:Int)(w:World)(T:S.length<=9223372036854775807)(M:Big S)(U:zah w a S)(O:zaC S p u=E)(I:E≠0) :
  yL 167 #[.agg #[.slice a S.length c],.agg #[.int .i64 p,.int .i64 u]] w fun e w' => e=.returned (.tuple #[.agg #[.slice none 0 0],.int .i64 E])/\Below w.heap.size w w' := by
 have Z:Hid (∀ W,zah W a S->Calls _ _ _ _ _):=fun W hW=>ziB a c S p u E W T M hW O I;have HS:Hid (zah w a S):=U;have hz:(E == 0)=false:=by simp[I]
 clear U O M T;generalize S.length=n at *
 go_enter Tryz.func167,Tryz.ntmps167
 go_wp2_with (go_at_call 14;refine(Z.out _ (HS.out.below (zas _ _ _ _))).mono ?_;rintro e w1 ⟨rfl,D⟩;simp only[yr] at D;obtain⟨l0,l1,l2,l3,z3⟩:=zbT D;have J:=D.size;simp only[yr] at J;have q0:w.heap.size<w1.heap.size:=(by omega);have q1:w.heap.size+1<w1.heap.size:=(by omega);have q2:w.heap.size+1+1<w1.heap.size:=(by omega))
 refine yv (v:=.tuple #[.agg #[.slice none 0 0],.int .i64 E]) (by simp only[results,Tryz.results167];go_simp) rfl ⟨rfl,?_⟩;have F:Below w.heap.size w w1:=(zas _ _ _ _).trans (D.mono (by omega))
 first|exact(F.setCell (by simp;omega) _).alloc (by simp;omega) _|exact(F.alloc (by omega) _).setCell (by simp;omega) _|exact F.setCell (by simp;omega) _
theorem zsN(a:Option Addr)(c:Nat)(S:List Nd)(k:Nat)(u:Int)(w:World)(hN:S.length<=9223372036854775807)(hB:Big S)(hS:zah w a S)(hk:k<S.length)(hF:zaC S k u=0)(hK:(nd S k).ks.length<=1000000)(hT:¬ zfX S k) :
  yL 167 #[.agg #[.slice a S.length c],.agg #[.int .i64 k,.int .i64 u]] w fun e w' => e=.returned (.tuple #[.agg #[.slice none 0 0],.int .i64 6])/\Below w.heap.size w w' := by
 have D1:Hid (∀ W,zah W a S->Calls _ _ _ _ _):=fun W hW=>find_ok a c S k u W (by omega) hB hW hk hF hK;obtain⟨r,hr⟩:∃ r,zak (nd S k)=r:=⟨_,rfl⟩;obtain⟨b0,a9⟩:∃ b,zfj S k=b:=⟨_,rfl⟩;have d2:=fun(v:Value) W=>zdR (nd S k) v W;rw[show (if (nd S k).h = -1 then (nd S k).p else (nd S k).h)=r from hr] at d2;have D2:Hid _:=d2;have d3:=fun W hW=>zee a c S (k:Int) W (by omega) hW (by omega);rw[a9] at d3;have D3:Hid _:=d3;have HS:Hid (zah w a S):=hS
 have b1:r≠-1\/(r = -1/\(nd S k).ks.length≠0)\/(r = -1/\(nd S k).ks.length=0/\b0=true):=by
  unfold zfX at hT;rw[hr,a9] at hT;by_cases h1:r = -1
  ·by_cases h2:(nd S k).ks=[]
   ·refine Or.inr (Or.inr ⟨h1,by rw[h2];rfl,?_⟩)
    cases b0 with
    | true=>rfl
    | false=>exact absurd ⟨h1,h2,rfl⟩ hT
   ·refine Or.inr (Or.inl ⟨h1,fun h=>h2 (List.length_eq_zero_iff.1 h)⟩)
  ·exact Or.inl h1
 clear hS d2 d3 hF hB hT hr a9;generalize nd S k=x at *;obtain⟨xu,xn,xt,xm,xp,b2,xh,xc⟩:=x;dsimp only at *;generalize b2.length=L at *;generalize S.length=n at *;rcases b1 with h1 |⟨rfl,h2⟩ |⟨rfl,rfl,rfl⟩
 ·have hz:(r == -1)=false:=by simp[h1]
  go_enter Tryz.func167,Tryz.ntmps167
  go_wp2_with (go_at_call 14;refine(D1.out _ (HS.out.below (zas _ _ _ _))).mono ?_;rintro e w1 ⟨kg,rfl,D,U⟩;clear U;simp only[yr] at D;obtain⟨Z,l1,l2,l3,z3⟩:=zbT D;have J:=D.size;simp only[yr] at J;have q0:w.heap.size<w1.heap.size:=(by omega);have q1:w.heap.size+1<w1.heap.size:=(by omega);have q2:w.heap.size+1+1<w1.heap.size:=(by omega))
  refine(D2.out _ _).mono ?_;rintro e w2 ⟨rfl,F⟩;simp only[yr] at F;obtain⟨E,n0,n1,n2,n3,n4,n5,n6,n7⟩:=zeD D J F;have O:=F.size;simp only[yr] at O;clear Z l1 l2 l3 z3;obtain⟨Z,l1,l2,l3,z3⟩:=zbT E;have I:Hid (Below w.heap.size w w2):=(zas _ _ _ _).trans (E.mono (by omega));have a8:Hid _:=D;have a5:Hid _:=F;have q3:w1.heap.size<w2.heap.size:=by omega
  clear D F E
  go_wp2
  refine yv (v:=.tuple #[.agg #[.slice none 0 0],.int .i64 6]) (by simp only[results,Tryz.results167];go_simp) rfl ⟨rfl,?_⟩
  first|exact I.out.setCell (by simp;omega) _|exact(I.out.setCell (by simp;omega) _).drew|exact(I.out.alloc (by simp;omega) _).setCell (by simp;omega) _|exact(I.out.setCell (by simp;omega) _).alloc (by simp;omega) _
 ·have hz:decide ((0:Int)<(L:Int))=true:=yF (by omega);have b5:(0:Int)<(L:Int):=by omega
  go_enter Tryz.func167,Tryz.ntmps167
  go_wp2_with (go_at_call 14;refine(D1.out _ (HS.out.below (zas _ _ _ _))).mono ?_;rintro e w1 ⟨kg,rfl,D,U⟩;clear U;simp only[yr] at D;obtain⟨Z,l1,l2,l3,z3⟩:=zbT D;have J:=D.size;simp only[yr] at J;have q0:w.heap.size<w1.heap.size:=(by omega);have q1:w.heap.size+1<w1.heap.size:=(by omega);have q2:w.heap.size+1+1<w1.heap.size:=(by omega))
  refine(D2.out _ _).mono ?_;rintro e w2 ⟨rfl,F⟩;simp only[yr] at F;obtain⟨E,n0,n1,n2,n3,n4,n5,n6,n7⟩:=zeD D J F;have O:=F.size;simp only[yr] at O;clear Z l1 l2 l3 z3;obtain⟨Z,l1,l2,l3,z3⟩:=zbT E;have I:Hid (Below w.heap.size w w2):=(zas _ _ _ _).trans (E.mono (by omega));have a8:Hid _:=D;have a5:Hid _:=F;have q3:w1.heap.size<w2.heap.size:=by omega
  clear D F E
  go_wp2
  refine yv (v:=.tuple #[.agg #[.slice none 0 0],.int .i64 6]) (by simp only[results,Tryz.results167];go_simp) rfl ⟨rfl,?_⟩
  first|exact I.out.setCell (by simp;omega) _|exact(I.out.setCell (by simp;omega) _).drew|exact(I.out.alloc (by simp;omega) _).setCell (by simp;omega) _|exact(I.out.setCell (by simp;omega) _).alloc (by simp;omega) _
 ·go_enter Tryz.func167,Tryz.ntmps167
  go_wp2_with (go_at_call 14;refine(D1.out _ (HS.out.below (zas _ _ _ _))).mono ?_;rintro e w1 ⟨kg,rfl,D,U⟩;clear U;simp only[yr] at D;obtain⟨Z,l1,l2,l3,z3⟩:=zbT D;have J:=D.size;simp only[yr] at J;have q0:w.heap.size<w1.heap.size:=(by omega);have q1:w.heap.size+1<w1.heap.size:=(by omega);have q2:w.heap.size+1+1<w1.heap.size:=(by omega))
  refine(D2.out _ _).mono ?_;rintro e w2 ⟨rfl,F⟩;simp only[yr] at F;obtain⟨E,n0,n1,n2,n3,n4,n5,n6,n7⟩:=zeD D J F;have O:=F.size;simp only[yr] at O;clear Z l1 l2 l3 z3;obtain⟨Z,l1,l2,l3,z3⟩:=zbT E;have I:Hid (Below w.heap.size w w2):=(zas _ _ _ _).trans (E.mono (by omega));have a8:Hid _:=D;have a5:Hid _:=F;have q3:w1.heap.size<w2.heap.size:=by omega
  clear D F E
  go_wp2_with fail
  refine(D3.out _ (HS.out.below I.out)).mono ?_;rintro e w3 ⟨rfl,a6⟩;have b4:=a6.size;have M:Hid (Below w.heap.size w w3):=I.out.trans (a6.mono (by have:=I.out.size;omega));have T:=a5.out.trans (a6.mono O);clear Z l1 l2 l3 z3 n0 n1 n2 n3 n4 n5 n6 n7 a6 a5;obtain⟨a7,n0,n1,n2,n3,n4,n5,n6,n7⟩:=zeD a8.out J T;obtain⟨Z,l1,l2,l3,z3⟩:=zbT a7;have r1:w1.heap.size<w3.heap.size:=by omega
  have r2:w.heap.size<w3.heap.size:=by omega
  have r3:w.heap.size+1<w3.heap.size:=by omega
  have r4:w.heap.size+1+1<w3.heap.size:=by omega
  have b3:Hid _:=T;clear a7 T
  go_wp2
  refine yv (v:=.tuple #[.agg #[.slice none 0 0],.int .i64 6]) (by simp only[results,Tryz.results167];go_simp) rfl ⟨rfl,?_⟩
  first|exact M.out.setCell (by simp;omega) _|exact(M.out.setCell (by simp;omega) _).drew|exact(M.out.alloc (by simp;omega) _).setCell (by simp;omega) _|exact(M.out.setCell (by simp;omega) _).alloc (by simp;omega) _
end Go.Proofs.YtcbcpomacdngmaaGreat
