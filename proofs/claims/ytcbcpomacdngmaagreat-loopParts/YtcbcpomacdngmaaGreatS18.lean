/-
  x
-/
import Derived.Test.YtcbcpomacdngmaaGreatS17
import Derived.Maps.OwnSet
import Derived.Maps.OwnOps
import Derived.Maps.Views
import Derived.Maps.AppendAt
namespace Go.Proofs.YtcbcpomacdngmaaGreat
set_option maxRecDepth 100000
set_option maxHeartbeats 4000000
set_option linter.unusedVariables false
open Go.ChangeShapes Go.WideShapes Go.RowKit
def zBt(v:Value):Option (DataW Value × List MemPlace):=some (.held v,[])
def zcy(P:Program)(E:TypeId)(w:World)(b n:Nat)(f:Lit->Option Value):Prop :=
 ∃ D:DataW Value,w.ownsMap P E zBt b n D/\Maps.IsMap D/\∀ kl,WideAt.IsKeyLit kl->Maps.has D kl=(f kl).isSome/\∀ v,f kl=some v->∀ z,D.atKey kl z=.held v
theorem zcy.made(P:Program)(D:TypeId)(w:World):zcy P D (w.alloc (.map #[] 0)) w.heap.size 0 (fun _=>none) :=
 ⟨.map [],World.ownsMap_made w _ _ _,Maps.isMap_empty,fun _ _=>⟨rfl,fun _ h=>by cases h⟩⟩
theorem zcy.lt{P:Program}{D:TypeId}{w:World}{b n:Nat}{f:Lit->Option Value}(h:zcy P D w b n f):b<w.heap.size:=let ⟨_,h1,_⟩:=h;h1.lt
theorem zcy.kept{P:Program}{E:TypeId}{w w' : World}{b n:Nat}{f:Lit->Option Value}(h:zcy P E w b n f)(e:w'.heap[b]?=w.heap[b]?):zcy P E w' b n f:=by
 obtain⟨D,⟨I,clock,O,F,hs,M⟩,J⟩:=h;exact⟨D,⟨I,clock,e.trans O,F,hs,M⟩,J⟩
theorem zcy.mono{P:Program}{E:TypeId}{w:World}{b n F:Nat}{f:Lit->Option Value}(h:zcy P E w b n f)(hn:n<=F):zcy P E w b F f:=let ⟨D,h1,h2⟩:=h;⟨D,h1.mono hn,h2⟩
theorem zcy.ne{P:Program}{J:TypeId}{w:World}{b n E t:Nat}{f:Lit->Option Value}{M:Array Value}{z:Nat × Nat}(h:zcy P J w b n f)(e:w.heap[E]?=some (.cells M t z)):E≠b:=by
 obtain⟨D,⟨O,clock,F,_⟩,_⟩:=h;intro I;subst I;rw[e] at F;cases F
theorem zcy.congr{P:Program}{F:TypeId}{w:World}{b n:Nat}{f g:Lit->Option Value}(h:zcy P F w b n f)(e:∀ kl,WideAt.IsKeyLit kl->f kl=g kl):zcy P F w b n g:=by
 obtain⟨D,h1,I,J⟩:=h;exact⟨D,h1,I,fun kl E=>by rw[<- e kl E];exact J kl E⟩
theorem zcy.look_ok{P:Program}{J:TypeId}{w:World}{b n:Nat}{f:Lit->Option Value}(h:zcy P J w b n f)(K:Maps.Keyed P J){t e:TypeId}(Z:P.underlying t=some (.map J e)){z:Value}(hz:(zeroValue e).run P w=.ok z w)
  {key:Value} {kl:Lit} (F:keyOf P J key=some kl) (U:WideAt.IsKeyLit kl) :
  (Instr.lookup t (.map (some b)) key true).run P w=.ok (.tuple #[(f kl).getD z,.bool (f kl).isSome]) w:=by
 obtain⟨D,h1,_,T⟩:=h;obtain⟨v,ps,I,O⟩:=h1.look_ok K Z hz (zd:=.held z) (zp:=[]) rfl F;rw[I];obtain⟨M,h5⟩:=T kl U;have E:DataW.held v=D.atKey kl (.held z):=by unfold zBt at O;simp at O;exact O.1
 rw[M]
 cases hf:f kl with
 | none =>
  rw[hf] at M;rw[Maps.atKey_of_not_has M] at E;cases E;rfl
 | some y =>
  rw[h5 y hf] at E;cases E;rfl
theorem zcy.put{P:Program}{J:TypeId}{w:World}{b n:Nat}{f:Lit->Option Value}(h:zcy P J w b n f)(K:Maps.Keyed P J){t e:TypeId}(ht:P.underlying t=some (.map J e))(hn:n<maxLen)
  {key:Value} {kl:Lit} (F:keyOf P J key=some kl) (hk:WideAt.IsKeyLit kl) (v:Value) :
  ∃ w',(Instr.mapUpdate t (.map (some b)) key v).run P w=.ok () w' /\(∀ g:Lit->Option Value,g kl=some v->(∀ j,j≠kl->g j=f j)->zcy P J w' b (n+1) g)/\w.grownBy w' (some b):=by
 obtain⟨D,h1,O,Z⟩:=h;obtain⟨w', I,h4,h5⟩:=h1.update K ht hn F (val:=v) (d:=.held v) (ps:=[]) rfl;refine⟨w', I,fun g T U=>⟨_,h4,O.put _ _,fun j M=>?_⟩,h5⟩;by_cases e:j=kl
 ·subst e;rw[T];exact⟨Maps.has_put_same O M _,fun v' E z=>by cases E;exact Maps.atKey_put_same O M _ _⟩
 ·rw[U j e,Maps.has_put_other e];exact⟨(Z j M).1,fun v' E z=>by rw[Maps.atKey_put_other e];exact(Z j M).2 v' E z⟩
theorem ziG:(Tryz.prog.info? 3).map (fun i=>(i.zero,i.size,i.bytes))=some (some (.int .i64 0),1,8):=by kernel_rfl
theorem zxt(w:World):(zeroValue 3).run Tryz.prog w=.ok (.int .i64 0) w:=by kernel_rfl
def lk(T:List Int):Lit->Option Value
 | .int .i64 k=>if k ∈ T then some (.int .i64 (at1 T k)) else none
 | _=>none
theorem ztD(T:List Int)(k:Int):lk T (.int .i64 k)=if k ∈ T then some (.int .i64 (at1 T k)) else none:=rfl
theorem zAa{T:List Int}{k:Int}(h:k ∉ T):lk (T++[k]) (.int .i64 k)=some (.int .i64 (T.length:Int)):=by
 rw[ztD,yb (by simp),zsr h]
theorem zAb{T:List Int}{k:Int}(j:Lit)(h:j≠.int .i64 k):lk (T++[k]) j=lk T j:=by
 unfold lk;split
 ·rename_i x;have E:x≠k:=fun e=>h (by rw[e]);by_cases D:x ∈ T
  ·rw[yb (by simp[D]),yb D,znR D]
  ·rw[ya (by simp[D,E]),ya D]
 ·rfl
structure zis (w:World) (B bm bt mb n:Nat) (v:Value) (T:List Int):Prop where
 bmE:w.heap[bm]?=some (.cells #[.map (some mb)] 220 (0,0))
 btE:w.heap[bt]?=some (.cells #[v] 48 (0,0))
 mp:zcy Tryz.prog 3 w mb n (lk T)
 own:w.ownsRow B 3 1 v T.length (T.map (Value.int .i64))
def zgg(D E:Nat)(v:Value):Nat->Prop:=fun j=>j=D\/j=E\/v.ownBlock=some j
structure zhq (X:Nat->Prop) (w w' : World):Prop where
 os:w'.os=w.os
 tape:w'.tape=w.tape
 output:w'.output=w.output
 size:w.heap.size<=w'.heap.size
 block:∀ k,k<w.heap.size->¬ X k->w'.heap[k]?=w.heap[k]?
theorem zhq.refl(X:Nat->Prop)(w:World):zhq X w w:=⟨rfl,rfl,rfl,yj _,fun _ _ _=>rfl⟩
theorem zhq.of_below{X:Nat->Prop}{w w' : World}(h:Below w.heap.size w w'):zhq X w w' :=⟨h.os,h.tape,h.output,h.size,fun k D _=>h.block k D⟩
theorem zhq.below{X:Nat->Prop}{w w' : World}(h:zhq X w w'){B:Nat}(F:B<=w.heap.size)(D:∀ k,X k->B<=k):Below B w w' :=
 ⟨h.os,h.tape,h.output,h.size,fun k I=>h.block k (by omega) (fun E=>by have:=D k E;omega)⟩
theorem zhq.trans{X Y:Nat->Prop}{a b c:World}(h:zhq X a b)(k:zhq Y b c)(D:∀ j,j<a.heap.size->Y j->X j):zhq X a c :=
 ⟨k.os.trans h.os,k.tape.trans h.tape,k.output.trans h.output,yH h.size k.size,fun i hi E=>(k.block i (yz hi h.size) (fun F=>E (D i hi F))).trans (h.block i hi E)⟩
def Later(w:World)(v D:Value):Prop:=D.ownBlock=v.ownBlock\/∃ j,D.ownBlock=some j/\w.heap.size<=j
theorem zxD{k:Int}(h:(Lit.int .i64 k).wf=true):keyOf Tryz.prog 3 (.int .i64 k)=some (.int .i64 k):=Maps.keyOf_int_mk Tryz.underlying3 h
theorem zeL(w:World)(D o:Nat)(v:Value){X:Nat->Prop}(E:X D):zhq X w (w.setCell ⟨D,o,none⟩ v):=⟨rfl,rfl,rfl,by simp[World.setCell],fun k _ F=>yv _ _ _ _ (fun e=>F (by rw[e];exact E))⟩
theorem zmO{w w' : World}{r:Option Nat}(h:w.grownBy w' r){X:Nat->Prop}(D:∀ j,r=some j->X j):zhq X w w' :=⟨h.os,h.tape,h.output,h.size,fun k E F=>h.block k E (fun e=>F (D k e.symm))⟩
theorem zmp(B M D F n:Nat)(v:Value)(T:List Int)(k:Int)(w:World)(h:zis w B M D F n v T)(hk:(Lit.int .i64 k).wf=true)(hn:n<100000)(hT:T.length<100000)(hB:B<=w.heap.size) :
  yM 180 #[.int .i64 k,.pointer (some ⟨M,0,none⟩),.pointer (some ⟨D,0,none⟩)] w fun e w' => ∃ v', e=.returned (.int .i64 (at1 (bring T k) k))/\zis w' B M D F (n+1) v' (bring T k)/\Later w v v' /\ zhq (zgg D F v) w w' := by
 obtain⟨i0,b7,b9,c6,c7⟩:=info_parts ziG;have c1:=zaJ h.bmE;have c2:=zaJ h.btE;obtain⟨pa,pc,hv,_⟩:=zfP h.own;have I:=h.mp.look_ok (Maps.int_keyed Tryz.underlying3) (t:=220) Tryz.underlying220 (zxt w) (zxD hk) trivial;by_cases hm:k ∈ T
 ·have e1:lk T (.int .i64 k)=some (.int .i64 (at1 T k)):=by rw[ztD,yb hm]
  have e2:bring T k=T:=by unfold bring;rw[yb hm]
  rw[e1] at I;dsimp only[Option.getD,Option.isSome] at I;rw[e2];have a5:Hid (zis w B M D F (n+1) v T):=⟨h.bmE,h.btE,h.mp.mono (by omega),h.own⟩;clear h e1 e2;generalize at1 T k=A at *
  go_enter Tryz.func180,Tryz.ntmps180
  go_wp2_with fail
  go_ret;exact⟨v,rfl,a5.out,Or.inl rfl,zhq.refl _ _⟩
 ·have e1:lk T (.int .i64 k)=none:=by rw[ztD,ya hm]
  have e2:bring T k=T++[k]:=by unfold bring;rw[ya hm]
  rw[e1] at I;dsimp only[Option.getD,Option.isSome] at I;rw[e2,zsr hm];have a7:=h.mp.ne h.bmE;have a8:=h.mp.ne h.btE;obtain⟨w1,b0,b3,O⟩:=h.mp.put (Maps.int_keyed Tryz.underlying3) (t:=220) Tryz.underlying220 (by unfold maxLen;omega) (zxD hk) trivial (.int .i64 (T.length:Int));have b5:Hid (zcy Tryz.prog 3 w1 F (n+1) (lk (T++[k]))):=b3 _ (zAa hm) (fun j U=>zAb j U);have x1:w1.heap[M]?=some (.cells #[.map (some F)] 220 (0,0)):=(O.block M (zaw h.bmE) (by intro e;exact a7 (Option.some.inj e))).trans h.bmE;have x2:w1.heap[D]?=some (.cells #[v] 48 (0,0)):=(O.block D (zaw h.btE) (by intro e;exact a8 (Option.some.inj e))).trans h.btE
  have Z:∀ j,v.ownBlock=some j->j≠F/\j≠D/\j≠M:=fun j U=>by
   obtain⟨_,ho⟩:=h.own;rcases ho with ⟨rfl,_⟩ |⟨g,cap,c8,rfl,_,h2,_⟩
   ·cases U
   ·cases U;refine⟨h.mp.ne h2,?_,?_⟩
    ·intro e;have e:g=D:=e;rw[e,h.btE] at h2;cases h2
    ·intro e;have e:g=M:=e;rw[e,h.bmE] at h2;cases h2
  have OW:Hid (∀ o1,(w1.alloc o1).ownsRow B 3 1 v T.length (T.map (Value.int .i64))):=fun o1=>zaK h.own (fun j U=>(Below.heap_alloc _ _ _ (yz (h.own.lt j U).2 O.size)).trans (O.block j (h.own.lt j U).2 (by intro e;exact(Z j U).1 (Option.some.inj e))));have NR:Hid (∀ j,v.ownBlock=some j->j≠F/\j≠D/\j≠M):=Z;have X1:Hid _:=x1;have X2:Hid _:=x2;have G1:Hid (w.grownBy w1 (some F)):=O;have LT:Hid (M<w.heap.size/\D<w.heap.size/\F<w.heap.size):=⟨zaw h.bmE,zaw h.btE,h.mp.lt⟩;have a9:Hid (M≠F/\D≠F/\M≠D):=⟨a7,a8,fun e=>by have h1:=h.bmE;rw[e,h.btE] at h1;cases h1⟩;have y1:=zaJ x1;have y2:=zaJ x2;have s1:=O.size;have b8:D<w1.heap.size:=zaw x2;clear h b3 Z x1 x2 e1 e2 O hm a7 a8;subst hv;obtain⟨l,hl⟩:∃ z,T.length=z:=⟨_,rfl⟩;have HL:Hid (T.length=l):=hl;rw[hl] at OW b0 hT y2 X2 NR c2 |-;clear hl
  go_enter Tryz.func180,Tryz.ntmps180
  go_wp2_with (at_builtin;refine wpList_append_own_at _ rfl _ _ 48 rfl B 3 i0 (.int .i64 0) 1 8 Tryz.underlying48 b7 b9 c6 c7 rfl (by decide) (.slice pa l pc) l (T.map (Value.int .i64)) rfl ?how ⟨w1.heap.size,0,none⟩ 1 1 [.int .i64 k] rfl rfl ?c1 ?c2 ?c3 ?c4 ?c5 ?_)
  case how=>exact OW.out _
  case c1=>exact cell_one_new _ _ _
  case c2=>intro u hu;simp at hu;subst hu;rfl
  case c3=>unfold maxLen;omega
  case c4=>omega
  case c5=>simp;omega
  intro v2 w2 J E _ a6;have e6:(T++[k]).map (Value.int .i64)=T.map (Value.int .i64)++[.int .i64 k]:=by simp
  rw[<- e6] at J;obtain⟨na,nc,b1,_⟩:=zfP J;have e5:(T++[k]).length=l+1:=by simp[HL.out]
  rw[e5] at b1;subst b1;have b2:w2.heap[D]?=some (.cells #[.slice pa l pc] 48 (0,0)):=(E.block D (by simp;omega) (by intro e;exact(NR.out D e.symm).2.1 rfl)).trans ((Below.heap_alloc _ _ _ b8).trans X2.out);have y3:=zaJ b2;have y4:=zaW (o:=0) b2;have s2:=E.size;simp only[yr] at s2;have z2:D<w2.heap.size:=by omega
  have a5:Hid (zis (w2.setCell ⟨D,0,none⟩ (.slice na (l+1) nc)) B M D F (n+1) (.slice na (l+1) nc) (T++[k])):=by
   have kp:∀ j,j<w1.heap.size->(Value.slice pa l pc).ownBlock≠some j->j≠D->(w2.setCell ⟨D,0,none⟩ (.slice na (l+1) nc)).heap[j]?=w1.heap[j]?:=fun j h1 h2 h3 =>
    (yv _ _ _ _ h3).trans ((E.block j (by simp;omega) (fun e=>h2 e.symm)).trans (Below.heap_alloc _ _ _ h1))
   have ob:=J.lt;refine⟨(kp M (by have:=LT.out.1;omega) (fun e=>(NR.out M e).2.2 rfl) a9.out.2.2).trans X1.out,ziT b2,b5.out.kept (kp F (by have:=LT.out.2.2;omega) (fun e=>(NR.out F e).1 rfl) (fun e=>a9.out.2.1 e.symm)),?_⟩;rw[e5];refine zaK J (fun j U=>yv _ _ _ _ ?_);intro e;have e:j=D:=e;subst e;rcases a6 with h1|h1
   ·rw[h1] at U;exact(NR.out j U).2.1 rfl
   ·rw[h1] at U;have:=Option.some.inj U
    first|omega|(simp only[yr] at this;omega)
  have b4:Hid (Later w (.slice pa l pc) (.slice na (l+1) nc)):=by
   rcases a6 with h1|h1
   ·exact Or.inl h1
   ·exact Or.inr ⟨_,h1,by first|omega|(simp;omega)⟩
  have b6:Hid (zhq (zgg D F (.slice pa l pc)) w (w2.setCell ⟨D,0,none⟩ (.slice na (l+1) nc))):=by
   refine zhq.trans (Y:=zgg D F (.slice pa l pc)) (zmO G1.out (fun j e=>Or.inr (Or.inl (Option.some.inj e).symm))) ?_ (fun _ _ h=>h);have g2:zhq (zgg D F (.slice pa l pc)) _ w2:=zmO E (fun j e=>Or.inr (Or.inr e));have g3:=zhq.trans (X:=zgg D F (.slice pa l pc)) (Y:=zgg D F (.slice pa l pc)) (zhq.of_below (zaa w1 _)) g2 (fun _ _ h=>h);exact zhq.trans (Y:=zgg D F (.slice pa l pc)) g3 (zeL _ _ _ _ (Or.inl rfl)) (fun _ _ h=>h)
  clear J E a6 b2 e5 e6
  go_wp2_with fail
  go_ret;exact⟨_,rfl,a5.out,b4.out,b6.out⟩
def zfn(L:List Fr)(ks:List Int):Int:=ks.foldl (fun e k=>if e=0 then zaz L k else e) (zaN L)
def zsq(L:List Fr)(f t x:Int):Bool :=
 if x=1 then decide ((fr L f.toNat).o=(fr L t.toNat).o)
 else if x=2 then true
 else if x=3 then decide (bits .andNot .i64 2 (fr L f.toNat).m=0)
 else (!decide (t=f)) && inF L t f
def zdN(L:List Fr)(f t x:Int):Int :=
 if zfn L [f,t]≠0 then zfn L [f,t] else if ¬ (1<=x/\x<=5) then 3 else if zsq L f t x=true then 0 else 7
theorem zed(L:List Fr)(f t:Int):zfn L [f,t]=if zaN L≠0 then zaN L else if zaz L f≠0 then zaz L f else zaz L t:=by
 unfold zfn;simp only[List.foldl];by_cases h1:zaN L=0
 ·rw[yb h1,ya (yJ h1)];by_cases D:zaz L f=0
  ·rw[yb D,ya (yJ D)]
  ·rw[ya D,yb D]
 ·rw[ya h1,ya h1,yb h1]
theorem zgc{L:List Fr}{f t:Int}(h:zfn L [f,t]=0):zaN L=0/\zaz L f=0/\zaz L t=0:=by
 rw[zed] at h;by_cases h1:zaN L=0
 ·rw[ya (yJ h1)] at h;by_cases D:zaz L f=0
  ·rw[ya (yJ D)] at h;exact⟨h1,D,h⟩
  ·rw[yb D] at h;exact absurd h D
 ·rw[yb h1] at h;exact absurd h h1
theorem zih{L:List Fr}{f t:Int}(h1:zaN L=0)(D:zaz L f=0)(E:zaz L t=0):zfn L [f,t]=0:=by
 rw[zed,ya (yJ h1),ya (yJ D),E]
def zhe(k:Int):Option (Bool × Int × Bool) :=
 if k=1 then some (true,0,false) else if k=2 then some (false,0,false) else if k=3 then some (false,2,false) else if k=4\/k=5 then some (false,0,true) else none
def ztC(L:List Fr)(f t:Int)(D:Bool)(nd:Int)(E:Bool):Bool :=
 (!D || decide ((fr L f.toNat).o=(fr L t.toNat).o)) && (decide (bits .andNot .i64 nd (fr L f.toNat).m=0) && (!E ||((!decide (t=f)) && inF L t f)))
theorem znQ{a:Int}(h0:0<=a)(D:a<=7):bits .andNot .i64 0 a=0:=zBs (P:=fun a=>bits .andNot .i64 0 a=0) (by decide +kernel) h0 D
theorem zjI{x:Int}:zhe x=none↔¬ (1<=x/\x<=5):=by
 unfold zhe;by_cases h1:x=1
 ·rw[yb h1];simp;omega
 ·rw[ya h1];by_cases D:x=2
  ·rw[yb D];simp;omega
  ·rw[ya D];by_cases E:x=3
   ·rw[yb E];simp;omega
   ·rw[ya E];by_cases F:x=4\/x=5
    ·rw[yb F];simp;omega
    ·rw[ya F];simp;omega
theorem zwx{L:List Fr}(R:zcm L){f t:Nat}(O:f<L.length){x:Int}{I J:Bool}{nd:Int}(h:zhe x=some (I,nd,J)):ztC L f t I nd J=zsq L f t x:=by
 have D:=R.may O;unfold zhe at h;unfold ztC zsq;rw[yi];by_cases h1:x=1
 ·rw[yb h1] at h;rw[yb h1];cases h;simp[znQ D.1 D.2]
 ·rw[ya h1] at h;rw[ya h1];by_cases E:x=2
  ·rw[yb E] at h;rw[yb E];cases h;simp[znQ D.1 D.2]
  ·rw[ya E] at h;rw[ya E];by_cases F:x=3
   ·rw[yb F] at h;rw[yb F];cases h;simp
   ·rw[ya F] at h;rw[ya F];by_cases M:x=4\/x=5
    ·rw[yb M] at h;cases h;simp[znQ D.1 D.2]
    ·rw[ya M] at h;cases h
theorem zyK{L:List Fr}{f t x:Int}(h:zaN L≠0):zdN L f t x=zaN L:=by
 unfold zdN;rw[zed,yb h,yb h]
theorem zyL{L:List Fr}{f t x:Int}(h:zaN L=0)(D:zaz L f≠0):zdN L f t x=zaz L f:=by
 unfold zdN;rw[zed,ya (yJ h),yb D,yb D]
theorem ztK{L:List Fr}{f t x:Int}(h:zaN L=0)(D:zaz L f=0)(E:zaz L t≠0):zdN L f t x=zaz L t:=by
 unfold zdN;rw[zed,ya (yJ h),ya (yJ D),yb E]
theorem zwH{L:List Fr}{f t x:Int}(h:zaN L=0)(D:zaz L f=0)(E:zaz L t=0):zdN L f t x=if ¬ (1<=x/\x<=5) then 3 else if zsq L f t x=true then 0 else 7:=by
 unfold zdN;rw[zih h D E,ya (by decide)]
def goE(L:List Fr)(k o:Int):Int:=if zcv L k≠0 then zcv L k else if ¬ (0<=o/\o<=9) then 2 else if 1000<=(fr L k.toNat).t then 1 else 0
def goX(L:List Fr)(k o:Int)(i:Nat):Fr:=if (i:Int)=k then { fr L i with o:=o,t:=(fr L i).t+1 } else { fr L i with g:=(fr L i).g || inF L i k }
def goF(L:List Fr)(k o:Int):List Fr:=(List.range L.length).map (goX L k o)
theorem zgU(L:List Fr)(k o:Int):(goF L k o).length=L.length:=by unfold goF;simp
theorem zvZ{L:List Fr}{k o:Int}{i:Nat}(h:i<L.length):fr (goF L k o) i=goX L k o i:=by
 rw[zgo (by rw[zgU];exact h)];unfold goF;simp
theorem ztj{L:List Fr}{k o:Int}(h:goE L k o=0):zcv L k=0/\(0<=o/\o<=9)/\(fr L k.toNat).t<1000:=by
 unfold goE at h;by_cases h1:zcv L k=0
 ·rw[ya (yJ h1)] at h;by_cases D:0<=o/\o<=9
  ·rw[ya (yJ D)] at h;by_cases E:1000<=(fr L k.toNat).t
   ·rw[yb E] at h;cases h
   ·exact⟨h1,D,by omega⟩
  ·rw[yb D] at h;cases h
 ·rw[yb h1] at h;exact absurd h h1
theorem zpC{L:List Fr}(R:zcm L){top:Int}:∀ (n:Nat) (k:Int),k<n->inF L k top=true->top<=k
 | 0,k,F,h=>by
  unfold inF at h;rw[zev (by omega)] at h;cases h
 | n+1,k,F,h=>by
  by_cases D:0<=k/\k<L.length
  ·obtain⟨i,rfl⟩:=Int.eq_ofNat_of_zero_le D.1;by_cases E:(i:Int)=top
   ·omega
   ·rw[zwi R (by omega) E] at h;have hl:=R.low (i:=i) (by omega);have:=zpC R n _ (by omega) h;omega
  ·unfold inF at h;rw[zev D] at h;cases h
theorem zzW{L:List Fr}(R:zcm L){k top:Int}(h:inF L k top=true):top<=k:=zpC R (k.toNat+1) k (by omega) h
theorem zgq{L:List Fr}{k:Nat}{o:Int}(h:k<L.length):fr (goF L k o) k={ fr L k with o:=o,t:=(fr L k).t+1 }:=by
 rw[zvZ h];unfold goX;rw[yb rfl]
theorem zdD{L:List Fr}{k:Nat}{o:Int}{i:Nat}(h:i<L.length)(D:i≠k):fr (goF L k o) i={ fr L i with g:=(fr L i).g || inF L i k }:=by
 rw[zvZ h];unfold goX;rw[ya (by omega)]
theorem zAZ{L:List Fr}{k o:Int}{i:Nat}(h:i<L.length):(fr (goF L k o) i).p=(fr L i).p:=by
 rw[zvZ h];unfold goX
 split <;> rfl
theorem zAO{L:List Fr}{k o:Int}{i:Nat}(h:i<L.length):(fr (goF L k o) i).m=(fr L i).m:=by
 rw[zvZ h];unfold goX
 split <;> rfl
theorem zpz{L:List Fr}{k o:Int}(h:goE L k o=0):zcm (goF L k o):=by
 obtain⟨h1,O,T⟩:=ztj h;obtain⟨R,q,rfl,U,hg⟩:=zfm h1;rw[yi] at T;refine⟨by rw[zgU];exact R.few,fun i hi=>?_⟩;rw[zgU] at hi;obtain⟨a1,a2,a3⟩:=zde.1 (R.ok i hi);rw[zde];refine⟨?_,?_,fun h0=>?_⟩
 ·unfold zgF at a1 |-;rw[zAZ hi];exact a1
 ·unfold zdP at a2 |-;rw[zAO hi];by_cases e:i=q
  ·subst e;rw[zgq hi];dsimp only;exact⟨O,a2.2.1,by omega⟩
  ·rw[zdD hi e];exact a2
 ·obtain⟨p,I,M,D⟩:=R.up hi h0;rw[zAZ hi,I,yi];unfold zgP;rw[zAO hi,zAO (by omega)];refine⟨D.1,?_⟩;by_cases e:i=q
  ·subst e;rw[zgq hi,zdD (by omega) (by omega)];dsimp only;right
   have E:(fr L p).g=false:=by
    rcases D.2 with hh|hh
    ·rw[hg] at hh;cases hh
    ·exact hh
   have F:inF L (p:Int) i=false:=by
    cases hc:inF L (p:Int) i with
    | false=>rfl
    | true=>exact absurd (zzW R (k:=(p:Int)) hc) (by omega)
   rw[E,F];rfl
  ·rw[zdD hi e];dsimp only;by_cases J:p=q
   ·subst J;left;rw[zwi R hi (by omega),I,ztr (by omega),Bool.or_true]
   ·rw[zdD (by omega) J,zwi R hi (by omega),I];dsimp only;rcases D.2 with hh|hh
    ·left;rw[hh,Bool.true_or]
    ·rw[hh]
     cases inF L (p:Int) q with
     | true=>left;rw[Bool.or_true]
     | false=>right;rfl
def SlB(W:World)(b:Nat):Prop:=∀ j v,W.cell? ⟨b,j,none⟩=some v->∃ a n c,v=.slice a n c
def zvi(b:Nat)(W D:World):Prop:=W.heap.size<=D.heap.size/\∀ k,k<W.heap.size->k≠b->D.heap[k]?=W.heap[k]?
theorem zvi.cell{b k o:Nat}{W D:World}{v:Value}(h:zvi b W D)(E:k≠b)(hc:W.cell? ⟨k,o,none⟩=some v):D.cell? ⟨k,o,none⟩=some v:=by
 have:=h.2 k (yd _ _ hc) E;unfold World.cell? at hc |-;dsimp only at hc |-;rw[this];exact hc
theorem SlB.ne{W:World}{b k o:Nat}{v:Value}(h:SlB W b)(hc:W.cell? ⟨k,o,none⟩=some v)(E:∀ a n c,v≠.slice a n c):k≠b:=fun e=>by
 subst e;obtain⟨a,n,c,D⟩:=h _ _ hc;exact E a n c D
theorem zaj.offB{W D:World}{b:Nat}{a:Option Addr}{l:List Int}(h:zaj W a l)(hs:SlB W b)(E:zvi b W D):zaj D a l:=fun i hi=>by
 obtain⟨k,o,e,hc⟩:=h i hi;exact⟨k,o,e,E.cell (hs.ne hc (fun _ _ _ h=>by cases h)) hc⟩
theorem zai.offB{W I:World}{b:Nat}{a:Option Addr}{S:List Nd}(h:zai W a S)(hs:SlB W b)(D:zvi b W I):zai I a S:=fun i hi=>by
 obtain⟨k,o,e,c0,c1,c2,c3,c4,⟨ka,kc,c5,F⟩,J,M⟩:=h i hi;have E:=hs.ne c0 (fun _ _ _ h=>by cases h);exact⟨k,o,e,D.cell E c0,D.cell E c1,D.cell E c2,D.cell E c3,D.cell E c4,⟨ka,kc,D.cell E c5,F.offB hs D⟩,D.cell E J,D.cell E M⟩
theorem zvi.set{W D:World}{b o:Nat}{v:Value}(h:zvi b W D):zvi b W (D.setCell ⟨b,o,none⟩ v):=⟨by simpa using h.1,fun k E hn=>(yv _ _ _ _ hn).trans (h.2 k E hn)⟩
theorem zvi.refl(b:Nat)(W:World):zvi b W W:=⟨yj _,fun _ _ _=>rfl⟩
theorem zaA{W D:World}{b:Nat}{o:Obj}(h:W.heap[b]?=some o)(E:Below W.heap.size W D):D.heap[b]?=some o:=(E.block b (zaw h)).trans h
theorem zAn(U:zpj){R:Rl}{p E:Int}(h1:zdl p=R)(T:zAP p=E)(W:World) :
  yM 28 #[.int .i64 p] W fun e w' => ∃ (D F I J:Option Addr) (d0 d1 d2 d3:Nat),e=.returned (.tuple #[.agg #[.slice D R.s.length d0,.slice F R.hs.length d1,.slice I R.i.length d2,.slice J R.t.length d3],.int .i64 E])/\Below W.heap.size W w' /\ zcZ w' ⟨D,F,I,J,d0,d1,d2,d3⟩ R:=by
 refine(U p W).mono ?_;rintro e w' ⟨⟨D,F,I,J,d0,d1,d2,d3⟩,M,Z,O⟩;rw[h1] at M O;rw[T] at M;exact⟨D,F,I,J,d0,d1,d2,d3,M,Z,O⟩
theorem zAt{W:World}{b t:Nat}{E v1 v2 F:Value}{f}(h:W.heap[b]?=some (.cells #[E,v1,v2,F] t f))(h0:∃ a n c,E=.slice a n c)(h1:∃ a n c,v1=.slice a n c)(I:∃ a n c,v2=.slice a n c)(J:∃ a n c,F=.slice a n c):SlB W b:=fun j v D=>by
 unfold World.cell? at D;dsimp only at D;rw[h] at D
 match j with
 | 0=>simp at D;rw[<- D];exact h0
 | 1=>simp at D;rw[<- D];exact h1
 | 2=>simp at D;rw[<- D];exact I
 | 3=>simp at D;rw[<- D];exact J
 | j+4=>simp at D
theorem zaS{W:World}{b t i:Nat}{X:Array Value}{v:Value}{f:Nat × Nat}(h:W.heap[b]?=some (.cells X t f)):(W.setCell ⟨b,i,none⟩ v).heap[b]?=some (.cells (X.setIfInBounds i v) t f):=by
 show (W.heap.modify b _)[b]?=_;rw[Array.getElem?_modify,yb rfl,h];rfl
theorem zcL{W:World}{b t:Nat}{I v1 v2 J u0 u1 u2 u3:Value}(h:W.heap[b]?=some (.cells #[I,v1,v2,J] t (0,0))):((((W.setCell ⟨b,0,none⟩ u0).setCell ⟨b,1,none⟩ u1).setCell ⟨b,2,none⟩ u2).setCell ⟨b,3,none⟩ u3).heap[b]?=some (.cells #[u0,u1,u2,u3] t (0,0)):=by
 have D:=zaS (i:=0) (v:=u0) h;have E:=zaS (i:=1) (v:=u1) D;have F:=zaS (i:=2) (v:=u2) E;exact zaS (i:=3) (v:=u3) F
theorem zcc(W:World)(t:Nat)(D v1 v2 E:Value):(W.alloc (.cells #[D,v1,v2,E] t)).heap[W.heap.size]?=some (.cells #[D,v1,v2,E] t (0,0)):=yL W _
theorem zak{W:World}{b t:Nat}{D v1 v2 E:Value}(h:W.heap[b]?=some (.cells #[D,v1,v2,E] t (0,0))):W.cell? ⟨b,0,none⟩=some D/\W.cell? ⟨b,1,none⟩=some v1/\W.cell? ⟨b,2,none⟩=some v2/\W.cell? ⟨b,3,none⟩=some E/\(∀ o,W.frozen? ⟨b,o,none⟩=false)/\b<W.heap.size :=
 ⟨by simp[World.cell?,h],by simp[World.cell?,h],by simp[World.cell?,h],by simp[World.cell?,h],fun o=>by simp[World.frozen?,h],zaw h⟩
theorem znS(a:Option Addr)(c:Nat)(S:List Nd)(p u E:Int)(cl:Bool)(w:World)(hN:S.length<=9223372036854775807)(Z:Big S)(hS:zai w a S)(hE:zaG S p u=E)(J:E≠0) :
  yM 193 #[.agg #[.slice a S.length c],.agg #[.int .i64 p,.int .i64 u],.bool cl] w fun e w' => e=.returned (.tuple #[.agg #[.slice none 0 0],.agg #[.int .i64 0,.int .i64 0],.int .i64 E])/\Below w.heap.size w w' := by
 have D0:Hid (∀ W,zai W a S->Calls _ _ _ _ _):=fun W hW=>ziC a c S p u E W hN Z hW hE J;have HS:Hid (zai w a S):=hS;have a5:(E == 0)=false:=by simp[J]
 clear hS hE Z hN;generalize S.length=n at *;have BW:Hid (∀ W,Below (w.heap.size+1+1+1+1) ((((w.alloc (.cells #[.slice a n c] 43)).alloc (.cells #[.int .i64 p,.int .i64 u] 61)).alloc (.cells #[.slice none 0 0] 43)).alloc (.cells #[.int .i64 0,.int .i64 0] 61)) W->Below w.heap.size w W):=fun W h=>(zaH _ _ _ _ _).trans (h.mono (by omega))
 go_enter Tryz.func193,Tryz.ntmps193
 go_wp2_with fail
 refine ye (D0.out _ (HS.out.below (zaH _ _ _ _ _))) ?_;rintro e M ⟨rfl,F⟩;simp only[yr] at F;have O:Hid (Below (w.heap.size+1+1+1+1) ((((w.alloc (.cells #[.slice a n c] 43)).alloc (.cells #[.int .i64 p,.int .i64 u] 61)).alloc (.cells #[.slice none 0 0] 43)).alloc (.cells #[.int .i64 0,.int .i64 0] 61)) M):=F;have U:=F.size;simp only[yr] at U;obtain⟨l0,l1,l2,l3,l4,l5,l6,l7⟩:=zez F;have q0:w.heap.size<M.heap.size:=by omega
 have q1:w.heap.size+1<M.heap.size:=by omega
 have q2:w.heap.size+1+1<M.heap.size:=by omega
 have q3:w.heap.size+1+1+1<M.heap.size:=by omega
 clear F;have I:Hid _:=O
 go_wp2
 refine yw (v:=.tuple #[.agg #[.slice none 0 0],.agg #[.int .i64 0,.int .i64 0],.int .i64 E]) (by simp only[results,Tryz.results193];go_simp) rfl ⟨rfl,?_⟩;have D:=BW.out _ I.out;have T:=I.out.size;simp only[yr] at T
 first
  | exact((D.setCell (by simp;omega) _).setCell (by simp;omega) _).setCell (by simp;omega) _
  | exact(((D.setCell (by simp;omega) _).setCell (by simp;omega) _).setCell (by simp;omega) _).drew
  | exact(((D.alloc (by omega) _).setCell (by simp;omega) _).setCell (by simp;omega) _).setCell (by simp;omega) _
  | exact(((D.setCell (by simp;omega) _).setCell (by simp;omega) _).setCell (by simp;omega) _).alloc (by simp;omega) _
  | exact((((D.alloc (by omega) _).alloc (by simp;omega) _).setCell (by simp;omega) _).setCell (by simp;omega) _).setCell (by simp;omega) _
  | exact((((D.setCell (by simp;omega) _).setCell (by simp;omega) _).setCell (by simp;omega) _).alloc (by simp;omega) _).alloc (by simp;omega) _
theorem znT(a:Option Addr)(c:Nat)(S:List Nd)(k:Nat)(u:Int)(cl:Bool)(w:World)(wf:WF S)(hS:zai w a S)(hk:k<S.length)(hE:zaG S k u=0)(hH:zfp S k=true) :
  yM 193 #[.agg #[.slice a S.length c],.agg #[.int .i64 (k:Int),.int .i64 u],.bool cl] w fun e w' => e=.returned (.tuple #[.agg #[.slice none 0 0],.agg #[.int .i64 0,.int .i64 0],.int .i64 6])/\Below w.heap.size w w' := by
 have hN:=wf.small;have D0:Hid (∀ W,zai W a S->Calls _ _ _ _ _):=fun W U=>find_ok a c S k u W (by omega) wf.big U hk hE (by have:=wf.kids_small hk;omega);have d1:=fun W U=>zee a c S (k:Int) W (by omega) U (by omega);rw[hH] at d1;have D1:Hid _:=d1;have HS:Hid (zai w a S):=hS;clear hS wf hE hH d1;obtain⟨x0,O⟩:∃ x,nd S k=x:=⟨_,rfl⟩;rw[O] at D0;clear O;generalize S.length=n at *;have BW:Hid (∀ W,Below (w.heap.size+1+1+1+1) ((((w.alloc (.cells #[.slice a n c] 43)).alloc (.cells #[.int .i64 (k:Int),.int .i64 u] 61)).alloc (.cells #[.slice none 0 0] 43)).alloc (.cells #[.int .i64 0,.int .i64 0] 61)) W->Below w.heap.size w W):=fun W h=>(zaH _ _ _ _ _).trans (h.mono (by omega))
 go_enter Tryz.func193,Tryz.ntmps193
 go_wp2_with fail
 refine ye (D0.out _ (HS.out.below (zaH _ _ _ _ _))) ?_;rintro e T ⟨fg,rfl,E,_⟩;simp only[yr] at E;have I:Hid (Below (w.heap.size+1+1+1+1) ((((w.alloc (.cells #[.slice a n c] 43)).alloc (.cells #[.int .i64 (k:Int),.int .i64 u] 61)).alloc (.cells #[.slice none 0 0] 43)).alloc (.cells #[.int .i64 0,.int .i64 0] 61)) T):=E;have a5:=E.size;simp only[yr] at a5;obtain⟨l0,l1,l2,l3,l4,l5,l6,l7⟩:=zez E;have q0:w.heap.size<T.heap.size:=by omega
 have q1:w.heap.size+1<T.heap.size:=by omega
 have q2:w.heap.size+1+1<T.heap.size:=by omega
 have q3:w.heap.size+1+1+1<T.heap.size:=by omega
 clear E
 go_wp2_with fail
 refine ye (D1.out _ (HS.out.below (BW.out _ (I.out.alloc (by omega) _)))) ?_;rintro e w3 ⟨rfl,F⟩;simp only[yr] at F;have J:Hid (Below (w.heap.size+1+1+1+1) ((((w.alloc (.cells #[.slice a n c] 43)).alloc (.cells #[.int .i64 (k:Int),.int .i64 u] 61)).alloc (.cells #[.slice none 0 0] 43)).alloc (.cells #[.int .i64 0,.int .i64 0] 61)) w3):=(I.out.alloc (by omega) _).trans (F.mono (by omega));have a6:=F.size;simp only[yr] at a6;clear F l0 l1 l2 l3 l4 l5 l6 l7 q0 q1 q2 q3;obtain⟨l0,l1,l2,l3,l4,l5,l6,l7⟩:=zez J.out;have q0:w.heap.size<w3.heap.size:=by omega
 have q1:w.heap.size+1<w3.heap.size:=by omega
 have q2:w.heap.size+1+1<w3.heap.size:=by omega
 have q3:w.heap.size+1+1+1<w3.heap.size:=by omega
 have M:Hid _:=J
 go_wp2
 refine yw (v:=.tuple #[.agg #[.slice none 0 0],.agg #[.int .i64 0,.int .i64 0],.int .i64 6]) (by simp only[results,Tryz.results193];go_simp) rfl ⟨rfl,?_⟩;have D:=BW.out _ M.out;have Z:=M.out.size;simp only[yr] at Z
 first
  | exact((D.setCell (by simp;omega) _).setCell (by simp;omega) _).setCell (by simp;omega) _
  | exact(((D.setCell (by simp;omega) _).setCell (by simp;omega) _).setCell (by simp;omega) _).drew
  | exact(((D.alloc (by omega) _).setCell (by simp;omega) _).setCell (by simp;omega) _).setCell (by simp;omega) _
  | exact(((D.setCell (by simp;omega) _).setCell (by simp;omega) _).setCell (by simp;omega) _).alloc (by simp;omega) _
  | exact((((D.alloc (by omega) _).alloc (by simp;omega) _).setCell (by simp;omega) _).setCell (by simp;omega) _).setCell (by simp;omega) _
  | exact((((D.setCell (by simp;omega) _).setCell (by simp;omega) _).setCell (by simp;omega) _).alloc (by simp;omega) _).alloc (by simp;omega) _
theorem znU(a:Option Addr)(c:Nat)(S:List Nd)(k:Nat)(u E:Int)(cl:Bool)(w:World)(wf:WF S)(hS:zai w a S)(hk:k<S.length)(hE:zaG S k u=0)(hH:zfp S k=false)(hM:zfr S 0=E)(Z:E≠0) :
  yM 193 #[.agg #[.slice a S.length c],.agg #[.int .i64 (k:Int),.int .i64 u],.bool cl] w fun e w' => e=.returned (.tuple #[.agg #[.slice none 0 0],.agg #[.int .i64 0,.int .i64 0],.int .i64 E])/\Below w.heap.size w w' := by
 have hN:=wf.small;have D0:Hid (∀ W,zai W a S->Calls _ _ _ _ _):=fun W hW=>find_ok a c S k u W (by omega) wf.big hW hk hE (by have:=wf.kids_small hk;omega);have d1:=fun W hW=>zee a c S (k:Int) W (by omega) hW (by omega);rw[hH] at d1;have D1:Hid _:=d1;have D2:Hid (∀ W,zai W a S->Calls _ _ _ _ _):=fun W hW=>zpI a c S 0 E W (by omega) wf.big hW hM Z;have HS:Hid (zai w a S):=hS;have b0:(E == 0)=false:=by simp[Z]
 clear hS wf hE hH d1 hM;obtain⟨x0,a5⟩:∃ x,nd S k=x:=⟨_,rfl⟩;rw[a5] at D0;clear a5;generalize S.length=n at *;have BW:Hid (∀ W,Below (w.heap.size+1+1+1+1) ((((w.alloc (.cells #[.slice a n c] 43)).alloc (.cells #[.int .i64 (k:Int),.int .i64 u] 61)).alloc (.cells #[.slice none 0 0] 43)).alloc (.cells #[.int .i64 0,.int .i64 0] 61)) W->Below w.heap.size w W):=fun W h=>(zaH _ _ _ _ _).trans (h.mono (by omega))
 go_enter Tryz.func193,Tryz.ntmps193
 go_wp2_with fail
 refine ye (D0.out _ (HS.out.below (zaH _ _ _ _ _))) ?_;rintro e w2 ⟨fg,rfl,F,_⟩;simp only[yr] at F;have O:Hid (Below (w.heap.size+1+1+1+1) ((((w.alloc (.cells #[.slice a n c] 43)).alloc (.cells #[.int .i64 (k:Int),.int .i64 u] 61)).alloc (.cells #[.slice none 0 0] 43)).alloc (.cells #[.int .i64 0,.int .i64 0] 61)) w2):=F;have a7:=F.size;simp only[yr] at a7;obtain⟨l0,l1,l2,l3,l4,l5,l6,l7⟩:=zez F;have q0:w.heap.size<w2.heap.size:=by omega
 have q1:w.heap.size+1<w2.heap.size:=by omega
 have q2:w.heap.size+1+1<w2.heap.size:=by omega
 have q3:w.heap.size+1+1+1<w2.heap.size:=by omega
 clear F
 go_wp2_with fail
 refine ye (D1.out _ (HS.out.below (BW.out _ (O.out.alloc (by omega) _)))) ?_;rintro e w3 ⟨rfl,I⟩;simp only[yr] at I;have J:Hid (Below (w.heap.size+1+1+1+1) ((((w.alloc (.cells #[.slice a n c] 43)).alloc (.cells #[.int .i64 (k:Int),.int .i64 u] 61)).alloc (.cells #[.slice none 0 0] 43)).alloc (.cells #[.int .i64 0,.int .i64 0] 61)) w3):=(O.out.alloc (by omega) _).trans (I.mono (by omega));have a8:=I.size;simp only[yr] at a8;clear I l0 l1 l2 l3 l4 l5 l6 l7 q0 q1 q2 q3;obtain⟨l0,l1,l2,l3,l4,l5,l6,l7⟩:=zez J.out;have q0:w.heap.size<w3.heap.size:=by omega
 have q1:w.heap.size+1<w3.heap.size:=by omega
 have q2:w.heap.size+1+1<w3.heap.size:=by omega
 have q3:w.heap.size+1+1+1<w3.heap.size:=by omega
 go_wp2_with fail
 refine ye (D2.out _ (HS.out.below (BW.out _ J.out))) ?_;rintro e w4 ⟨rfl,M⟩;have T:Hid (Below (w.heap.size+1+1+1+1) ((((w.alloc (.cells #[.slice a n c] 43)).alloc (.cells #[.int .i64 (k:Int),.int .i64 u] 61)).alloc (.cells #[.slice none 0 0] 43)).alloc (.cells #[.int .i64 0,.int .i64 0] 61)) w4):=J.out.trans (M.mono (by omega));have a9:=M.size;clear M l0 l1 l2 l3 l4 l5 l6 l7 q0 q1 q2 q3;obtain⟨l0,l1,l2,l3,l4,l5,l6,l7⟩:=zez T.out;have q0:w.heap.size<w4.heap.size:=by omega
 have q1:w.heap.size+1<w4.heap.size:=by omega
 have q2:w.heap.size+1+1<w4.heap.size:=by omega
 have q3:w.heap.size+1+1+1<w4.heap.size:=by omega
 have U:Hid _:=T
 go_wp2
 refine yw (v:=.tuple #[.agg #[.slice none 0 0],.agg #[.int .i64 0,.int .i64 0],.int .i64 E]) (by simp only[results,Tryz.results193];go_simp) rfl ⟨rfl,?_⟩;have D:=BW.out _ U.out;have a6:=U.out.size;simp only[yr] at a6
 first
  | exact((D.setCell (by simp;omega) _).setCell (by simp;omega) _).setCell (by simp;omega) _
  | exact(((D.setCell (by simp;omega) _).setCell (by simp;omega) _).setCell (by simp;omega) _).drew
  | exact(((D.alloc (by omega) _).setCell (by simp;omega) _).setCell (by simp;omega) _).setCell (by simp;omega) _
  | exact(((D.setCell (by simp;omega) _).setCell (by simp;omega) _).setCell (by simp;omega) _).alloc (by simp;omega) _
  | exact((((D.alloc (by omega) _).alloc (by simp;omega) _).setCell (by simp;omega) _).setCell (by simp;omega) _).setCell (by simp;omega) _
  | exact((((D.setCell (by simp;omega) _).setCell (by simp;omega) _).setCell (by simp;omega) _).alloc (by simp;omega) _).alloc (by simp;omega) _
end Go.Proofs.YtcbcpomacdngmaaGreat
