/-
  x
-/
import Derived.Test.YtcbcpomacdngmaaGreatQ19
import Derived.Maps.AppendAt
namespace Go.Proofs.YtcbcpomacdngmaaGreat
set_option maxRecDepth 100000
set_option maxHeartbeats 4000000
set_option linter.unusedVariables false
open Go.RowKit Go.ChangeShapes Go.WideShapes
theorem ziP:(Tryz.prog.info? 3).map (fun i=>(i.zero,i.size,i.bytes))=some (some (.int .i64 0),1,8):=by kernel_rfl
theorem zxG(w:World):(zeroValue 3).run Tryz.prog w=.ok (.int .i64 0) w:=by kernel_rfl
def lk(T:List Int):Lit->Option Value
 | .int .i64 k=>if k ∈ T then some (.int .i64 (at1 T k)) else none
 | _=>none
theorem ztW(T:List Int)(k:Int):lk T (.int .i64 k)=if k ∈ T then some (.int .i64 (at1 T k)) else none:=rfl
theorem zAo{T:List Int}{k:Int}(h:k ∉ T):lk (T++[k]) (.int .i64 k)=some (.int .i64 (T.length:Int)):=by
 rw[ztW,yd (by simp),zsH h]
theorem zAp{T:List Int}{k:Int}(j:Lit)(h:j≠.int .i64 k):lk (T++[k]) j=lk T j:=by
 unfold lk;split
 ·rename_i x;have E:x≠k:=fun e=>h (by rw[e]);by_cases D:x ∈ T
  ·rw[yd (by simp[D]),yd D,znZ D]
  ·rw[ya (by simp[D,E]),ya D]
 ·rfl
structure ziD (w:World) (B bm bt mb n:Nat) (v:Value) (T:List Int):Prop where
 bmE:w.heap[bm]?=some (.cells #[.map (some mb)] 220 (0,0))
 btE:w.heap[bt]?=some (.cells #[v] 48 (0,0))
 mp:zcB Tryz.prog 3 w mb n (lk T)
 own:w.ownsRow B 3 1 v T.length (T.map (Value.int .i64))
def zgp(D E:Nat)(v:Value):Nat->Prop:=fun j=>j=D\/j=E\/v.ownBlock=some j
structure zhB (X:Nat->Prop) (w w' : World):Prop where
 os:w'.os=w.os
 tape:w'.tape=w.tape
 output:w'.output=w.output
 size:w.heap.size<=w'.heap.size
 block:∀ k,k<w.heap.size->¬ X k->w'.heap[k]?=w.heap[k]?
theorem zhB.refl(X:Nat->Prop)(w:World):zhB X w w:=⟨rfl,rfl,rfl,yk _,fun _ _ _=>rfl⟩
theorem zhB.of_below{X:Nat->Prop}{w w' : World}(h:Below w.heap.size w w'):zhB X w w' :=⟨h.os,h.tape,h.output,h.size,fun k D _=>h.block k D⟩
theorem zhB.below{X:Nat->Prop}{w w' : World}(h:zhB X w w'){B:Nat}(F:B<=w.heap.size)(D:∀ k,X k->B<=k):Below B w w' :=
 ⟨h.os,h.tape,h.output,h.size,fun k I=>h.block k (by omega) (fun E=>by have:=D k E;omega)⟩
theorem zhB.trans{X Y:Nat->Prop}{a b c:World}(h:zhB X a b)(k:zhB Y b c)(D:∀ j,j<a.heap.size->Y j->X j):zhB X a c :=
 ⟨k.os.trans h.os,k.tape.trans h.tape,k.output.trans h.output,yH h.size k.size,fun i hi E=>(k.block i (yz hi h.size) (fun F=>E (D i hi F))).trans (h.block i hi E)⟩
def Later(w:World)(v D:Value):Prop:=D.ownBlock=v.ownBlock\/∃ j,D.ownBlock=some j/\w.heap.size<=j
theorem zxQ{k:Int}(h:(Lit.int .i64 k).wf=true):keyOf Tryz.prog 3 (.int .i64 k)=some (.int .i64 k):=Maps.keyOf_int_mk Tryz.underlying3 h
theorem zeT(w:World)(D o:Nat)(v:Value){X:Nat->Prop}(E:X D):zhB X w (w.setCell ⟨D,o,none⟩ v):=⟨rfl,rfl,rfl,by simp[World.setCell],fun k _ F=>yv _ _ _ _ (fun e=>F (by rw[e];exact E))⟩
theorem zmV{w w' : World}{r:Option Nat}(h:w.grownBy w' r){X:Nat->Prop}(D:∀ j,r=some j->X j):zhB X w w' :=⟨h.os,h.tape,h.output,h.size,fun k E F=>h.block k E (fun e=>F (D k e.symm))⟩
theorem zmz(B M D F n:Nat)(v:Value)(T:List Int)(k:Int)(w:World)(h:ziD w B M D F n v T)(hk:(Lit.int .i64 k).wf=true)(hn:n<100000)(hT:T.length<100000)(hB:B<=w.heap.size) :
  Calls Tryz.prog 180 #[.int .i64 k,.pointer (some ⟨M,0,none⟩),.pointer (some ⟨D,0,none⟩)] w fun e w' => ∃ v', e=.returned (.int .i64 (at1 (bring T k) k))/\ziD w' B M D F (n+1) v' (bring T k)/\Later w v v' /\ zhB (zgp D F v) w w' := by
 obtain⟨i0,b7,b9,c6,c7⟩:=info_parts ziP;have c1:=zaJ h.bmE;have c2:=zaJ h.btE;obtain⟨pa,pc,hv,_⟩:=zfX h.own;have I:=h.mp.look_ok (Maps.int_keyed Tryz.underlying3) (t:=220) Tryz.underlying220 (zxG w) (zxQ hk) trivial;by_cases hm:k ∈ T
 ·have e1:lk T (.int .i64 k)=some (.int .i64 (at1 T k)):=by rw[ztW,yd hm]
  have e2:bring T k=T:=by unfold bring;rw[yd hm]
  rw[e1] at I;dsimp only[Option.getD,Option.isSome] at I;rw[e2];have a5:Hid (ziD w B M D F (n+1) v T):=⟨h.bmE,h.btE,h.mp.mono (by omega),h.own⟩;clear h e1 e2;generalize at1 T k=A at *
  go_enter Tryz.func180,Tryz.ntmps180
  go_wp2_with fail
  go_ret;exact⟨v,rfl,a5.out,Or.inl rfl,zhB.refl _ _⟩
 ·have e1:lk T (.int .i64 k)=none:=by rw[ztW,ya hm]
  have e2:bring T k=T++[k]:=by unfold bring;rw[ya hm]
  rw[e1] at I;dsimp only[Option.getD,Option.isSome] at I;rw[e2,zsH hm];have a7:=h.mp.ne h.bmE;have a8:=h.mp.ne h.btE;obtain⟨w1,b0,b3,O⟩:=h.mp.put (Maps.int_keyed Tryz.underlying3) (t:=220) Tryz.underlying220 (by unfold maxLen;omega) (zxQ hk) trivial (.int .i64 (T.length:Int));have b5:Hid (zcB Tryz.prog 3 w1 F (n+1) (lk (T++[k]))):=b3 _ (zAo hm) (fun j U=>zAp j U);have x1:w1.heap[M]?=some (.cells #[.map (some F)] 220 (0,0)):=(O.block M (zay h.bmE) (by intro e;exact a7 (Option.some.inj e))).trans h.bmE;have x2:w1.heap[D]?=some (.cells #[v] 48 (0,0)):=(O.block D (zay h.btE) (by intro e;exact a8 (Option.some.inj e))).trans h.btE
  have Z:∀ j,v.ownBlock=some j->j≠F/\j≠D/\j≠M:=fun j U=>by
   obtain⟨_,ho⟩:=h.own;rcases ho with ⟨rfl,_⟩ |⟨g,cap,c8,rfl,_,h2,_⟩
   ·cases U
   ·cases U;refine⟨h.mp.ne h2,?_,?_⟩
    ·intro e;have e:g=D:=e;rw[e,h.btE] at h2;cases h2
    ·intro e;have e:g=M:=e;rw[e,h.bmE] at h2;cases h2
  have OW:Hid (∀ o1,(w1.alloc o1).ownsRow B 3 1 v T.length (T.map (Value.int .i64))):=fun o1=>zaK h.own (fun j U=>(Below.heap_alloc _ _ _ (yz (h.own.lt j U).2 O.size)).trans (O.block j (h.own.lt j U).2 (by intro e;exact(Z j U).1 (Option.some.inj e))));have NR:Hid (∀ j,v.ownBlock=some j->j≠F/\j≠D/\j≠M):=Z;have X1:Hid _:=x1;have X2:Hid _:=x2;have G1:Hid (w.grownBy w1 (some F)):=O;have LT:Hid (M<w.heap.size/\D<w.heap.size/\F<w.heap.size):=⟨zay h.bmE,zay h.btE,h.mp.lt⟩;have a9:Hid (M≠F/\D≠F/\M≠D):=⟨a7,a8,fun e=>by have h1:=h.bmE;rw[e,h.btE] at h1;cases h1⟩;have y1:=zaJ x1;have y2:=zaJ x2;have s1:=O.size;have b8:D<w1.heap.size:=zay x2;clear h b3 Z x1 x2 e1 e2 O hm a7 a8;subst hv;obtain⟨l,hl⟩:∃ z,T.length=z:=⟨_,rfl⟩;have HL:Hid (T.length=l):=hl;rw[hl] at OW b0 hT y2 X2 NR c2 |-;clear hl
  go_enter Tryz.func180,Tryz.ntmps180
  go_wp2_with (at_builtin;refine wpList_append_own_at _ rfl _ _ 48 rfl B 3 i0 (.int .i64 0) 1 8 Tryz.underlying48 b7 b9 c6 c7 rfl (by decide) (.slice pa l pc) l (T.map (Value.int .i64)) rfl ?how ⟨w1.heap.size,0,none⟩ 1 1 [.int .i64 k] rfl rfl ?c1 ?c2 ?c3 ?c4 ?c5 ?_)
  case how=>exact OW.out _
  case c1=>exact cell_one_new _ _ _
  case c2=>intro u hu;simp at hu;subst hu;rfl
  case c3=>unfold maxLen;omega
  case c4=>omega
  case c5=>simp;omega
  intro v2 w2 J E _ a6;have e6:(T++[k]).map (Value.int .i64)=T.map (Value.int .i64)++[.int .i64 k]:=by simp
  rw[<- e6] at J;obtain⟨na,nc,b1,_⟩:=zfX J;have e5:(T++[k]).length=l+1:=by simp[HL.out]
  rw[e5] at b1;subst b1;have b2:w2.heap[D]?=some (.cells #[.slice pa l pc] 48 (0,0)):=(E.block D (by simp;omega) (by intro e;exact(NR.out D e.symm).2.1 rfl)).trans ((Below.heap_alloc _ _ _ b8).trans X2.out);have y3:=zaJ b2;have y4:=zaW (o:=0) b2;have s2:=E.size;simp only[ys] at s2;have z2:D<w2.heap.size:=by omega
  have a5:Hid (ziD (w2.setCell ⟨D,0,none⟩ (.slice na (l+1) nc)) B M D F (n+1) (.slice na (l+1) nc) (T++[k])):=by
   have kp:∀ j,j<w1.heap.size->(Value.slice pa l pc).ownBlock≠some j->j≠D->(w2.setCell ⟨D,0,none⟩ (.slice na (l+1) nc)).heap[j]?=w1.heap[j]?:=fun j h1 h2 h3 =>
    (yv _ _ _ _ h3).trans ((E.block j (by simp;omega) (fun e=>h2 e.symm)).trans (Below.heap_alloc _ _ _ h1))
   have ob:=J.lt;refine⟨(kp M (by have:=LT.out.1;omega) (fun e=>(NR.out M e).2.2 rfl) a9.out.2.2).trans X1.out,ziX b2,b5.out.kept (kp F (by have:=LT.out.2.2;omega) (fun e=>(NR.out F e).1 rfl) (fun e=>a9.out.2.1 e.symm)),?_⟩;rw[e5];refine zaK J (fun j U=>yv _ _ _ _ ?_);intro e;have e:j=D:=e;subst e;rcases a6 with h1|h1
   ·rw[h1] at U;exact(NR.out j U).2.1 rfl
   ·rw[h1] at U;have:=Option.some.inj U
    first|omega|(simp only[ys] at this;omega)
  have b4:Hid (Later w (.slice pa l pc) (.slice na (l+1) nc)):=by
   rcases a6 with h1|h1
   ·exact Or.inl h1
   ·exact Or.inr ⟨_,h1,by first|omega|(simp;omega)⟩
  have b6:Hid (zhB (zgp D F (.slice pa l pc)) w (w2.setCell ⟨D,0,none⟩ (.slice na (l+1) nc))):=by
   refine zhB.trans (Y:=zgp D F (.slice pa l pc)) (zmV G1.out (fun j e=>Or.inr (Or.inl (Option.some.inj e).symm))) ?_ (fun _ _ h=>h);have g2:zhB (zgp D F (.slice pa l pc)) _ w2:=zmV E (fun j e=>Or.inr (Or.inr e));have g3:=zhB.trans (X:=zgp D F (.slice pa l pc)) (Y:=zgp D F (.slice pa l pc)) (zhB.of_below (zaa w1 _)) g2 (fun _ _ h=>h);exact zhB.trans (Y:=zgp D F (.slice pa l pc)) g3 (zeT _ _ _ _ (Or.inl rfl)) (fun _ _ h=>h)
  clear J E a6 b2 e5 e6
  go_wp2_with fail
  go_ret;exact⟨_,rfl,a5.out,b4.out,b6.out⟩
theorem zeD{w w1:World}{a:Option Addr}{n c:Nat}{p u:Int}(D:Below (w.heap.size+1+1+1+1) ((((w.alloc (.cells #[.slice a n c] 43)).alloc (.cells #[.int .i64 p,.int .i64 u] 61)).alloc (.cells #[.slice none 0 0] 43)).alloc (.cells #[.int .i64 0,.int .i64 0] 61)) w1) :
  w1.cell? ⟨w.heap.size,0,none⟩=some (.slice a n c)/\w1.cell? ⟨w.heap.size+1,0,none⟩=some (.int .i64 p)/\w1.cell? ⟨w.heap.size+1,1,none⟩=some (.int .i64 u)/\w1.cell? ⟨w.heap.size+1+1,0,none⟩=some (.slice none 0 0)/\w1.cell? ⟨w.heap.size+1+1+1,0,none⟩=some (.int .i64 0)/\w1.cell? ⟨w.heap.size+1+1+1,1,none⟩=some (.int .i64 0)/\(∀ o,w1.frozen? ⟨w.heap.size+1+1,o,none⟩=false)/\(∀ o,w1.frozen? ⟨w.heap.size+1+1+1,o,none⟩=false):=by
 refine⟨?_,?_,?_,?_,?_,?_,fun o=>?_,fun o=>?_⟩
 all_goals first|exact(D.cell (by first|(simp;done)|(simp;omega))).trans (by go_simp)|exact(D.frozen (by first|(simp;done)|(simp;omega))).trans (by go_simp)
theorem zsK(a:Option Addr)(c:Nat)(S:List Nd)(k f:Nat)(u:Int)(cl:Bool)(w:World)(wf:WF S)(hS:zai w a S)(hk:k<S.length)(hE:zaz S k u=0)(hH:zfy S k=false)(hf:f<S.length)(b2:zcu (nd S f)=true)(T:∀ i,i<f->zcu (nd S i)=false) :
  Calls Tryz.prog 193 #[.agg #[.slice a S.length c],.agg #[.int .i64 (k:Int),.int .i64 u],.bool cl] w fun e w' => ∃ g,e=.returned (.tuple #[.agg #[.slice (some ⟨g,0,none⟩) S.length S.length],.agg #[.int .i64 (f:Int),.int .i64 ((nd S f).n+1)],.int .i64 0])/\Below w.heap.size w w' /\ w.heap.size<=g/\znO w' g (S.set f (zbT (nd S f) k cl)):=by
 have hN:=wf.small;have D0:Hid (∀ W,zai W a S->Calls _ _ _ _ _):=fun W hW=>find_ok a c S k u W (by omega) wf.big hW hk hE (by have:=wf.kids_small hk;omega);have d1:=fun W hW=>zej a c S (k:Int) W (by omega) hW (by omega);rw[hH] at d1;have D1:Hid _:=d1;have D2:Hid (∀ W,zai W a S->Calls _ _ _ _ _):=fun W hW=>zpU a c S 0 W hN (fun i hi=>by have:=wf.kids_small hi;omega) hW ((zfg _).2 wf) (by omega) (by omega) f hf b2 (wf.uses hf).1 T;have HS:Hid (zai w a S):=hS
 have RT:Hid (∀ W g,znO W g (S.set f (zbS (nd S f) 0))->znO ((W.setCell ⟨g,f*8+6,none⟩ (.int .i64 (k:Int))).setCell ⟨g,f*8+7,none⟩ (.bool cl)) g (S.set f (zbT (nd S f) k cl))):=fun W g h=>by
  have h2:=h.root (k:=f) (by simpa using hf) (k:Int) cl;rw[zcX S f f _ hf,yd rfl,List.set_set] at h2;exact h2
 have RC:Hid (∀ W g,znO W g (S.set f (zbS (nd S f) 0))->g<W.heap.size/\(∀ o,W.frozen? ⟨g,o,none⟩=false)/\(∃ v6 v7,W.cell? ⟨g,f*8+6,none⟩=some v6/\W.cell? ⟨g,f*8+7,none⟩=some v7)):=fun W g ⟨F,hF,_⟩=>by
  rw[List.length_set] at hF;exact⟨hF.lt,hF.frozen,_,_,hF.cell (by omega),hF.cell (by omega)⟩
 have b8:(f:Int)<(S.length:Int):=by omega
 have b9:decide ((f:Int)<0)=false:=yF (by omega);clear hS wf hE hH b2 T d1;obtain⟨x0,b3⟩:∃ x,nd S k=x:=⟨_,rfl⟩;rw[b3] at D0;clear b3;obtain⟨S1,b0⟩:∃ S1,S.set f (zbS (nd S f) 0)=S1:=⟨_,rfl⟩;obtain⟨S2,b1⟩:∃ S2,S.set f (zbT (nd S f) k cl)=S2:=⟨_,rfl⟩;rw[b0] at D2 RT RC;rw[b1] at RT |-;clear b0 b1;generalize (nd S f).n=nf at *;generalize S.length=n at *
 go_enter Tryz.func193,Tryz.ntmps193
 go_wp2_with fail
 refine yi (D0.out _ (HS.out.below (zaH _ _ _ _ _))) ?_;rintro e w2 ⟨fg,rfl,J,_⟩;simp only[ys] at J;have a7:Hid (Below (w.heap.size+1+1+1+1) ((((w.alloc (.cells #[.slice a n c] 43)).alloc (.cells #[.int .i64 (k:Int),.int .i64 u] 61)).alloc (.cells #[.slice none 0 0] 43)).alloc (.cells #[.int .i64 0,.int .i64 0] 61)) w2):=J;have b6:=J.size;simp only[ys] at b6;obtain⟨l0,l1,l2,l3,l4,l5,l6,l7⟩:=zeD J;have BW:Hid (∀ W,Below (w.heap.size+1+1+1+1) ((((w.alloc (.cells #[.slice a n c] 43)).alloc (.cells #[.int .i64 (k:Int),.int .i64 u] 61)).alloc (.cells #[.slice none 0 0] 43)).alloc (.cells #[.int .i64 0,.int .i64 0] 61)) W->Below w.heap.size w W):=fun W h=>(zaH _ _ _ _ _).trans (h.mono (by omega));clear J;have q0:w.heap.size<w2.heap.size:=by omega
 have q1:w.heap.size+1<w2.heap.size:=by omega
 go_wp2_with fail
 refine yi (D1.out _ (HS.out.below (BW.out _ (a7.out.alloc (by omega) _)))) ?_;rintro e w3 ⟨rfl,M⟩;simp only[ys] at M;have U:Hid (Below (w.heap.size+1+1+1+1) ((((w.alloc (.cells #[.slice a n c] 43)).alloc (.cells #[.int .i64 (k:Int),.int .i64 u] 61)).alloc (.cells #[.slice none 0 0] 43)).alloc (.cells #[.int .i64 0,.int .i64 0] 61)) w3):=(a7.out.alloc (by omega) _).trans (M.mono (by omega));have b7:=M.size;simp only[ys] at b7;clear M l0 l1 l2 l3 l4 l5 l6 l7;obtain⟨l0,l1,l2,l3,l4,l5,l6,l7⟩:=zeD U.out
 go_wp2_with fail
 refine yi (D2.out _ (HS.out.below (BW.out _ U.out))) ?_;rintro e I ⟨g,rfl,a6,c6,a5⟩;have Z:Hid (Below (w.heap.size+1+1+1+1) ((((w.alloc (.cells #[.slice a n c] 43)).alloc (.cells #[.int .i64 (k:Int),.int .i64 u] 61)).alloc (.cells #[.slice none 0 0] 43)).alloc (.cells #[.int .i64 0,.int .i64 0] 61)) I):=U.out.trans (a6.mono (by omega));have c8:=a6.size;clear a6 l0 l1 l2 l3 l4 l5 l6 l7;obtain⟨l0,l1,l2,l3,l4,l5,l6,l7⟩:=zeD Z.out;obtain⟨c7,b5,v6,v7,d6,d7⟩:=RC.out _ _ a5;have a9:Hid (znO I g S1):=a5;have e1:¬ g=w.heap.size+1:=by omega
 have e2:¬ w.heap.size+1=g:=by omega
 have e3:¬ g=w.heap.size+1+1:=by omega
 have e4:¬ w.heap.size+1+1=g:=by omega
 have e5:¬ g=w.heap.size+1+1+1:=by omega
 have e6:¬ w.heap.size+1+1+1=g:=by omega
 have q2:w.heap.size+1<I.heap.size:=by omega
 have q3:w.heap.size+1+1<I.heap.size:=by omega
 have q4:w.heap.size+1+1+1<I.heap.size:=by omega
 have q5:w.heap.size<I.heap.size:=by omega
 clear a5 D0 D1 D2
 go_wp2_with fail
 first
  |(obtain⟨E,D⟩:∃ E,E=((((I.setCell ⟨g,f*8+6,none⟩ (.int .i64 (k:Int))).setCell ⟨g,f*8+7,none⟩ (.bool cl)).alloc (.cells #[.slice (some ⟨g,0,none⟩) n n] 43)).alloc (.cells #[.int .i64 (f:Int),.int .i64 (nf+1)] 61)):=⟨_,rfl⟩;rw[<- D])
  |(obtain⟨E,D⟩:∃ E,E=((((I.alloc (.cells #[.slice (some ⟨g,0,none⟩) n n] 43)).alloc (.cells #[.int .i64 (f:Int),.int .i64 (nf+1)] 61)).setCell ⟨g,f*8+6,none⟩ (.int .i64 (k:Int))).setCell ⟨g,f*8+7,none⟩ (.bool cl)):=⟨_,rfl⟩;rw[<- D])
 have b4:Hid (znO E g S2):=by
  rw[D]
  first
   | exact(RT.out I g a9.out).up (fun b _ O=>(((yr _ _).alloc (yk _) _).alloc (by simp) _).block b O)
   | exact RT.out _ g (a9.out.up (fun b _ O=>(((yr _ _).alloc (yk _) _).alloc (by simp) _).block b O))
 have c9:E.heap.size=I.heap.size+1+1:=by rw[D];simp
 have a8:Hid (Below w.heap.size w E):=by
  rw[D]
  first
   | exact((((BW.out _ Z.out).setCell (by simp;omega) _).setCell (by simp;omega) _).alloc (by simp;omega) _).alloc (by simp;omega) _
   | exact((((BW.out _ Z.out).alloc (by omega) _).alloc (by simp;omega) _).setCell (by simp;omega) _).setCell (by simp;omega) _
 have y0:E.cell? ⟨I.heap.size,0,none⟩=some (.slice (some ⟨g,0,none⟩) n n):=by rw[D];go_simp
 have y1:E.cell? ⟨I.heap.size+1,0,none⟩=some (.int .i64 (f:Int)):=by rw[D];go_simp
 have y2:E.cell? ⟨I.heap.size+1,1,none⟩=some (.int .i64 (nf+1)):=by rw[D];go_simp
 have y3:E.cell? ⟨w.heap.size+1+1,0,none⟩=some (.slice none 0 0):=by rw[D];go_simp
 have y4:E.cell? ⟨w.heap.size+1+1+1,0,none⟩=some (.int .i64 0):=by rw[D];go_simp
 have y5:E.cell? ⟨w.heap.size+1+1+1,1,none⟩=some (.int .i64 0):=by rw[D];go_simp
 have y6:∀ o,E.frozen? ⟨w.heap.size+1+1,o,none⟩=false:=fun o=>by rw[D];go_simp
 have y7:∀ o,E.frozen? ⟨w.heap.size+1+1+1,o,none⟩=false:=fun o=>by rw[D];go_simp
 have z1:I.heap.size<E.heap.size:=by omega
 have z2:I.heap.size+1<E.heap.size:=by omega
 have z3:w.heap.size+1+1<E.heap.size:=by omega
 have z4:w.heap.size+1+1+1<E.heap.size:=by omega
 have z5:¬ I.heap.size=w.heap.size+1+1:=by omega
 have z6:¬ I.heap.size+1=w.heap.size+1+1:=by omega
 have z7:¬ I.heap.size=w.heap.size+1+1+1:=by omega
 have z8:¬ I.heap.size+1=w.heap.size+1+1+1:=by omega
 clear D l0 l1 l2 l3 l4 l5 l6 l7 d6 d7 b5
 go_region
 all_goals (try go_wp2)
 all_goals
  refine yw (v:=.tuple #[.agg #[.slice (some ⟨g,0,none⟩) n n],.agg #[.int .i64 (f:Int),.int .i64 (nf+1)],.int .i64 0]) (by simp[results,Tryz.results193,go_sem,y3,y4,y5]) rfl ⟨g,rfl,?_,by omega,?_⟩
  ·first
    | exact(((a8.out.setCell (by simp;omega) _).setCell (by simp;omega) _).setCell (by simp;omega) _).drew
    | exact((a8.out.setCell (by simp;omega) _).setCell (by simp;omega) _).setCell (by simp;omega) _
  ·refine b4.out.up (fun b hb O=>?_)
   first
    | rw[heap_drew,yv _ _ _ _ (by show b≠w.heap.size+1+1+1;omega),yv _ _ _ _ (by show b≠w.heap.size+1+1+1;omega),yv _ _ _ _ (by show b≠w.heap.size+1+1;omega)]
    | rw[yv _ _ _ _ (by show b≠w.heap.size+1+1+1;omega),yv _ _ _ _ (by show b≠w.heap.size+1+1+1;omega),yv _ _ _ _ (by show b≠w.heap.size+1+1;omega)]
end Go.Proofs.YtcbcpomacdngmaaGreat
