/-
  x
-/
import Derived.Test.YtcbcpomacdngmaaGreatQ11
namespace Go.Proofs.YtcbcpomacdngmaaGreat
set_option maxRecDepth 100000
set_option maxHeartbeats 4000000
set_option linter.unusedVariables false
open Go.RowKit
def zlh(W:World)(E gs N:Nat)(st:(Nat->Bool) × List Int)(D:World):Prop :=
 Off (fun k=>k=E\/k=gs) W D/\D.rowIs gs 4 N (fun j=>.bool (st.1 j))/\(st.2.Nodup/\∀ x ∈ st.2,∃ j:Nat,j<N/\x=j/\st.1 j=true) /\
 ∃ v,D.heap[E]?=some (.cells #[v] 48 (0,0))/\D.ownsRow W.heap.size 3 1 v st.2.length (st.2.map (Value.int .i64))
theorem zlh.small{W J:World}{D gs N:Nat}{st:(Nat->Bool) × List Int}(h:zlh W D gs N st J):st.2.length<=N:=by
 obtain⟨_,_,⟨h1,E⟩,_⟩:=h
 have:=h1.length_le_of_subset (l₂:=(List.range N).map (fun i:Nat=>(i:Int))) (fun x I=>by
  obtain⟨j,F,rfl,_⟩:=E x I;exact List.mem_map.2 ⟨j,List.mem_range.2 F,rfl⟩)
 simpa using this
theorem zlh.below{W I O:World}{J gs N:Nat}{st:(Nat->Bool) × List Int}(h:zlh W J gs N st I)(D:Below I.heap.size I O):zlh W J gs N st O:=by
 obtain⟨U,M,T,v,hc,E⟩:=h;have F:=(Array.getElem?_eq_some_iff.1 hc).1
 exact⟨U.trans (Off.of_below D),M.of_block (D.block gs M.lt),T,v,(D.block _ F).trans hc,E.kept (row:=none) ⟨D.os,D.tape,D.output,D.size,fun k Z _=>D.block k Z⟩ (by
  cases hv:v.ownBlock with
  | none=>exact Or.inl rfl
  | some k=>exact Or.inr (fun e=>by cases e))⟩
theorem zlh.step{W w1 O:World}{D gs N j:Nat}{st:(Nat->Bool) × List Int}(h:zlh W D gs N st w1)(b0:D<W.heap.size)(b5:gs<W.heap.size)(b2:D≠gs)(hj:j<N)(hs:st.1 j=false){v v' : Value}(hc:w1.heap[D]?=some (.cells #[v] 48 (0,0)))(o1:Obj)
  (U:w1.ownsRow W.heap.size 3 1 v st.2.length (st.2.map (Value.int .i64)))
  (I:O.ownsRow W.heap.size 3 1 v' (st.2.length+1) (st.2.map (Value.int .i64)++[.int .i64 (j:Int)])) (hg:((w1.setCell ⟨gs,j,none⟩ (.bool true)).alloc o1).grownBy O v.ownBlock) :
  O.heap[D]?=some (.cells #[v] 48 (0,0))/\(∀ k:Nat,∀ x t,w1.heap[k]?=some (.cells #[x] t (0,0))->t≠48->t≠4->t≠3->(O.setCell ⟨D,0,none⟩ v').heap[k]?=w1.heap[k]?)/\zlh W D gs N (fun i=>if i=j then true else st.1 i,st.2++[(j:Int)]) (O.setCell ⟨D,0,none⟩ v'):=by
 obtain⟨hO,hR,⟨a9,a5⟩,v0,b4,_⟩:=h;have Z:∀ k,v.ownBlock=some k->W.heap.size<=k:=fun k E=>(U.lt k E).1;have b8:=hO.size
 have T:∀ k,k<W.heap.size->k≠gs->O.heap[k]?=w1.heap[k]?:=fun k E b1 =>
  (hg.block k (by simp;omega) (fun e=>by have:=Z k e.symm;omega)).trans ((Below.heap_alloc _ _ _ (by simp;omega)).trans (ys _ _ _ _ (by exact b1)))
 have a7:O.heap[gs]?=(w1.setCell ⟨gs,j,none⟩ (.bool true)).heap[gs]? :=
  (hg.block gs (by simp;omega) (fun e=>by have:=Z gs e.symm;omega)).trans (Below.heap_alloc _ _ _ (by simp;omega))
 have a6:O.heap[D]?=some (.cells #[v] 48 (0,0)):=(T D b0 b2).trans hc;refine⟨a6,fun k x t E h1 h2 h3=>?_,?_,?_,⟨?_,?_⟩,v', ziZ a6,?_⟩
 ·have b7:=(Array.getElem?_eq_some_iff.1 E).1;have n1:k≠D:=fun e=>by rw[e,hc] at E;cases E;exact h1 rfl
  have n2:k≠gs:=fun e=>by
   obtain⟨a8,F,_⟩:=hR;rw[e,F] at E;cases E;exact h2 rfl
  rw[ys _ _ _ _ (by exact n1),hg.block k (by simp;omega) (fun e=>by
   rcases U.2 with ⟨hv,_⟩ |⟨g,cap,a8,hv,_,F,_⟩
   ·rw[hv] at e;cases e
   ·rw[hv] at e;have:k=g:=by simpa [Value.ownBlock] using e
    rw[this,F] at E;cases E;exact h3 rfl),Below.heap_alloc _ _ _ (by simp;omega),ys _ _ _ _ (by exact n2)]
 ·refine⟨?_,?_,?_,?_,fun k E M=>?_⟩
  ·exact hg.os.trans hO.os
  ·exact hg.tape.trans hO.tape
  ·exact hg.output.trans hO.output
  ·have:=hg.size;simp at this |-;omega
  ·rw[ys _ _ _ _ (by show k≠D;exact fun e=>M (Or.inl e)),T k E (fun e=>M (Or.inr e))];exact hO.block k E M
 ·have h1:=((hR.set j (.bool true)).of_block a7).setOther (a:=⟨D,0,none⟩) (by simp;omega) v';refine h1.congr (fun i _=>?_);dsimp only;by_cases e:i=j
  ·rw[yb e,yb e]
  ·rw[ya e,ya e]
 ·rw[List.nodup_append];refine⟨a9,by simp,fun a ha b hb e=>?_⟩;have b3:b=(j:Int):=by simpa using hb
  obtain⟨i,hi,b6,J⟩:=a5 a ha;have:i=j:=by omega
  rw[this,hs] at J;cases J
 ·intro x M;rcases List.mem_append.1 M with M|M
  ·obtain⟨i,hi,rfl,J⟩:=a5 x M;refine⟨i,hi,rfl,?_⟩;dsimp only;by_cases e:i=j
   ·rw[yb e]
   ·rw[ya e];exact J
  ·exact⟨j,hj,by simpa using M,yb rfl⟩
 ·have h3:=I.kept (grownBy_setCell O ⟨D,0,none⟩ v') (by
   cases hb:v'.ownBlock with
   | none=>exact Or.inl rfl
   | some k=>right;intro e;have:=(I.lt k hb).1;simp at e;omega)
  simpa using h3
def zpz(n:Nd):Nat:=if n.h = -1 then 2 else 1
def zza(S:List Nd)(L:Nat):List Int->Nat
 | []=>0
 | x :: r=>zza S L r+zpz (nd S x.toNat)*3 ^ (L-(r.length+1))
def vF(S:List Nd)(k:Nat):Nat:=zza S (S.length+2) (zfc S k)
def eF(S:List Nd)(k:Nat):Nat:=vF S k+3 ^ (S.length+2-(zfc S k).length)
theorem zsW(n:Nd):1<=zpz n/\zpz n<=2:=by unfold zpz;split <;> omega
theorem WF.v_up{S:List Nd}(h:WF S){k q:Nat}(E:k<S.length)(F:q<S.length)(I:zal (nd S k)=q) :
  ∃ P,0<P/\vF S k=vF S q+zpz (nd S k)*P/\eF S k=vF S q+zpz (nd S k)*P+P/\eF S q=vF S q+3*P/\P=3 ^ (S.length+1-(zfc S q).length):=by
 have D:=h.path_up E F I;have hl:=zpU S q;refine⟨3 ^ (S.length+1-(zfc S q).length),Nat.pow_pos (by omega),?_,?_,?_,rfl⟩
 ·unfold vF;rw[D,zza,yi,show S.length+2-((zfc S q).length+1)=S.length+1-(zfc S q).length by omega]
 ·unfold eF vF;rw[D,zza,yi,List.length_cons,show S.length+2-((zfc S q).length+1)=S.length+1-(zfc S q).length by omega]
 ·unfold eF;rw[show S.length+2-(zfc S q).length=(S.length+1-(zfc S q).length)+1 by omega,Nat.pow_succ,Nat.mul_comm]
theorem WF.v_step{S:List Nd}(h:WF S){k q:Nat}(E:k<S.length)(F:q<S.length)(I:zal (nd S k)=q):vF S q<vF S k/\eF S k<=eF S q:=by
 obtain⟨P,h0,h1,D,J,_⟩:=h.v_up E F I;have hd:=zsW (nd S k);rcases(show zpz (nd S k)=1\/zpz (nd S k)=2 by omega) with e|e <;> rw[e] at h1 D <;> omega
theorem WF.v_Up{S:List Nd}(h:WF S):∀ {j x y:Nat},x<S.length->Up S j x y->vF S y<=vF S x/\eF S x<=eF S y
 | 0,_,_,_,e=>by cases e;omega
 | j+1,x,y,I,⟨z,D,E,F⟩=>by
  have h1:=h.v_step I D E;have J:=h.v_Up D F;omega
theorem v_e(S:List Nd)(k:Nat):vF S k<eF S k:=by
 unfold eF;have:0<3 ^ (S.length+2-(zfc S k).length):=Nat.pow_pos (by omega);omega
theorem WF.v_given{S:List Nd}(h:WF S){H r c p j:Nat}(O:H<S.length)(hr:r<S.length)(hc:c<S.length)(hp:p<S.length)(hh:(nd S r).h=H)(hu:Up S j p r)(F:zal (nd S c)=H)(hch:(nd S c).h = -1):vF S p<vF S c:=by
 have J:zal (nd S r)=H:=by unfold zal;rw[ya (by omega)];exact hh
 obtain⟨P,h0,h1,U,h3,e⟩:=h.v_up hr O J;obtain⟨P', T,D,E,Z,M⟩:=h.v_up hc O F;rw[<- e] at M;subst M;have hd:zpz (nd S r)=1:=by unfold zpz;rw[ya (by omega)]
 have I:zpz (nd S c)=2:=by unfold zpz;rw[yb hch]
 rw[hd] at h1 U;rw[I] at D E;have hv:=(h.v_Up hp hu).2;have:=v_e S p;omega
theorem zcj(S:List Nd)(x:Int)(h:zbW S x≠-1):∃ r:Nat,r<S.length/\zbW S x=r/\(nd S r).h=x/\x≠-1:=by
 unfold zbW at *;by_cases D:x = -1
 ·rw[yb D] at h;exact absurd rfl h
 ·rw[ya D] at *
  cases hf:S.findIdx? fun n=>decide (n.h=x) with
  | none=>rw[hf] at h;exact absurd rfl h
  | some k =>
   obtain⟨h1,E,_⟩:=List.findIdx?_eq_some_iff_getElem.1 hf;exact⟨k,h1,rfl,by rw[zbi h1];exact of_decide_eq_true E,D⟩
theorem zpZ{S:List Nd}{x:Int}(D:x≠-1)(h:zbW S x = -1)(i:Nat)(hi:i<S.length):(nd S i).h≠x:=fun e=>by
 unfold zbW at h;rw[ya D] at h
 cases hf:S.findIdx? fun n=>decide (n.h=x) with
 | none =>
  have:=List.findIdx?_eq_none_iff.1 hf S[i] (List.getElem_mem hi);rw[<- zbi hi] at this;exact of_decide_eq_false this e
 | some k=>rw[hf] at h;simp at h
def zbX(S:List Nd)(g:Nat->List Int)(p:Nat):List Int:=if zbW S p≠-1 then (nd S (zbW S p).toNat).ks else if g p≠[] then g p else (nd S p).ks
structure zhu (S:List Nd) (g:Nat->List Int):Prop where
 some:∀ p,p<S.length->∀ c ∈ g p,∃ H r j:Nat,H<S.length/\r<S.length/\(nd S r).h=H/\Up S j p r/\c ∈ (nd S H).ks
 one:∀ p p' c,p<S.length->p' < S.length->c ∈ g p->c ∈ g p' -> p=p'
 nodup:∀ p,p<S.length->(g p).Nodup
theorem zhn{S:List Nd}(h:WF S){g:Nat->List Int}(G:zhu S g){p:Nat}(T:p<S.length){c:Int}(hc:c ∈ zbX S g p) :
  ∃ k q:Nat,c=k/\k<S.length/\q<S.length/\(nd S k).u=true/\(nd S k).h = -1/\(nd S k).p=q/\zal (nd S k)=q /\
   ((nd S q).h=p\/(zbW S p = -1/\c ∈ g p/\∃ r j:Nat,r<S.length/\(nd S r).h=q/\Up S j p r)\/(zbW S p = -1/\q=p)):=by
 unfold zbX at hc
 split at hc
 ·rename_i U;obtain⟨r,h1,M,O,_⟩:=zcj S p U;rw[M,yi] at hc;obtain⟨k,e,D,F,I,J⟩:=h.kid h1 hc;exact⟨k,r,e,D,h1,F,(h.host_of_parent D (by omega)).1,I,J,Or.inl O⟩
 ·rename_i U;have E:zbW S p = -1:=Decidable.not_not.1 U
  split at hc
  ·obtain⟨H,r,j,h1,M,O,Z,h5⟩:=G.some p T c hc;obtain⟨k,e,D,F,I,J⟩:=h.kid h1 h5;exact⟨k,H,e,D,h1,F,(h.host_of_parent D (by omega)).1,I,J,Or.inr (Or.inl ⟨E,hc,r,j,M,O,Z⟩)⟩
  ·obtain⟨k,e,D,F,I,J⟩:=h.kid T hc;exact⟨k,p,e,D,T,F,(h.host_of_parent D (by omega)).1,I,J,Or.inr (Or.inr ⟨E,rfl⟩)⟩
theorem zcT{S:List Nd}(h:WF S){g:Nat->List Int}(G:zhu S g){p:Nat}(I:p<S.length){c:Int}(hc:c ∈ zbX S g p) :
  ∃ k:Nat,c=k/\k<S.length/\(nd S k).u=true/\(nd S k).h = -1/\vF S p<vF S k:=by
 obtain⟨k,q,e,E,F,Z,hh,T,D,O⟩:=zhn h G I hc;refine⟨k,e,E,Z,hh,?_⟩;rcases O with O |⟨_,_,r,j,U,J,M⟩ |⟨_,rfl⟩
 ·have h1:=(h.v_step E F D).1;have h2:=(h.v_step F I (by unfold zal;rw[ya (by omega)];exact O)).1;omega
 ·exact h.v_given F U E I J M D hh
 ·exact(h.v_step E F D).1
def ShR(ks:Nat->List Int)(c:Nat):Nat->Nat->Prop
 | 0,z=>z=c
 | j+1,z=>∃ y,ShR ks c j y/\(z:Int) ∈ ks y
theorem ShR.front{ks:Nat->List Int}{p c:Nat}(hc:(c:Int) ∈ ks p):∀ {j z:Nat},ShR ks c j z->ShR ks p (j+1) z
 | 0,z,e=>by cases e;exact⟨p,rfl,hc⟩
 | j+1,z,⟨y,D,E⟩=>⟨y,ShR.front hc D,E⟩
theorem ShR.trans{ks:Nat->List Int}{p c i:Nat}(h:ShR ks p i c):∀ {j z:Nat},ShR ks c j z->ShR ks p (i+j) z
 | 0,z,e=>by cases e;exact h
 | j+1,z,⟨y,D,E⟩=>⟨y,ShR.trans h D,E⟩
theorem ShR.facts{S:List Nd}(h:WF S){g:Nat->List Int}(G:zhu S g){k:Nat}(D:k<S.length):∀ {j z:Nat},ShR (zbX S g) k j z->z<S.length/\vF S k<=vF S z/\(z=k\/(nd S z).h = -1)/\(z=k\/(nd S z).u=true)/\(1<=j->vF S k<vF S z/\(nd S z).h = -1/\(nd S z).u=true)
 | 0,z,e=>by cases e;exact⟨D,yj _,Or.inl rfl,Or.inl rfl,fun h=>by omega⟩
 | j+1,z,⟨y,I,J⟩=>by
  obtain⟨h1,O,_⟩:=ShR.facts h G D I;obtain⟨k', e,M,F,E,T⟩:=zcT h G h1 J;have:z=k' := by omega
  subst this;exact⟨M,by omega,Or.inr E,Or.inr F,fun _=>⟨by omega,E,F⟩⟩
theorem ShR.inner{S:List Nd}(h:WF S){g:Nat->List Int}(G:zhu S g){k r J:Nat}(O:k<S.length)(hr:r<S.length)(I:J<S.length)(hh:(nd S J).h=r)(D:(nd S r).h≠-1):∀ {j z i:Nat},ShR (zbX S g) k j z->Up S i z J->k=r\/∃ i,Up S i k J
 | 0,z,i,e,T=>by cases e;exact Or.inr ⟨i,T⟩
 | j+1,z,i,⟨y,U,hz⟩,T=>by
  obtain⟨y1,y2,y3,_⟩:=ShR.facts h G O U;obtain⟨k', q,e,a8,hq,b0,a9,b1,b4,hw⟩:=zhn h G y1 hz;have:z=k' := by omega
  subst this
  cases i with
  | zero =>
   have:z=J:=T;subst this;omega
  | succ i =>
   obtain⟨q', Z,a7,E⟩:=T;have:q' = q:=by omega
   subst this;rcases hw with hw |⟨_,_,r2,j2,b3,M,a6⟩ |⟨_,rfl⟩
   ·by_cases e:q' = J
    ·subst e;have:y=r:=by omega
     subst this;exact Or.inl (y3.resolve_right D).symm
    ·cases i with
     | zero=>exact absurd E e
     | succ i =>
      obtain⟨q2,b2,F,a5⟩:=E;have:q2=y:=by unfold zal at F;rw[ya (by omega)] at F;omega
      subst this;exact ShR.inner h G O hr I hh D U a5
   ·have h3:Up S 1 r2 q' := WF.up_one Z (by unfold zal;rw[ya (by omega)];exact M);exact ShR.inner h G O hr I hh D U (a6.trans (h3.trans E))
   ·exact ShR.inner h G O hr I hh D U E
theorem ShR.one{S:List Nd}(h:WF S){g:Nat->List Int}(G:zhu S g){k i i' p p' : Nat}(M:k<S.length)(h1:ShR (zbX S g) k i p)(h2:ShR (zbX S g) k i' p'){c:Int}(hc:c ∈ zbX S g p)(Z:c ∈ zbX S g p'):p=p' := by
 obtain⟨T,p2,p3,_⟩:=ShR.facts h G M h1;obtain⟨U,q2,q3,_⟩:=ShR.facts h G M h2;obtain⟨z,q,e,hz,hq,b7,b4,b5,b6,O⟩:=zhn h G T hc;obtain⟨z', J,e', b3,b1,b0,a7,a8,a9,D⟩:=zhn h G U Z;have:z' = z:=by omega
 subst this;have:J=q:=by omega
 subst this;have up:∀ {a:Nat},a<S.length->(nd S J).h=a->vF S a<vF S J:=fun ha e=>(h.v_step hq ha (by unfold zal;rw[ya (by omega)];exact e)).1
 have inn:∀ {a b r j i:Nat},a<S.length->ShR (zbX S g) k i b->vF S k<=vF S a->(nd S J).h=a->r<S.length->(nd S r).h=J->Up S j b r->False:=fun {a b r j i} ha hb hv a5 E I hu=>by
  have b2:=up ha a5;rcases ShR.inner h G M hq E I (by omega) hb hu with e |⟨i,hi⟩
  ·subst e;omega
  ·have h3:=(h.v_Up M hi).1;have h4:=(h.v_step E hq (by unfold zal;rw[ya (by omega)];exact I)).1;omega
 rcases O with O |⟨n1,m1,r,j,E,F,a6⟩ |⟨n1,e1⟩ <;> rcases D with D |⟨n2,m2,r2,j2,hr2,hrh2,hup2⟩ |⟨n2,e2⟩
 ·omega
 ·exact(inn T h2 p2 O hr2 hrh2 hup2).elim
 ·subst e2;have:=up T O;rcases q3 with e|e
  ·subst e;omega
  ·omega
 ·exact(inn U h1 q2 D E F a6).elim
 ·exact G.one _ _ c T U m1 m2
 ·subst e2;exact absurd F (zpZ (by omega) n2 r E)
 ·subst e1;have:=up U D;rcases p3 with e|e
  ·subst e;omega
  ·omega
 ·subst e1;exact absurd hrh2 (zpZ (by omega) n1 r2 hr2)
 ·omega
theorem ShR.apart{S:List Nd}(h:WF S){g:Nat->List Int}(G:zhu S g){k i p c T:Nat}(hk:k<S.length)(F:ShR (zbX S g) k i p)(hc:(c:Int) ∈ zbX S g p)(D:(T:Int) ∈ zbX S g p)(E:c≠T) :
  ∀ {j O z:Nat},ShR (zbX S g) c j z->ShR (zbX S g) T O z->False:=by
 have hP:=(ShR.facts h G hk F).1
 have first:∀ {a b j:Nat},(a:Int) ∈ zbX S g p->(b:Int) ∈ zbX S g p->a≠b->ShR (zbX S g) b j a->False:=fun {a b j} ha hb Z hs=>by
  cases j with
  | zero=>exact Z hs
  | succ j =>
   obtain⟨y,I,a5⟩:=hs;have e:=ShR.one h G hk F (F.trans (ShR.front hb I)) ha a5;subst e;obtain⟨b', e,b1,_,_,b2⟩:=zcT h G hP hb;have:b' = b:=by omega
   subst this;have:=(ShR.facts h G b1 I).2.1;omega
 intro j
 induction j with
 | zero =>
  intro O z h1 U;have:z=c:=h1;subst this;exact first hc D E U
 | succ j ih =>
  intro O z h1 U
  cases O with
  | zero =>
   have:z=T:=U;subst this;exact first D hc (Ne.symm E) h1
  | succ O =>
   obtain⟨y,I,a6⟩:=h1;obtain⟨y', J,M⟩:=U;have e:=ShR.one h G hk (F.trans (ShR.front hc I)) (F.trans (ShR.front D J)) a6 M;subst e;exact ih I J
theorem zec{S:List Nd}(h:WF S){g:Nat->List Int}(G:zhu S g):∀ {f p:Nat},p<S.length->∀ x ∈ zbT (zbX S g) f p,∃ j q:Nat,x=q/\ShR (zbX S g) p j q
 | 0,p,_,x,D=>⟨0,p,by simpa [zbT] using D,rfl⟩
 | f+1,p,F,x,D=>by
  simp only[zbT,List.mem_cons,List.mem_flatMap] at D;rcases D with rfl |⟨c,hc,D⟩
  ·exact⟨0,p,rfl,rfl⟩
  ·obtain⟨k,rfl,E,_⟩:=zcT h G F hc;rw[yi] at D;obtain⟨j,q,e,I⟩:=zec h G E x D;exact⟨j+1,q,e,ShR.front hc I⟩
theorem zrQ{S:List Nd}(h:WF S){g:Nat->List Int}(G:zhu S g){p:Nat}(D:p<S.length):(zbX S g p).Nodup:=by
 unfold zbX;split
 ·rename_i F;obtain⟨r,h1,E,_⟩:=zcj S p F;rw[E,yi];exact h.kids_nodup h1
 ·split
  ·exact G.nodup p D
  ·exact h.kids_nodup D
theorem zil{S:List Nd}(h:WF S){g:Nat->List Int}(G:zhu S g){k:Nat}(M:k<S.length):∀ {f i p:Nat},ShR (zbX S g) k i p->(zbT (zbX S g) f p).Nodup
 | 0,_,p,_=>by simp[zbT]
 | f+1,i,p,hs=>by
  have E:=(ShR.facts h G M hs).1;simp only[zbT];rw[List.nodup_cons];refine⟨fun I=>?_,zhN _ _ (zrQ h G E) (fun x D=>?_) (fun x D y Z O z hz F=>?_)⟩
  ·obtain⟨x,D,I⟩:=List.mem_flatMap.1 I;obtain⟨c,rfl,hc,_,_,hv⟩:=zcT h G E D;rw[yi] at I;obtain⟨j,q,e,T⟩:=zec h G hc _ I;have:q=p:=by omega
   subst this;have:=(ShR.facts h G hc T).2.1;omega
  ·obtain⟨c,rfl,hc,_⟩:=zcT h G E D;rw[yi];exact zil h G M (i:=i+1) ⟨p,hs,D⟩
  ·obtain⟨c,rfl,hc,_⟩:=zcT h G E D;obtain⟨c', rfl,J,_⟩:=zcT h G E Z;rw[yi] at hz F;obtain⟨j,q,e,T⟩:=zec h G hc _ hz;obtain⟨j', q', e', U⟩:=zec h G J _ F;have:q=q' := by omega
   subst this;exact ShR.apart h G M hs D Z (fun e=>O (by rw[e])) T U
theorem zum{S:List Nd}(h:WF S){g:Nat->List Int}(G:zhu S g){k:Nat}(D:k<S.length)(f:Nat):(zbT (zbX S g) f k).length<=S.length:=by
 have h1:=zil h G D (f:=f) (i:=0) (p:=k) rfl
 have:=h1.length_le_of_subset (l₂:=(List.range S.length).map (fun i:Nat=>(i:Int))) (fun x F=>by
  obtain⟨j,q,rfl,E⟩:=zec h G D x F;exact List.mem_map.2 ⟨q,List.mem_range.2 (ShR.facts h G D E).1,rfl⟩)
 simpa using this
theorem zxF(S:List Nd)(L:Nat):∀ l:List Int,l.length<=L->zza S L l+3 ^ (L-l.length)<=3 ^ L
 | [],_=>by simp[zza]
 | x :: r,hl=>by
  rw[List.length_cons] at hl;have D:=zxF S L r (by omega);have hd:=zsW (nd S x.toNat);rw[zza,List.length_cons];rw[show L-r.length=(L-(r.length+1))+1 by omega,Nat.pow_succ] at D;rcases(show zpz (nd S x.toNat)=1\/zpz (nd S x.toNat)=2 by omega) with e|e <;> rw[e] <;> omega
theorem zBr(S:List Nd)(k:Nat):vF S k<3 ^ (S.length+2):=by
 have h1:=zxF S (S.length+2) (zfc S k) (by have:=zpU S k;omega);have:0<3 ^ (S.length+2-(zfc S k).length):=Nat.pow_pos (by omega);unfold vF;omega
theorem zmJ{S:List Nd}(h:WF S){g:Nat->List Int}(G:zhu S g):∀ {f p:Nat},p<S.length->3 ^ (S.length+2)<=vF S p+f->zqp (zbX S g) S.length f p
 | 0,p,_,F=>by have:=zBr S p;omega
 | f+1,p,E,F=>fun c hc=>by
  obtain⟨k,rfl,D,_,_,h1⟩:=zcT h G E hc;rw[yi];exact⟨⟨by omega,by omega⟩,zmJ h G D (by omega)⟩
def zzL(S:List Nd):Nat:=3 ^ (S.length+2)
theorem zlD{S:List Nd}(h:WF S){g:Nat->List Int}(G:zhu S g){p:Nat}(D:p<S.length):zqp (zbX S g) S.length (zzL S) p:=zmJ h G D (by unfold zzL;omega)
def zcf(S:List Nd)(mk:Int)(x:Int):Bool:=!decide ((nd S x.toNat).m=mk)
def zbV(S:List Nd)(H:Nat)(mk:Int):List Int:=flt (zcf S mk) (nd S H).ks
theorem zrm(a:Option Addr)(c:Nat)(S:List Nd)(H:Nat)(mk:Int)(w:World)(hH:H<S.length)(hl:(nd S H).ks.length<=1000)(hp:∀ y ∈ (nd S H).ks,∃ x:Nat,y=x/\x<S.length)(hS:zah w a S) :
  Calls Tryz.prog 223 #[.agg #[.slice a S.length c],.int .i64 (H:Int),.int .i64 mk] w fun e w' => ∃ v,e=.returned v/\Below w.heap.size w w' /\ w'.ownsRow w.heap.size 3 1 v (zbV S H mk).length ((zbV S H mk).map (Value.int .i64)):=by
 obtain⟨i0,b2,b8,b9,c6⟩:=info_parts info3;have HS:Hid (zah w a S):=hS;have R0:Hid (zbV S H mk=flt (zcf S mk) (nd S H).ks):=(rfl:zbV S H mk=_);have PL:Hid (∀ y ∈ (nd S H).ks,∃ x:Nat,y=x/\x<S.length):=hp;obtain⟨a8,c7,b1,_,_,_,_,_,⟨ka,kc,c5,a6⟩,_,_⟩:=hS H hH;subst b1;have HI:Hid (zaj w ka (nd S H).ks):=a6;clear hS hp a6;generalize zbV S H mk=a5 at *;generalize (nd S H).ks=P at *;obtain⟨m,hm⟩:∃ m,P.length=m:=⟨_,rfl⟩;have HM:Hid (P.length=m):=hm;rw[hm] at hl c5;obtain⟨n,hn⟩:∃ n,S.length=n:=⟨_,rfl⟩;have HN:Hid (S.length=n):=hn;rw[hn] at hH PL |-;have c9:(H:Int)<(n:Int):=by omega
 have d7:a8<w.heap.size:=yd _ _ c5;clear hn hm
 go_enter Tryz.func223,Tryz.ntmps223
 go_wp2_with fail
 go_loopg [7,17] m (fun g s7 s17 wr=>∃ (i:Nat) (l:List Int),i<=m/\m-i<=g/\s17=.int .i64 i/\l.length<=i/\Hid (Below w.heap.size w wr)/\wr.cell? ⟨w.heap.size,0,none⟩=some (.slice (some ⟨a8,c7,none⟩) n c)/\w.heap.size+1<=wr.heap.size/\Hid (wr.ownsRow (w.heap.size+1) 3 1 s7 l.length (l.map (Value.int .i64)))/\Hid (l=flt (zcf S mk) (P.take i)))
 case atStart=>exact⟨0,[],by omega,by omega,rfl,by simp,(yk _ _).alloc (yj _) _,by go_simp,by simp,World.ownsRow_nil _ _ _ _,(by simp[flt]:([]:List Int)=flt (zcf S mk) (P.take 0))⟩
 case round =>
  obtain⟨i,l,hi,hg,rfl,b4,HB,cs,a7,I,HE⟩:=hrel;obtain⟨qa,qc,hv,_⟩:=zeg I.out;subst hv;obtain⟨Z,T⟩:∃ y,l.length=y:=⟨_,rfl⟩;have D:Hid (l.length=Z):=T;rw[T] at I b4 |-;clear T;by_cases U:i<m
  ·obtain⟨y,hy,b7⟩:=PL.out (P.getD i 0) (by rw[zae P 0 (by rw[HM.out];exact U)];exact List.getElem_mem _);obtain⟨pb,po,ep,b5⟩:=(HI.out.below HB.out) i (by rw[HM.out];exact U);subst ep;rw[hy] at b5;obtain⟨nb,no,ea,_,_,_,c3,_,_,_,_⟩:=(HS.out.below HB.out) y (by rw[HN.out];exact b7);cases ea;have d8:(y:Int)<(n:Int):=by omega
   have d6:(i:Int)<(m:Int):=by omega
   have NX:Hid (flt (zcf S mk) (P.take (i+1))=l++(if (nd S y).m=mk then [(y:Int)] else [])):=by
    have e:=zgW (zcf S mk) P i (by rw[HM.out];exact U);rw[hy] at e;show flt _ _=_;rw[e,<- HE.out];unfold zcf;rw[yi];by_cases h:(nd S y).m=mk <;> simp[h]
   clear HE hy c5;generalize (nd S y).m=hh at *;by_cases M:hh=mk
   ·subst M;have E2:Hid (l++[(y:Int)]=flt (zcf S hh) (P.take (i+1))):=(by rw[NX.out,yb rfl]:l++[(y:Int)]=flt (zcf S hh) (P.take (i+1)));have OB:Hid (∀ k,(Value.slice qa Z qc).ownBlock=some k->w.heap.size+1<=k):=fun k hk=>(I.out.lt k hk).1;have c8:Z<=1000:=by omega
    clear NX
    go_wp2_with (at_builtin;refine wpList_append_own _ rfl _ _ 48 rfl (w.heap.size+1) 3 i0 (.int .i64 0) 1 8 Tryz.underlying48 b2 b8 b9 c6 rfl (by decide) _ _ _ rfl (I.out.alloc _) ⟨wr.heap.size,0,none⟩ 1 1 [.int .i64 (y:Int)] rfl rfl ?c1 ?c2 ?c3 ?c4 ?c5 ?_)
    case c2=>first|rfl|(intro u hu;simp at hu;subst hu;rfl)|simp
    case c3=>unfold maxLen;omega
    case c4=>omega
    case c5=>first|omega|(simp;omega)
    case c1=>first|(go_simp;done)|(intro j u hj;match j,hj with|0,hj=>(cases hj;go_simp)|(j+1),hj=>simp at hj)
    intro v' w2 F E _;have J:Below (w.heap.size+1) wr w2:=((yk _ wr).alloc (by omega) _).grown E (by simp;omega) (fun k hk=>OB.out k hk);have a9:Hid (Below w.heap.size w w2):=HB.out.trans (J.mono (by omega));have b0:=(J.cell (p:=⟨w.heap.size,0,none⟩) (by show w.heap.size < _;omega)).trans cs
    have O:Hid (w2.ownsRow (w.heap.size+1) 3 1 v' (l++[(y:Int)]).length ((l++[(y:Int)]).map (Value.int .i64))):=by
     have h2:=F;rw[show (l++[(y:Int)]).length=Z+1 by simp[D.out],List.map_append];exact h2
    have b6:w.heap.size+1<=w2.heap.size:=yE a7 J.size;clear F E J cs I
    go_wp2_with fail
    go_roundg (m-(i+1))
    case measure=>omega
    case rel=>exact⟨i+1,l++[(y:Int)],by omega,by omega,by go_num,by simp[D.out];omega,a9,b0,b6,O,E2⟩
   ·have d4:(hh == mk)=false:=beq_eq_false_iff_ne.2 M;have d5:decide (hh=mk)=false:=decide_eq_false M;have E2:Hid (l=flt (zcf S mk) (P.take (i+1))):=(by rw[NX.out,ya M];simp:l=flt (zcf S mk) (P.take (i+1)));have O:Hid (wr.ownsRow (w.heap.size+1) 3 1 (.slice qa Z qc) l.length (l.map (Value.int .i64))):=(by rw[D.out];exact I.out:wr.ownsRow (w.heap.size+1) 3 1 (.slice qa Z qc) l.length (l.map (Value.int .i64)));clear NX I
    go_wp2
    go_roundg (m-(i+1))
    case measure=>omega
    case rel=>exact⟨i+1,l,by omega,by omega,by go_num,by rw[D.out];omega,HB,cs,a7,O,E2⟩
  ·have b3:i=m:=by omega
   subst b3;have e:=HE.out;rw[List.take_of_length_le (by rw[HM.out];omega),<- R0.out] at e
   have OW:Hid (wr.ownsRow w.heap.size 3 1 (.slice qa Z qc) a5.length (a5.map (Value.int .i64))):=by
    have h2:=zfz I.out (show w.heap.size<=w.heap.size+1 by omega);rw[<- D.out,e] at h2;rw[<- D.out,e];exact h2
   clear HE e I
   go_wp2
   go_ret;exact⟨_,rfl,HB.out,OW.out⟩
structure Slt where
 pl:Int
 num:Int
 gv:List Int
def zuh(S:List Nd)(x:Int):Int:=(nd S x.toNat).t-90
def zdd(S:List Nd)(H:Nat)(out:List Slt)(x:Int):List Slt :=
 if zuh S x<0 then out else out++[⟨x,zuh S x,if out.any (fun s=>decide (s.num=zuh S x)) then [] else zbV S H (zuh S x)⟩]
def zbr(S:List Nd)(H:Nat)(l:List Int):List Slt:=l.foldl (zdd S H) []
def zbN(S:List Nd)(H:Nat):List Slt:=if zbW S H = -1 then [] else zbr S H (zaW S S.length (zbW S H).toNat)
theorem zdh{S:List Nd}{H:Nat}{mk x:Int}:x ∈ zbV S H mk↔x ∈ (nd S H).ks/\(nd S x.toNat).m=mk:=by
 unfold zbV;rw[zlP];unfold zcf;simp
theorem zeQ(S:List Nd)(H:Nat)(l:List Int)(x:Int):zbr S H (l++[x])=zdd S H (zbr S H l) x:=by
 unfold zbr;rw[List.foldl_append];rfl
theorem zeG{α:Type}{P:List α->Prop}(h0:P [])(h1:∀ l x,P l->P (l++[x]))(l:List α):P l:=by
 have:∀ n,∀ l:List α,l.length=n->P l:=by
  intro n
  induction n with
  | zero=>intro l hl;cases l with|nil=>exact h0|cons=>cases hl
  | succ n E =>
   intro l hl;have D:l≠[]:=by intro e;subst e;cases hl
   rw[<- List.dropLast_concat_getLast D];exact h1 _ _ (E _ (by rw[List.length_dropLast];omega))
 exact this _ l rfl
theorem zjT{S:List Nd}{H:Nat}(l:List Int):∀ s ∈ zbr S H l,s.pl ∈ l/\s.num=zuh S s.pl/\0<=s.num/\(s.gv=[]\/s.gv=zbV S H s.num):=by
 induction l using zeG with
 | h0=>intro s hs;cases hs
 | h1 l x E =>
  intro s hs;rw[zeQ] at hs;unfold zdd at hs
  split at hs
  ·obtain⟨h1,D⟩:=E s hs;exact⟨List.mem_append_left _ h1,D⟩
  ·rename_i hn;rcases List.mem_append.1 hs with hs|hs
   ·obtain⟨h1,D⟩:=E s hs;exact⟨List.mem_append_left _ h1,D⟩
   ·have e:=List.mem_singleton.1 hs;subst e;refine⟨by simp,rfl,by dsimp only;omega,?_⟩;dsimp only;split
    ·exact Or.inl rfl
    ·exact Or.inr rfl
theorem znB(S:List Nd)(H:Nat)(l:List Int):(zbr S H l).map Slt.pl=l.filter (fun x=>decide (0<=zuh S x)):=by
 induction l using zeG with
 | h0=>rfl
 | h1 l x D =>
  rw[zeQ,List.filter_append,<- D];unfold zdd;split
  ·rename_i h;have:¬ 0<=zuh S x:=by omega
   simp[this]
  ·rename_i h;have:0<=zuh S x:=by omega
   simp[this]
theorem znA(S:List Nd)(H:Nat)(l:List Int):(zbr S H l).length<=l.length:=by
 have h:=congrArg List.length (znB S H l);rw[List.length_map] at h;rw[h];exact List.length_filter_le _ _
theorem zrV(S:List Nd)(H:Nat)(l:List Int):(zbr S H l).Pairwise (fun s F=>F.gv=[]\/s.num≠F.num):=by
 induction l using zeG with
 | h0=>exact List.Pairwise.nil
 | h1 l x I =>
  rw[zeQ];unfold zdd;split
  ·exact I
  ·rw[List.pairwise_append];refine⟨I,List.pairwise_singleton _ _,fun s hs F E=>?_⟩;have e:=List.mem_singleton.1 E;subst e;dsimp only;split
   ·exact Or.inl rfl
   ·rename_i D;right;intro e;exact D (List.any_eq_true.2 ⟨s,hs,decide_eq_true e⟩)
theorem zuQ{S:List Nd}{H:Nat}{l:List Int}{s I:Slt}(hs:s ∈ zbr S H l)(F:I ∈ zbr S H l){c:Int}(hc:c ∈ s.gv)(D:c ∈ I.gv):s=I:=by
 obtain⟨_,_,_,h1⟩:=zjT l s hs;obtain⟨_,_,_,h2⟩:=zjT l I F;have U:s.gv≠[]:=fun e=>by rw[e] at hc;cases hc
 have Z:I.gv≠[]:=fun e=>by rw[e] at D;cases D
 have e1:=h1.resolve_left U;have e2:=h2.resolve_left Z;rw[e1] at hc;rw[e2] at D;have O:=(zdh.1 hc).2;have T:=(zdh.1 D).2;have J:=zrV S H l;obtain⟨i,hi,rfl⟩:=List.getElem_of_mem hs;obtain⟨j,M,rfl⟩:=List.getElem_of_mem F;rw[List.pairwise_iff_getElem] at J;rcases Nat.lt_trichotomy i j with E|e|E
 ·rcases J i j hi M E with h|h
  ·exact absurd h Z
  ·exact absurd (O.symm.trans T) h
 ·subst e;rfl
 ·rcases J j i M hi E with h|h
  ·exact absurd h U
  ·exact absurd (T.symm.trans O) h
def zht(S:List Nd):Nat->Nat->List Int
 | 0,_=>[]
 | h+1,p=>match (zbN S h).find? (fun s=>decide (s.pl=(p:Int))) with
  | some s=>s.gv
  | none=>zht S h p
def zvN(S:List Nd)(h:Nat)(L:List Slt)(p:Nat):List Int:=match L.find? (fun s=>decide (s.pl=(p:Int))) with
  | some s=>s.gv
  | none=>zht S h p
theorem ziN{S:List Nd}:∀ {h p:Nat} {c:Int},c ∈ zht S h p->∃ H s,H<h/\s ∈ zbN S H/\s.pl=(p:Int)/\c ∈ s.gv
 | 0,_,_,hc=>by cases hc
 | h+1,p,c,hc=>by
  unfold zht at hc
  split at hc
  ·rename_i s hs;exact⟨h,s,by omega,List.mem_of_find?_eq_some hs,by have:=List.find?_some hs;simpa using this,hc⟩
  ·obtain⟨H,s,h1,D⟩:=ziN hc;exact⟨H,s,by omega,D⟩
theorem zhJ{S:List Nd}:∀ {h p:Nat},zht S h p=[]\/∃ H s,H<h/\s ∈ zbN S H/\zht S h p=s.gv
 | 0,_=>Or.inl rfl
 | h+1,p=>by
  unfold zht;split
  ·rename_i s hs;exact Or.inr ⟨h,s,by omega,List.mem_of_find?_eq_some hs,rfl⟩
  ·rcases zhJ (S:=S) (h:=h) (p:=p) with e |⟨H,s,h1,D⟩
   ·exact Or.inl e
   ·exact Or.inr ⟨H,s,by omega,D⟩
theorem zdl{S:List Nd}(h:WF S){H:Nat}{s:Slt}(hs:s ∈ zbN S H):∃ r k j:Nat,r<S.length/\(nd S r).h=H/\zbW S H=r/\s.pl=k/\k<S.length/\Up S j k r/\s.num=zuh S s.pl/\0<=s.num/\(s.gv=[]\/s.gv=zbV S H s.num)/\s ∈ zbr S H (zaW S S.length r):=by
 unfold zbN at hs
 split at hs
 ·cases hs
 ·rename_i I;obtain⟨r,h1,D,E,_⟩:=zcj S H I;rw[D,yi] at hs;obtain⟨M,O,T,U⟩:=zjT _ s hs;obtain⟨q,e,F,_,j,_,J⟩:=zcs h h1 (h.deep_all h1) _ M;exact⟨r,q,j,h1,E,D,e,F,J,O,T,U,hs⟩
theorem zxw{S:List Nd}(h:WF S):zhu S (zht S S.length) where
 some:=fun p hp c hc=>by
  obtain⟨H,s,h1,F,h3,D⟩:=ziN hc;obtain⟨r,k,j,r1,r2,_,r3,r4,r5,_,_,I,_⟩:=zdl h F;have:k=p:=by omega
  subst this;have e:=I.resolve_left (fun e=>by rw[e] at D;cases D);rw[e] at D;exact⟨H,r,j,h1,r1,r2,r5,(zdh.1 D).1⟩
 one:=fun p p' c hp a7 hc T=>by
  obtain⟨H,s,h1,F,h3,D⟩:=ziN hc;obtain⟨H', s', M,O,a6,E⟩:=ziN T;obtain⟨r,_,_,r1,r2,rr,_,_,_,_,_,I,r7⟩:=zdl h F;obtain⟨r', _,_,a8,a9,b0,_,_,_,_,_,U,Z⟩:=zdl h O;have e:=I.resolve_left (fun e=>by rw[e] at D;cases D);have e' := U.resolve_left (fun e=>by rw[e] at E;cases E);have k1:=D;have k2:=E;rw[e] at k1;rw[e'] at k2;obtain⟨k,ek,_,_,p1,_⟩:=h.kid h1 (zdh.1 k1).1;obtain⟨k', a5,_,_,p2,_⟩:=h.kid M (zdh.1 k2).1;have:k=k' := by omega
  subst this;have:H=H' := by omega
  subst this;have:r=r' := by omega
  subst this;have:=zuQ r7 Z D E;subst this;omega
 nodup:=fun p hp=>by
  rcases zhJ (S:=S) (h:=S.length) (p:=p) with e |⟨H,s,h1,F,e⟩
  ·rw[e];exact List.nodup_nil
  ·rw[e];obtain⟨_,_,_,_,_,_,_,_,_,_,_,I,_⟩:=zdl h F;rcases I with J|J
   ·rw[J];exact List.nodup_nil
   ·rw[J];unfold zbV flt;exact(h.kids_nodup h1).filter _
theorem zjx{S:List Nd}(h:WF S){H:Nat}:((zbN S H).map Slt.pl).Nodup:=by
 unfold zbN;split
 ·exact List.nodup_nil
 ·rename_i E;obtain⟨r,h1,D,_⟩:=zcj S H E;rw[D,yi,znB];exact(zeJ h h1 (yj _) (h.deep_all h1)).filter _
theorem zth{S:List Nd}{h:Nat}{L:List Slt}(hn:(L.map Slt.pl).Nodup){i:Nat}(hi:i<L.length)(p:Nat):zvN S h (L.take (i+1)) p=if L[i].pl=(p:Int) then L[i].gv else zvN S h (L.take i) p:=by
 unfold zvN;rw[List.take_succ_eq_append_getElem hi,List.find?_append];by_cases e:L[i].pl=(p:Int)
 ·rw[yb e]
  have D:(L.take i).find? (fun s=>decide (s.pl=(p:Int)))=none:=by
   rw[List.find?_eq_none];intro s hs hd;have E:=of_decide_eq_true hd;obtain⟨j,F,rfl⟩:=List.getElem_of_mem hs;rw[List.length_take] at F;rw[List.getElem_take] at E;have:=(List.nodup_iff_pairwise_ne.1 hn);rw[List.pairwise_iff_getElem] at this;have:=this j i (by rw[List.length_map];omega) (by rw[List.length_map];omega) (by omega);rw[List.getElem_map,List.getElem_map] at this;exact this (E.trans e.symm)
  rw[D];simp[e]
 ·rw[ya e]
  cases (L.take i).find? (fun s=>decide (s.pl=(p:Int))) <;> simp[e]
theorem zti{S:List Nd}(h:WF S){D p:Nat}(hh:D<=S.length):(zht S D p).length<=24/\∀ c ∈ zht S D p,∃ k:Nat,c=k/\k<S.length:=by
 have hs:=h.small;rcases zhJ (S:=S) (h:=D) (p:=p) with e |⟨H,s,h1,M,e⟩
 ·rw[e];exact⟨by simp,fun c hc=>by cases hc⟩
 ·rw[e];obtain⟨_,_,_,_,_,_,_,_,_,_,_,T,_⟩:=zdl h M;rcases T with E|E
  ·rw[E];exact⟨by simp,fun c hc=>by cases hc⟩
  ·rw[E]
   have J:∀ c ∈ zbV S H s.num,∃ k:Nat,c=k/\k<S.length:=fun c hc=>by
    obtain⟨k,e,F,_⟩:=h.kid (by omega) (zdh.1 hc).1;exact⟨k,e,F⟩
   refine⟨?_,J⟩;have I:(zbV S H s.num).Nodup:=by unfold zbV flt;exact(h.kids_nodup (by omega)).filter _
   have:=I.length_le_of_subset (l₂:=(List.range S.length).map (fun i:Nat=>(i:Int))) (fun x O=>by
    obtain⟨k,rfl,F⟩:=J x O;exact List.mem_map.2 ⟨k,List.mem_range.2 F,rfl⟩)
   simp at this;omega
def slt(L:List Slt)(i:Nat):Slt:=L.getD i ⟨0,0,[]⟩
def zgc(w:World)(a:Option Addr)(L:List Slt):Prop :=
 ∀ i,i<L.length->∃ b o,a=some ⟨b,o,none⟩/\w.cell? ⟨b,o+i*3,none⟩=some (.int .i64 (slt L i).pl)/\w.cell? ⟨b,o+i*3+1,none⟩=some (.int .i64 (slt L i).num)/\∃ ga gc,w.cell? ⟨b,o+i*3+2,none⟩=some (.slice ga (slt L i).gv.length gc)/\zaj w ga (slt L i).gv
theorem zgc.below{w w' : World}{a:Option Addr}{L:List Slt}(h:zgc w a L)(E:Below w.heap.size w w'):zgc w' a L:=fun i hi=>by
 obtain⟨b,o,e,h1,F,ga,gc,I,J⟩:=h i hi;have D:b<w.heap.size:=yd _ _ h1;exact⟨b,o,e,(E.cell (by exact D)).trans h1,(E.cell (by exact D)).trans F,ga,gc,(E.cell (by exact D)).trans I,J.below E⟩
theorem zeR{L:List Slt}{i:Nat}(h:i<L.length):slt L i=L[i]:=zae L _ h
def zsl(K:Nat)(D:Array Value)(p:Slt->Bool)(w:World):Prop :=
 ∀ (x:Slt) (k:Value) (E:World),Below w.heap.size w E->Calls Tryz.prog K (#[.agg #[.int .i64 x.pl,.int .i64 x.num,k]] ++ D) E fun e F=>e=.returned (.bool (p x))/\Below E.heap.size E F
theorem zoz(K:Nat)(E:Array Value)(p:Slt->Bool)(a:Option Addr)(c:Nat)(L:List Slt)(w:World)(U:L.length<=9223372036854775807)(T:zgc w a L)
  (eg:∀ args w,(callFunc K args).run Tryz.prog w=.ok (.enter K args) w) (Z:zsl K E p w) :
  Calls Tryz.prog 226 #[.slice a L.length c,.func (.func K) #[] E] w fun e w' => ∃ r:Int,e=.returned (.int .i64 r)/\Below w.heap.size w w' /\
   ((r = -1/\∀ i,i<L.length->p (slt L i)=false)\/(∃ k:Nat,k<L.length/\r=k/\p (slt L k)=true/\∀ i,i<k->p (slt L i)=false)):=by
 have HS:Hid (zgc w a L):=T;have HF:Hid (zsl K E p w):=Z;clear T Z;generalize hn:L.length=n at *;have HN:Hid _:=hn;clear hn
 go_enter Tryz.func226,Tryz.ntmps226
 go_wp2
 go_loopg [8] n (fun g s8 wr=>∃ k:Nat,k<=n/\n-k<=g/\s8=.int .i64 k/\Below w.heap.size w wr/\Hid (∀ i,i<k->p (slt L i)=false))
 case atStart=>exact⟨0,by omega,by omega,rfl,yk _ _,fun i hi=>by omega⟩
 case round =>
  obtain⟨k,hk,hg,rfl,F,A⟩:=hrel;by_cases J:k<n
  ·have a5:(k:Int)<(n:Int):=by omega
   obtain⟨b,o,rfl,c0,c1,ka,kc,c2,_⟩:=(HS.out.below F) k (by rw[HN.out];exact J);have D:=fun v=>HF.out (slt L k) v wr F
   cases hq:p (slt L k) with
   | true =>
    have M:Hid (p (slt L k)=true):=hq;rw[hq] at D;clear hq;generalize O:slt L k=x at D c0 c1 c2;clear O
    go_wp2_with (go_at_fn K;refine(D _).mono ?_;rintro e w' ⟨rfl,I⟩)
    go_ret;exact⟨k,rfl,F.trans (I.mono F.size),Or.inr ⟨k,J,rfl,M.out,A.out⟩⟩
   | false =>
    have M:Hid (p (slt L k)=false):=hq;rw[hq] at D;clear hq;generalize O:slt L k=x at D c0 c1 c2;clear O
    go_wp2_with (go_at_fn K;refine(D _).mono ?_;rintro e w' ⟨rfl,I⟩)
    go_roundg (n-(k+1))
    case measure=>omega
    case rel =>
     refine⟨k+1,by omega,by omega,by go_num,F.trans (I.mono F.size),(show Hid _ from fun i hi=>?_)⟩;by_cases e:i=k
     ·subst e;exact M.out
     ·exact A.out i (by omega)
  ·have:k=n:=by omega
   subst this
   go_wp2
   go_ret;exact⟨-1,rfl,F,Or.inl ⟨rfl,A.out⟩⟩
theorem zkk(K:Nat)(F:Array Value)(p:Slt->Bool)(a:Option Addr)(c:Nat)(L:List Slt)(w:World)(J:L.length<=9223372036854775807)(T:zgc w a L)
  (Z:∀ args w,(callFunc K args).run Tryz.prog w=.ok (.enter K args) w) (U:zsl K F p w) :
  Calls Tryz.prog 221 #[.slice a L.length c,.func (.func K) #[] F] w fun e w' => e=.returned (.bool (L.any p))/\Below w.heap.size w w' := by
 have h:=zoz K F p a c L w J T Z U;have E:∀ k,k<L.length->p (slt L k)=true->L.any p=true:=fun k M O=>List.any_eq_true.2 ⟨slt L k,by rw[zeR M];exact List.getElem_mem M,O⟩
 have D:(∀ i,i<L.length->p (slt L i)=false)->L.any p=false:=fun H=>by
  rw[List.any_eq_false];intro x hx;obtain⟨i,hi,rfl⟩:=List.getElem_of_mem hx;have:=H i hi;rw[zeR hi] at this;simp[this]
 have H:Hid _:=E;have N:Hid _:=D;clear E D T U
 go_enter Tryz.func221,Tryz.ntmps221
 go_wp2_with (go_at_call 226;refine h.mono ?_;rintro e w' ⟨r,rfl,hb,hr⟩)
 go_ret;refine⟨?_,hb⟩;rcases hr with ⟨rfl,I⟩ |⟨k,M,rfl,O,_⟩
 ·rw[N.out I];rfl
 ·rw[H.out k M O];simp
theorem znz(x:Slt)(k:Value)(q:Nat)(y:Int)(w:World)(D:w.cell? ⟨q,0,none⟩=some (.int .i64 y)) :
  Calls Tryz.prog 222 #[.agg #[.int .i64 x.pl,.int .i64 x.num,k],.pointer (some ⟨q,0,none⟩)] w fun e w' => e=.returned (.bool (decide (x.num=y)))/\Below w.heap.size w w' := by
 obtain⟨pl,num,gv⟩:=x;dsimp only;have E:=yd _ _ D;by_cases e:num=y
 ·subst e;rw[decide_eq_true rfl]
  go_enter Tryz.func222,Tryz.ntmps222
  go_wp2
  go_ret;exact⟨rfl,(yk _ _).alloc (yj _) _⟩
 ·rw[decide_eq_false e];have F:(num == y)=false:=by simpa using e
  go_enter Tryz.func222,Tryz.ntmps222
  go_wp2
  go_ret;exact⟨rfl,(yk _ _).alloc (yj _) _⟩
theorem zqT(a:Option Addr)(c:Nat)(L:List Slt)(q:Nat)(y:Int)(w:World)(D:L.length<=9223372036854775807)(F:zgc w a L)(E:w.cell? ⟨q,0,none⟩=some (.int .i64 y)) :
  Calls Tryz.prog 221 #[.slice a L.length c,.func (.func 222) #[] #[.pointer (some ⟨q,0,none⟩)]] w fun e w' => e=.returned (.bool (L.any fun s=>decide (s.num=y)))/\Below w.heap.size w w' :=
 zkk 222 _ (fun s=>decide (s.num=y)) a c L w D F (enters_of Tryz.func222 (by kernel_rfl) rfl) (fun x k I h1=>znz x k q y I ((h1.cell (by exact yd _ _ E)).trans E))
structure Fr where
 p:Int
 o:Int
 m:Int
 t:Int
 g:Bool
 deriving DecidableEq
def fr(L:List Fr)(i:Nat):Fr:=L.getD i ⟨0,0,0,0,false⟩
theorem zgs{L:List Fr}{i:Nat}(h:i<L.length):fr L i=L[i]:=zae L _ h
theorem zzN{L M:List Fr}(hl:L.length=M.length)(h:∀ i,i<L.length->fr L i=fr M i):L=M:=by
 apply List.ext_getElem hl;intro i h1 D;have:=h i h1
 rwa [zgs h1,zgs D] at this
theorem zBm{P:Int->Prop}(h:∀ a:Fin 8,P ((a.val:Nat):Int)){a:Int}(h0:0<=a)(D:a<=7):P a:=by
 obtain⟨n,rfl⟩:=Int.eq_ofNat_of_zero_le h0;exact h ⟨n,by omega⟩
def zgJ(x:Fr)(k:Nat):Prop:=if k=0 then x.p = -1 else 0<=x.p/\x.p<=(k:Int)-1
def zdM(x:Fr):Prop:=(0<=x.o/\x.o<=9)/\(0<=x.m/\x.m<=7)/\(0<=x.t/\x.t<=1000)
def zgV(x y:Fr):Prop:=bits .andNot .i64 x.m y.m=0/\(x.g=true\/y.g=false)
instance (x:Fr) (k:Nat):Decidable (zgJ x k):=by unfold zgJ;infer_instance
instance (x:Fr):Decidable (zdM x):=by unfold zdM;infer_instance
instance (x y:Fr):Decidable (zgV x y):=by unfold zgV;infer_instance
def frE(L:List Fr)(k:Nat):Int:=if ¬ zgJ (fr L k) k then 4 else if ¬ zdM (fr L k) then 2 else if 0<k/\¬ zgV (fr L k) (fr L (fr L k).p.toNat) then 3 else 0
def zon(L:List Fr):Nat->Nat->Int
 | _,0=>0
 | i,n+1=>if frE L i=0 then zon L (i+1) n else frE L i
def zom(L:List Fr)(i:Nat):Int:=zon L i (L.length-i)
def zaM(L:List Fr):Int:=if 8<L.length then 1 else zom L 0
theorem zta{L:List Fr}{i:Nat}(h:i<L.length):zom L i=if frE L i=0 then zom L (i+1) else frE L i:=by
 unfold zom;obtain⟨n,hn⟩:∃ n,L.length-i=n+1:=⟨L.length-i-1,by omega⟩;rw[hn,zon,show L.length-(i+1)=n by omega]
theorem zvD{L:List Fr}{i:Nat}(h:L.length<=i):zom L i=0:=by
 unfold zom;rw[show L.length-i=0 by omega,zon]
structure zcl (L:List Fr):Prop where
 few:L.length<=8
 ok:∀ i,i<L.length->frE L i=0
theorem zkM{L:List Fr}:∀ n i,zon L i n=0↔∀ j,i<=j->j<i+n->frE L j=0
 | 0,i=>by simp[zon];omega
 | n+1,i=>by
  rw[zon];by_cases h:frE L i=0
  ·rw[yb h,zkM n (i+1)];constructor
   ·intro H j h1 D;by_cases e:j=i
    ·rw[e];exact h
    ·exact H j (by omega) (by omega)
   ·intro H j h1 D;exact H j (by omega) (by omega)
  ·rw[ya h];constructor
   ·intro H;exact absurd H h
   ·intro H;exact H i (yj _) (by omega)
theorem zdq{L:List Fr}:zaM L=0↔zcl L:=by
 unfold zaM zom;by_cases h:8<L.length
 ·rw[yb h];exact⟨fun e=>by omega,fun R=>absurd R.few (by omega)⟩
 ·rw[ya h,zkM];exact⟨fun H=>⟨by omega,fun i hi=>H i (by omega) (by omega)⟩,fun R j _ D=>R.ok j (by omega)⟩
theorem zcM{L:List Fr}{k:Nat}:frE L k=0↔zgJ (fr L k) k/\zdM (fr L k)/\(0<k->zgV (fr L k) (fr L (fr L k).p.toNat)):=by
 unfold frE;by_cases h1:zgJ (fr L k) k
 ·rw[ya (not_not_intro h1)];by_cases E:zdM (fr L k)
  ·rw[ya (not_not_intro E)];by_cases D:0<k/\¬ zgV (fr L k) (fr L (fr L k).p.toNat)
   ·rw[yb D];exact⟨fun e=>by omega,fun⟨_,_,h⟩=>absurd (h D.1) D.2⟩
   ·rw[ya D];refine⟨fun _=>⟨h1,E,fun h0=>?_⟩,fun _=>rfl⟩;by_cases F:zgV (fr L k) (fr L (fr L k).p.toNat)
    ·exact F
    ·exact absurd ⟨h0,F⟩ D
  ·rw[yb E];exact⟨fun e=>by omega,fun⟨_,h,_⟩=>absurd h E⟩
 ·rw[yb h1];exact⟨fun e=>by omega,fun⟨h,_⟩=>absurd h h1⟩
theorem zcl.first{L:List Fr}(R:zcl L)(h:0<L.length):(fr L 0).p = -1:=by
 have:=(zcM.1 (R.ok 0 h)).1;unfold zgJ at this;simpa using this
theorem zcl.up{L:List Fr}(R:zcl L){i:Nat}(h:i<L.length)(h0:0<i):∃ q:Nat,(fr L i).p=q/\q<i/\zgV (fr L i) (fr L q):=by
 obtain⟨h1,_,F⟩:=zcM.1 (R.ok i h);unfold zgJ at h1;rw[ya (by omega)] at h1;obtain⟨q,E⟩:=Int.eq_ofNat_of_zero_le h1.1;have D:=F h0;rw[E] at D;refine⟨q,E,by omega,D⟩
theorem zcl.low{L:List Fr}(R:zcl L){i:Nat}(h:i<L.length):(fr L i).p<i:=by
 by_cases h0:0<i
 ·obtain⟨q,E,D,_⟩:=R.up h h0;omega
 ·have:i=0:=by omega
  subst this;rw[R.first h];omega
theorem zcl.may{L:List Fr}(R:zcl L){i:Nat}(h:i<L.length):0<=(fr L i).m/\(fr L i).m<=7:=(zcM.1 (R.ok i h)).2.1.2.1
def zcV(L:List Fr):Nat->Int->Int->Bool
 | 0,_,_=>false
 | n+1,k,top=>if 0<=k/\k<L.length then (if k=top then true else zcV L n (fr L k.toNat).p top) else false
def inF(L:List Fr)(k top:Int):Bool:=zcV L L.length k top
theorem zer{L:List Fr}{n:Nat}{k top:Int}(h:¬ (0<=k/\k<L.length)):zcV L n k top=false:=by
 cases n with
 | zero=>rfl
 | succ n=>rw[zcV,ya h]
theorem znJ{L:List Fr}(R:zcl L)(top:Int):∀ (n m:Nat) (k:Int),k<n->k<m->zcV L n k top=zcV L m k top
 | 0,m,k,h1,E=>by rw[zer (by omega),zer (by omega)]
 | n+1,0,k,h1,E=>by rw[zer (by omega),zer (by omega)]
 | n+1,m+1,k,h1,E=>by
  rw[zcV,zcV];by_cases D:0<=k/\k<L.length
  ·rw[yb D,yb D];by_cases e:k=top
   ·rw[yb e,yb e]
   ·rw[ya e,ya e];have:=R.low (i:=k.toNat) (by omega);exact znJ R top n m _ (by omega) (by omega)
  ·rw[ya D,ya D]
theorem ztw{L:List Fr}{k:Nat}(h:k<L.length):inF L k k=true:=by
 unfold inF;obtain⟨n,hn⟩:∃ n,L.length=n+1:=⟨L.length-1,by omega⟩;rw[hn,zcV,yb (by omega),yb rfl]
theorem zwb{L:List Fr}(R:zcl L){i:Nat}{top:Int}(h:i<L.length)(D:(i:Int)≠top):inF L i top=inF L (fr L i).p top:=by
 unfold inF;have hl:=R.low h;obtain⟨n,hn⟩:∃ n,L.length=n+1:=⟨L.length-1,by omega⟩
 have e:zcV L L.length (i:Int) top=zcV L n (fr L i).p top:=by
  rw[hn,zcV,yb (by omega),ya D,yi]
 rw[e];exact znJ R top _ _ _ (by omega) (by omega)
def zaA(L:List Fr)(k:Int):Int:=if ¬ (0<=k/\k<L.length) then 4 else if (fr L k.toNat).g=true then 5 else 0
def zcw(L:List Fr)(k:Int):Int:=if zaM L=0 then zaA L k else zaM L
theorem zfJ{L:List Fr}{k:Int}(h:zaA L k=0):∃ q:Nat,k=q/\q<L.length/\(fr L q).g=false:=by
 unfold zaA at h;by_cases h1:0<=k/\k<L.length
 ·rw[ya (not_not_intro h1)] at h;obtain⟨q,rfl⟩:=Int.eq_ofNat_of_zero_le h1.1
  cases hg:(fr L q).g with
  | true=>rw[yb (by exact hg)] at h;cases h
  | false=>exact⟨q,rfl,by omega,hg⟩
 ·rw[yb h1] at h;cases h
theorem zfp{L:List Fr}{k:Int}(h:zcw L k=0):zcl L/\∃ q:Nat,k=q/\q<L.length/\(fr L q).g=false:=by
 unfold zcw at h;by_cases h1:zaM L=0
 ·rw[yb h1] at h;exact⟨zdq.1 h1,zfJ h⟩
 ·rw[ya h1] at h;exact absurd h h1
def zkc(L:List Fr)(k:Int):List Fr:=(List.range L.length).map fun i=>{ fr L i with g:=(fr L i).g || inF L i k }
theorem zdp(L:List Fr)(k:Int):(zkc L k).length=L.length:=by unfold zkc;simp
theorem zpA{L:List Fr}{k:Int}{i:Nat}(h:i<L.length):fr (zkc L k) i={ fr L i with g:=(fr L i).g || inF L i k }:=by
 rw[zgs (by rw[zdp];exact h)];unfold zkc;simp
theorem zsX{L:List Fr}(R:zcl L)(k:Int):zcl (zkc L k):=by
 refine⟨by rw[zdp];exact R.few,fun i hi=>?_⟩;rw[zdp] at hi;obtain⟨a1,a2,a3⟩:=zcM.1 (R.ok i hi);rw[zcM,zpA hi];refine⟨a1,a2,fun h0=>?_⟩;dsimp only;obtain⟨q,E,F,D⟩:=R.up hi h0;rw[E,yi,zpA (by omega)];refine⟨D.1,?_⟩;dsimp only;by_cases e:(i:Int)=k
 ·left;subst e;rw[ztw hi,Bool.or_true]
 ·rw[zwb R hi e,E];rcases D.2 with h|h
  ·left;rw[h,Bool.true_or]
  ·rw[h]
   cases hin:inF L (q:Int) k with
   | true=>left;rw[Bool.or_true]
   | false=>right;rfl
def zkt(L:List Fr)(k:Int):Nat:=L.countP (fun f=>decide (f.p=k) && !f.g)
theorem zwo{L:List Fr}{j:Nat}(k:Int)(h:j<L.length):zkt (L.take (j+1)) k=zkt (L.take j) k+(if (fr L j).p=k/\(fr L j).g=false then 1 else 0):=by
 unfold zkt;rw[List.take_succ_eq_append_getElem h,List.countP_append,zgs h];by_cases h1:L[j].p=k
 ·cases hg:L[j].g <;> simp[hg,h1]
 ·simp[h1]
end Go.Proofs.YtcbcpomacdngmaaGreat
