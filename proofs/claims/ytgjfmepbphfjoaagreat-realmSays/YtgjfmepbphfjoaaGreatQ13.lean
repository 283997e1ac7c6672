/-
  x
-/
import Derived.Test.YtgjfmepbphfjoaaGreatQ12
import Derived.BigRegion
namespace Go.Proofs.YtgjfmepbphfjoaaGreat
set_option maxRecDepth 100000
set_option maxHeartbeats 4000000
set_option linter.unusedVariables false
open Go.RowKit
def zsG(A:World)(b3 w:Nat)(k:Nat)(wr:World):Prop :=
 Off (fun b=>b=b3\/b=w) A wr/\(∃ g,wr.cell? ⟨b3,0,none⟩=some (.slice (some ⟨g,0,none⟩) 6 6)/\zae wr (some ⟨g,0,none⟩) (SK k)) /\
 (∀ i,i<3->wr.cell? ⟨w,i*2,none⟩=some (.int .i64 (if i<k then (i:Int) else 0))/\wr.cell? ⟨w,i*2+1,none⟩=some (.int .i64 (if i<k then 1 else 0))) /\
 (∀ o,wr.frozen? ⟨b3,o,none⟩=false)/\(∀ o,wr.frozen? ⟨w,o,none⟩=false)
theorem zdl{b w o A:Nat}(h:b≠w):(⟨b,o,none⟩:Addr)≠⟨w,A,none⟩:=fun e=>h (congrArg Addr.block e)
theorem zgb{b A o w:Nat}(h:o≠w):(⟨b,o,none⟩:Addr)≠⟨A,w,none⟩:=fun e=>h (congrArg Addr.off e)
theorem zsG.step{T wr M:World}{b3 w k D:Nat}(h:zsG T b3 w k wr)(A:b3≠w)(hk:k<3)(U:b3<wr.heap.size)(F:w<wr.heap.size)(I:Below wr.heap.size wr M)(hg:wr.heap.size<=D)(hS:∀ w3:World,(∀ b,D<=b->w3.heap[b]?=M.heap[b]?)->zae w3 (some ⟨D,0,none⟩) (SK (k+1))) :
  zsG T b3 w (k+1) (((M.setCell ⟨b3,0,none⟩ (.slice (some ⟨D,0,none⟩) 6 6)).setCell ⟨w,k*2,none⟩ (.int .i64 k)).setCell ⟨w,k*2+1,none⟩ (.int .i64 1)):=by
 obtain⟨J,⟨g,c3,_⟩,hh,f3,fh⟩:=h;have O:=(I.cell (p:=⟨b3,0,none⟩) U).trans c3;refine⟨?_,⟨D,?_,?_⟩,fun i hi=>?_,fun o=>?_,fun o=>?_⟩
 ·exact(((J.trans (Off.of_below I)).trans (zaK _ (Or.inl rfl) _)).trans (zaK _ (Or.inr rfl) _)).trans (zaK _ (Or.inr rfl) _)
 ·rw[World.cell?_setCell_other _ _ _ _ (zdl (Ne.symm A)),World.cell?_setCell_other _ _ _ _ (zdl (Ne.symm A))];exact World.cell?_setCell_same _ _ _ O
 ·refine hS _ (fun b a4=>?_);rw[yo _ _ _ _ (by show b≠w;omega),yo _ _ _ _ (by show b≠w;omega),yo _ _ _ _ (by show b≠b3;omega)]
 ·obtain⟨x0,x1⟩:=hh i hi;have y0:=(I.cell (p:=⟨w,i*2,none⟩) F).trans x0;have y1:=(I.cell (p:=⟨w,i*2+1,none⟩) F).trans x1;have V:(M.setCell ⟨b3,0,none⟩ (.slice (some ⟨D,0,none⟩) 6 6)).cell? ⟨w,i*2,none⟩=_:=(World.cell?_setCell_other _ _ _ _ (zdl A)).trans y0;have Z:(M.setCell ⟨b3,0,none⟩ (.slice (some ⟨D,0,none⟩) 6 6)).cell? ⟨w,i*2+1,none⟩=_:=(World.cell?_setCell_other _ _ _ _ (zdl A)).trans y1;by_cases e:i=k
  ·subst e;rw[yd (by omega),yd (by omega)];constructor
   ·rw[World.cell?_setCell_other _ _ _ _ (by simp)];exact World.cell?_setCell_same _ _ _ V
   ·refine World.cell?_setCell_same _ _ _ (u:=.int .i64 (if i<i then 1 else 0)) ?_;rw[World.cell?_setCell_other _ _ _ _ (by simp)];exact Z
  ·have e1:(if i<k+1 then (i:Int) else 0)=if i<k then (i:Int) else 0:=by
    by_cases h:i<k
    ·rw[yd h,yd (by omega)]
    ·rw[ya h,ya (by omega)]
   have e2:(if i<k+1 then (1:Int) else 0)=if i<k then (1:Int) else 0:=by
    by_cases h:i<k
    ·rw[yd h,yd (by omega)]
    ·rw[ya h,ya (by omega)]
   rw[e1,e2];constructor
   ·rw[World.cell?_setCell_other _ _ _ _ (zgb (by omega)),World.cell?_setCell_other _ _ _ _ (zgb (by omega))];exact V
   ·rw[World.cell?_setCell_other _ _ _ _ (zgb (by omega)),World.cell?_setCell_other _ _ _ _ (zgb (by omega))];exact Z
 ·rw[World.frozen?_setCell,World.frozen?_setCell,World.frozen?_setCell];exact(I.frozen (p:=⟨b3,o,none⟩) U).trans (f3 o)
 ·rw[World.frozen?_setCell,World.frozen?_setCell,World.frozen?_setCell];exact(I.frozen (p:=⟨w,o,none⟩) F).trans (fh o)
theorem heap_drew(X:World):X.drew.heap=X.heap:=rfl
def zhD(W:World)(A gs N:Nat)(st:(Nat->Bool) × List Int)(w:World):Prop :=
 Off (fun k=>k=A\/k=gs) W w/\w.rowIs gs 4 N (fun j=>.bool (st.1 j))/\(st.2.Nodup/\∀ x ∈ st.2,∃ j:Nat,j<N/\x=j/\st.1 j=true) /\
 ∃ v,w.heap[A]?=some (.cells #[v] 29 (0,0))/\w.ownsRow W.heap.size 3 1 v st.2.length (st.2.map (Value.int .i64))
theorem zhD.small{W F:World}{w gs N:Nat}{st:(Nat->Bool) × List Int}(h:zhD W w gs N st F):st.2.length<=N:=by
 obtain⟨_,_,⟨h1,A⟩,_⟩:=h
 have:=h1.length_le_of_subset (l₂:=(List.range N).map (fun i:Nat=>(i:Int))) (fun x hx=>by
  obtain⟨j,D,rfl,_⟩:=A x hx;exact List.mem_map.2 ⟨j,List.mem_range.2 D,rfl⟩)
 simpa using this
theorem zhD.below{W F w2:World}{I gs N:Nat}{st:(Nat->Bool) × List Int}(h:zhD W I gs N st F)(w:Below F.heap.size F w2):zhD W I gs N st w2:=by
 obtain⟨T,J,O,v,M,A⟩:=h;have D:=(Array.getElem?_eq_some_iff.1 M).1
 exact⟨T.trans (Off.of_below w),J.of_block (w.block gs J.lt),O,v,(w.block _ D).trans M,A.kept (row:=none) ⟨w.os,w.tape,w.output,w.size,fun k U _=>w.block k U⟩ (by
  cases hv:v.ownBlock with
  | none=>exact Or.inl rfl
  | some k=>exact Or.inr (fun e=>by cases e))⟩
theorem zhD.step{W O w2:World}{w gs N j:Nat}{st:(Nat->Bool) × List Int}(h:zhD W w gs N st O)(a7:w<W.heap.size)(b6:gs<W.heap.size)(a9:w≠gs)(hj:j<N)(hs:st.1 j=false){v T:Value}(hc:O.heap[w]?=some (.cells #[v] 29 (0,0)))(o1:Obj)
  (J:O.ownsRow W.heap.size 3 1 v st.2.length (st.2.map (Value.int .i64)))
  (F:w2.ownsRow W.heap.size 3 1 T (st.2.length+1) (st.2.map (Value.int .i64)++[.int .i64 (j:Int)])) (hg:((O.setCell ⟨gs,j,none⟩ (.bool true)).alloc o1).grownBy w2 v.ownBlock) :
  w2.heap[w]?=some (.cells #[v] 29 (0,0))/\(∀ k:Nat,∀ x t,O.heap[k]?=some (.cells #[x] t (0,0))->t≠29->t≠4->t≠3->(w2.setCell ⟨w,0,none⟩ T).heap[k]?=O.heap[k]?)/\zhD W w gs N (fun i=>if i=j then true else st.1 i,st.2++[(j:Int)]) (w2.setCell ⟨w,0,none⟩ T):=by
 obtain⟨V,hR,⟨a6,U⟩,v0,b5,_⟩:=h;have M:∀ k,v.ownBlock=some k->W.heap.size<=k:=fun k A=>(J.lt k A).1;have b9:=V.size
 have I:∀ k,k<W.heap.size->k≠gs->w2.heap[k]?=O.heap[k]?:=fun k A a8 =>
  (hg.block k (by simp;omega) (fun e=>by have:=M k e.symm;omega)).trans ((Below.heap_alloc _ _ _ (by simp;omega)).trans (yo _ _ _ _ (by exact a8)))
 have a4:w2.heap[gs]?=(O.setCell ⟨gs,j,none⟩ (.bool true)).heap[gs]? :=
  (hg.block gs (by simp;omega) (fun e=>by have:=M gs e.symm;omega)).trans (Below.heap_alloc _ _ _ (by simp;omega))
 have Z:w2.heap[w]?=some (.cells #[v] 29 (0,0)):=(I w a7 a9).trans hc;refine⟨Z,fun k x t A h1 h2 h3=>?_,?_,?_,⟨?_,?_⟩,T,znv Z,?_⟩
 ·have b8:=(Array.getElem?_eq_some_iff.1 A).1;have n1:k≠w:=fun e=>by rw[e,hc] at A;cases A;exact h1 rfl
  have n2:k≠gs:=fun e=>by
   obtain⟨a5,D,_⟩:=hR;rw[e,D] at A;cases A;exact h2 rfl
  rw[yo _ _ _ _ (by exact n1),hg.block k (by simp;omega) (fun e=>by
   rcases J.2 with ⟨hv,_⟩ |⟨g,cap,a5,hv,_,D,_⟩
   ·rw[hv] at e;cases e
   ·rw[hv] at e;have:k=g:=by simpa [Value.ownBlock] using e
    rw[this,D] at A;cases A;exact h3 rfl),Below.heap_alloc _ _ _ (by simp;omega),yo _ _ _ _ (by exact n2)]
 ·refine⟨?_,?_,?_,?_,fun k A hx=>?_⟩
  ·exact hg.os.trans V.os
  ·exact hg.tape.trans V.tape
  ·exact hg.output.trans V.output
  ·have:=hg.size;simp at this |-;omega
  ·rw[yo _ _ _ _ (by show k≠w;exact fun e=>hx (Or.inl e)),I k A (fun e=>hx (Or.inr e))];exact V.block k A hx
 ·have h1:=((hR.set j (.bool true)).of_block a4).setOther (a:=⟨w,0,none⟩) (by simp;omega) T;refine h1.congr (fun i _=>?_);dsimp only;by_cases e:i=j
  ·rw[yd e,yd e]
  ·rw[ya e,ya e]
 ·rw[List.nodup_append];refine⟨a6,by simp,fun a ha b hb e=>?_⟩;have b4:b=(j:Int):=by simpa using hb
  obtain⟨i,hi,b7,hst⟩:=U a ha;have:i=j:=by omega
  rw[this,hs] at hst;cases hst
 ·intro x hx;rcases List.mem_append.1 hx with hx|hx
  ·obtain⟨i,hi,rfl,hst⟩:=U x hx;refine⟨i,hi,rfl,?_⟩;dsimp only;by_cases e:i=j
   ·rw[yd e]
   ·rw[ya e];exact hst
  ·exact⟨j,hj,by simpa using hx,yd rfl⟩
 ·have h3:=F.kept (grownBy_setCell w2 ⟨w,0,none⟩ T) (by
   cases hb:T.ownBlock with
   | none=>exact Or.inl rfl
   | some k=>right;intro e;have:=(F.lt k hb).1;simp at e;omega)
  simpa using h3
def zkV(n:Nd):Nat:=if n.h = -1 then 2 else 1
def zrZ(S:List Nd)(L:Nat):List Int->Nat
 | []=>0
 | x :: r=>zrZ S L r+zkV (nd S x.toNat)*3 ^ (L-(r.length+1))
def vF(S:List Nd)(k:Nat):Nat:=zrZ S (S.length+2) (zbj S k)
def eF(S:List Nd)(k:Nat):Nat:=vF S k+3 ^ (S.length+2-(zbj S k).length)
theorem znF(n:Nd):1<=zkV n/\zkV n<=2:=by unfold zkV;split <;> omega
theorem WF.v_up{S:List Nd}(h:WF S){k q:Nat}(A:k<S.length)(hq:q<S.length)(hr:zah (nd S k)=q) :
  ∃ P,0<P/\vF S k=vF S q+zkV (nd S k)*P/\eF S k=vF S q+zkV (nd S k)*P+P/\eF S q=vF S q+3*P/\P=3 ^ (S.length+1-(zbj S q).length):=by
 have w:=h.path_up A hq hr;have hl:=zgj S q;refine⟨3 ^ (S.length+1-(zbj S q).length),Nat.pow_pos (by omega),?_,?_,?_,rfl⟩
 ·unfold vF;rw[w,zrZ,yg,show S.length+2-((zbj S q).length+1)=S.length+1-(zbj S q).length by omega]
 ·unfold eF vF;rw[w,zrZ,yg,List.length_cons,show S.length+2-((zbj S q).length+1)=S.length+1-(zbj S q).length by omega]
 ·unfold eF;rw[show S.length+2-(zbj S q).length=(S.length+1-(zbj S q).length)+1 by omega,Nat.pow_succ,Nat.mul_comm]
theorem WF.v_step{S:List Nd}(h:WF S){k q:Nat}(A:k<S.length)(hq:q<S.length)(hr:zah (nd S k)=q):vF S q<vF S k/\eF S k<=eF S q:=by
 obtain⟨P,h0,h1,w,D,_⟩:=h.v_up A hq hr;have hd:=znF (nd S k);rcases(show zkV (nd S k)=1\/zkV (nd S k)=2 by omega) with e|e <;> rw[e] at h1 w <;> omega
theorem WF.v_Up{S:List Nd}(h:WF S):∀ {j x y:Nat},x<S.length->Up S j x y->vF S y<=vF S x/\eF S x<=eF S y
 | 0,_,_,_,e=>by cases e;omega
 | j+1,x,y,hx,⟨z,w,hr,A⟩=>by
  have h1:=h.v_step hx w hr;have D:=h.v_Up w A;omega
theorem v_e(S:List Nd)(k:Nat):vF S k<eF S k:=by
 unfold eF;have:0<3 ^ (S.length+2-(zbj S k).length):=Nat.pow_pos (by omega);omega
theorem WF.v_given{S:List Nd}(h:WF S){H r c p j:Nat}(M:H<S.length)(hr:r<S.length)(V:c<S.length)(Z:p<S.length)(hh:(nd S r).h=H)(hu:Up S j p r)(D:zah (nd S c)=H)(hch:(nd S c).h = -1):vF S p<vF S c:=by
 have I:zah (nd S r)=H:=by unfold zah;rw[ya (by omega)];exact hh
 obtain⟨P,h0,h1,T,h3,e⟩:=h.v_up hr M I;obtain⟨P', O,w,A,U,J⟩:=h.v_up V M D;rw[<- e] at J;subst J;have hd:zkV (nd S r)=1:=by unfold zkV;rw[ya (by omega)]
 have F:zkV (nd S c)=2:=by unfold zkV;rw[yd hch]
 rw[hd] at h1 T;rw[F] at w A;have hv:=(h.v_Up Z hu).2;have:=v_e S p;omega
theorem zbM(S:List Nd)(x:Int)(h:zbw S x≠-1):∃ r:Nat,r<S.length/\zbw S x=r/\(nd S r).h=x/\x≠-1:=by
 unfold zbw at *;by_cases hx:x = -1
 ·rw[yd hx] at h;exact absurd rfl h
 ·rw[ya hx] at *
  cases hf:S.findIdx? fun n=>decide (n.h=x) with
  | none=>rw[hf] at h;exact absurd rfl h
  | some k =>
   obtain⟨h1,w,_⟩:=List.findIdx?_eq_some_iff_getElem.1 hf;exact⟨k,h1,rfl,by rw[zaJ h1];exact of_decide_eq_true w,hx⟩
theorem zlu{S:List Nd}{x:Int}(hx:x≠-1)(h:zbw S x = -1)(i:Nat)(w:i<S.length):(nd S i).h≠x:=fun e=>by
 unfold zbw at h;rw[ya hx] at h
 cases hf:S.findIdx? fun n=>decide (n.h=x) with
 | none =>
  have:=List.findIdx?_eq_none_iff.1 hf S[i] (List.getElem_mem w);rw[<- zaJ w] at this;exact of_decide_eq_false this e
 | some k=>rw[hf] at h;simp at h
def zbn(S:List Nd)(g:Nat->List Int)(p:Nat):List Int:=if zbw S p≠-1 then (nd S (zbw S p).toNat).ks else if g p≠[] then g p else (nd S p).ks
structure zeZ (S:List Nd) (g:Nat->List Int):Prop where
 some:∀ p,p<S.length->∀ c ∈ g p,∃ H r j:Nat,H<S.length/\r<S.length/\(nd S r).h=H/\Up S j p r/\c ∈ (nd S H).ks
 one:∀ p p' c,p<S.length->p' < S.length->c ∈ g p->c ∈ g p' -> p=p'
 nodup:∀ p,p<S.length->(g p).Nodup
theorem zer{S:List Nd}(h:WF S){g:Nat->List Int}(G:zeZ S g){p:Nat}(T:p<S.length){c:Int}(w:c ∈ zbn S g p) :
  ∃ k q:Nat,c=k/\k<S.length/\q<S.length/\(nd S k).u=true/\(nd S k).h = -1/\(nd S k).p=q/\zah (nd S k)=q /\
   ((nd S q).h=p\/(zbw S p = -1/\c ∈ g p/\∃ r j:Nat,r<S.length/\(nd S r).h=q/\Up S j p r)\/(zbw S p = -1/\q=p)):=by
 unfold zbn at w
 split at w
 ·rename_i hr;obtain⟨r,h1,M,O,_⟩:=zbM S p hr;rw[M,yg] at w;obtain⟨k,e,A,F,I,J⟩:=h.kid h1 w;exact⟨k,r,e,A,h1,F,(h.host_of_parent A (by omega)).1,I,J,Or.inl O⟩
 ·rename_i hr;have D:zbw S p = -1:=Decidable.not_not.1 hr
  split at w
  ·obtain⟨H,r,j,h1,M,O,U,V⟩:=G.some p T c w;obtain⟨k,e,A,F,I,J⟩:=h.kid h1 V;exact⟨k,H,e,A,h1,F,(h.host_of_parent A (by omega)).1,I,J,Or.inr (Or.inl ⟨D,w,r,j,M,O,U⟩)⟩
  ·obtain⟨k,e,A,F,I,J⟩:=h.kid T w;exact⟨k,p,e,A,T,F,(h.host_of_parent A (by omega)).1,I,J,Or.inr (Or.inr ⟨D,rfl⟩)⟩
theorem zcE{S:List Nd}(h:WF S){g:Nat->List Int}(G:zeZ S g){p:Nat}(D:p<S.length){c:Int}(M:c ∈ zbn S g p) :
  ∃ k:Nat,c=k/\k<S.length/\(nd S k).u=true/\(nd S k).h = -1/\vF S p<vF S k:=by
 obtain⟨k,q,e,A,hq,T,hh,O,w,J⟩:=zer h G D M;refine⟨k,e,A,T,hh,?_⟩;rcases J with J |⟨_,_,r,j,hr,F,I⟩ |⟨_,rfl⟩
 ·have h1:=(h.v_step A hq w).1;have U:=(h.v_step hq D (by unfold zah;rw[ya (by omega)];exact J)).1;omega
 ·exact h.v_given hq hr A D F I w hh
 ·exact(h.v_step A hq w).1
def ShR(ks:Nat->List Int)(c:Nat):Nat->Nat->Prop
 | 0,z=>z=c
 | j+1,z=>∃ y,ShR ks c j y/\(z:Int) ∈ ks y
theorem ShR.front{ks:Nat->List Int}{p c:Nat}(w:(c:Int) ∈ ks p):∀ {j z:Nat},ShR ks c j z->ShR ks p (j+1) z
 | 0,z,e=>by cases e;exact⟨p,rfl,w⟩
 | j+1,z,⟨y,hy,A⟩=>⟨y,ShR.front w hy,A⟩
theorem ShR.trans{ks:Nat->List Int}{p c i:Nat}(h:ShR ks p i c):∀ {j z:Nat},ShR ks c j z->ShR ks p (i+j) z
 | 0,z,e=>by cases e;exact h
 | j+1,z,⟨y,hy,w⟩=>⟨y,ShR.trans h hy,w⟩
theorem ShR.facts{S:List Nd}(h:WF S){g:Nat->List Int}(G:zeZ S g){k:Nat}(w:k<S.length):∀ {j z:Nat},ShR (zbn S g) k j z->z<S.length/\vF S k<=vF S z/\(z=k\/(nd S z).h = -1)/\(z=k\/(nd S z).u=true)/\(1<=j->vF S k<vF S z/\(nd S z).h = -1/\(nd S z).u=true)
 | 0,z,e=>by cases e;exact⟨w,yi _,Or.inl rfl,Or.inl rfl,fun h=>by omega⟩
 | j+1,z,⟨y,hy,F⟩=>by
  obtain⟨h1,J,_⟩:=ShR.facts h G w hy;obtain⟨k', e,I,D,A,M⟩:=zcE h G h1 F;have:z=k' := by omega
  subst this;exact⟨I,by omega,Or.inr A,Or.inr D,fun _=>⟨by omega,A,D⟩⟩
theorem ShR.inner{S:List Nd}(h:WF S){g:Nat->List Int}(G:zeZ S g){k r I:Nat}(M:k<S.length)(hr:r<S.length)(F:I<S.length)(hh:(nd S I).h=r)(w:(nd S r).h≠-1):∀ {j z i:Nat},ShR (zbn S g) k j z->Up S i z I->k=r\/∃ i,Up S i k I
 | 0,z,i,e,O=>by cases e;exact Or.inr ⟨i,O⟩
 | j+1,z,i,⟨y,hy,hz⟩,O=>by
  obtain⟨y1,y2,y3,_⟩:=ShR.facts h G M hy;obtain⟨k', q,e,a5,hq,a7,a6,a8,b5,hw⟩:=zer h G y1 hz;have:z=k' := by omega
  subst this
  cases i with
  | zero =>
   have:z=I:=O;subst this;omega
  | succ i =>
   obtain⟨Z,T,a4,A⟩:=O;have:Z=q:=by omega
   subst this;rcases hw with hw |⟨_,_,r2,j2,b4,J,V⟩ |⟨_,rfl⟩
   ·by_cases e:Z=I
    ·subst e;have:y=r:=by omega
     subst this;exact Or.inl (y3.resolve_right w).symm
    ·cases i with
     | zero=>exact absurd A e
     | succ i =>
      obtain⟨q2,a9,D,U⟩:=A;have:q2=y:=by unfold zah at D;rw[ya (by omega)] at D;omega
      subst this;exact ShR.inner h G M hr F hh w hy U
   ·have h3:Up S 1 r2 Z:=WF.up_one T (by unfold zah;rw[ya (by omega)];exact J);exact ShR.inner h G M hr F hh w hy (V.trans (h3.trans A))
   ·exact ShR.inner h G M hr F hh w hy A
theorem ShR.one{S:List Nd}(h:WF S){g:Nat->List Int}(G:zeZ S g){k i i' p p' : Nat}(I:k<S.length)(h1:ShR (zbn S g) k i p)(h2:ShR (zbn S g) k i' p'){c:Int}(hc:c ∈ zbn S g p)(U:c ∈ zbn S g p'):p=p' := by
 obtain⟨M,p2,p3,_⟩:=ShR.facts h G I h1;obtain⟨O,q2,q3,_⟩:=ShR.facts h G I h2;obtain⟨z,q,e,hz,hq,b8,b5,b6,b7,J⟩:=zer h G M hc;obtain⟨z', F,e', b4,a8,a7,a4,a5,a6,w⟩:=zer h G O U;have:z' = z:=by omega
 subst this;have:F=q:=by omega
 subst this;have up:∀ {a:Nat},a<S.length->(nd S F).h=a->vF S a<vF S F:=fun T e=>(h.v_step hq T (by unfold zah;rw[ya (by omega)];exact e)).1
 have inn:∀ {a b r j i:Nat},a<S.length->ShR (zbn S g) k i b->vF S k<=vF S a->(nd S F).h=a->r<S.length->(nd S r).h=F->Up S j b r->False:=fun {a b r j i} T hb hv V hr D hu=>by
  have a9:=up T V;rcases ShR.inner h G I hq hr D (by omega) hb hu with e |⟨i,hi⟩
  ·subst e;omega
  ·have h3:=(h.v_Up I hi).1;have h4:=(h.v_step hr hq (by unfold zah;rw[ya (by omega)];exact D)).1;omega
 rcases J with J |⟨n1,m1,r,j,hr,A,Z⟩ |⟨n1,e1⟩ <;> rcases w with w |⟨n2,m2,r2,j2,hr2,hrh2,hup2⟩ |⟨n2,e2⟩
 ·omega
 ·exact(inn M h2 p2 J hr2 hrh2 hup2).elim
 ·subst e2;have:=up M J;rcases q3 with e|e
  ·subst e;omega
  ·omega
 ·exact(inn O h1 q2 w hr A Z).elim
 ·exact G.one _ _ c M O m1 m2
 ·subst e2;exact absurd A (zlu (by omega) n2 r hr)
 ·subst e1;have:=up O w;rcases p3 with e|e
  ·subst e;omega
  ·omega
 ·subst e1;exact absurd hrh2 (zlu (by omega) n1 r2 hr2)
 ·omega
theorem ShR.apart{S:List Nd}(h:WF S){g:Nat->List Int}(G:zeZ S g){k i p c M:Nat}(V:k<S.length)(D:ShR (zbn S g) k i p)(U:(c:Int) ∈ zbn S g p)(w:(M:Int) ∈ zbn S g p)(A:c≠M) :
  ∀ {j J z:Nat},ShR (zbn S g) c j z->ShR (zbn S g) M J z->False:=by
 have hP:=(ShR.facts h G V D).1
 have first:∀ {a b j:Nat},(a:Int) ∈ zbn S g p->(b:Int) ∈ zbn S g p->a≠b->ShR (zbn S g) b j a->False:=fun {a b j} ha hb T hs=>by
  cases j with
  | zero=>exact T hs
  | succ j =>
   obtain⟨y,hy,Z⟩:=hs;have e:=ShR.one h G V D (D.trans (ShR.front hb hy)) ha Z;subst e;obtain⟨b', e,b1,_,_,b2⟩:=zcE h G hP hb;have:b' = b:=by omega
   subst this;have:=(ShR.facts h G b1 hy).2.1;omega
 intro j
 induction j with
 | zero =>
  intro J z h1 O;have:z=c:=h1;subst this;exact first U w A O
 | succ j ih =>
  intro J z h1 O
  cases J with
  | zero =>
   have:z=M:=O;subst this;exact first w U (Ne.symm A) h1
  | succ J =>
   obtain⟨y,hy,a4⟩:=h1;obtain⟨y', F,I⟩:=O;have e:=ShR.one h G V (D.trans (ShR.front U hy)) (D.trans (ShR.front w F)) a4 I;subst e;exact ih hy F
theorem zds{S:List Nd}(h:WF S){g:Nat->List Int}(G:zeZ S g):∀ {f p:Nat},p<S.length->∀ x ∈ zbG (zbn S g) f p,∃ j q:Nat,x=q/\ShR (zbn S g) p j q
 | 0,p,_,x,hx=>⟨0,p,by simpa [zbG] using hx,rfl⟩
 | f+1,p,D,x,hx=>by
  simp only[zbG,List.mem_cons,List.mem_flatMap] at hx;rcases hx with rfl |⟨c,w,hx⟩
  ·exact⟨0,p,rfl,rfl⟩
  ·obtain⟨k,rfl,A,_⟩:=zcE h G D w;rw[yg] at hx;obtain⟨j,q,e,hq⟩:=zds h G A x hx;exact⟨j+1,q,e,ShR.front w hq⟩
theorem zmS{S:List Nd}(h:WF S){g:Nat->List Int}(G:zeZ S g){p:Nat}(w:p<S.length):(zbn S g p).Nodup:=by
 unfold zbn;split
 ·rename_i hr;obtain⟨r,h1,A,_⟩:=zbM S p hr;rw[A,yg];exact h.kids_nodup h1
 ·split
  ·exact G.nodup p w
  ·exact h.kids_nodup w
theorem zfR{S:List Nd}(h:WF S){g:Nat->List Int}(G:zeZ S g){k:Nat}(J:k<S.length):∀ {f i p:Nat},ShR (zbn S g) k i p->(zbG (zbn S g) f p).Nodup
 | 0,_,p,_=>by simp[zbG]
 | f+1,i,p,hs=>by
  have A:=(ShR.facts h G J hs).1;simp only[zbG];rw[List.nodup_cons];refine⟨fun F=>?_,zfH _ _ (zmS h G A) (fun x hx=>?_) (fun x hx y hy M z T D=>?_)⟩
  ·obtain⟨x,hx,F⟩:=List.mem_flatMap.1 F;obtain⟨c,rfl,w,_,_,hv⟩:=zcE h G A hx;rw[yg] at F;obtain⟨j,q,e,hq⟩:=zds h G w _ F;have:q=p:=by omega
   subst this;have:=(ShR.facts h G w hq).2.1;omega
  ·obtain⟨c,rfl,w,_⟩:=zcE h G A hx;rw[yg];exact zfR h G J (i:=i+1) ⟨p,hs,hx⟩
  ·obtain⟨c,rfl,w,_⟩:=zcE h G A hx;obtain⟨V,rfl,I,_⟩:=zcE h G A hy;rw[yg] at T D;obtain⟨j,q,e,hq⟩:=zds h G w _ T;obtain⟨j', U,Z,O⟩:=zds h G I _ D;have:q=U:=by omega
   subst this;exact ShR.apart h G J hs hx hy (fun e=>M (by rw[e])) hq O
theorem zoA{S:List Nd}(h:WF S){g:Nat->List Int}(G:zeZ S g){k:Nat}(w:k<S.length)(f:Nat):(zbG (zbn S g) f k).length<=S.length:=by
 have h1:=zfR h G w (f:=f) (i:=0) (p:=k) rfl
 have:=h1.length_le_of_subset (l₂:=(List.range S.length).map (fun i:Nat=>(i:Int))) (fun x hx=>by
  obtain⟨j,q,rfl,hq⟩:=zds h G w x hx;exact List.mem_map.2 ⟨q,List.mem_range.2 (ShR.facts h G w hq).1,rfl⟩)
 simpa using this
theorem zre(S:List Nd)(L:Nat):∀ l:List Int,l.length<=L->zrZ S L l+3 ^ (L-l.length)<=3 ^ L
 | [],_=>by simp[zrZ]
 | x :: r,hl=>by
  rw[List.length_cons] at hl;have w:=zre S L r (by omega);have hd:=znF (nd S x.toNat);rw[zrZ,List.length_cons];rw[show L-r.length=(L-(r.length+1))+1 by omega,Nat.pow_succ] at w;rcases(show zkV (nd S x.toNat)=1\/zkV (nd S x.toNat)=2 by omega) with e|e <;> rw[e] <;> omega
theorem zsU(S:List Nd)(k:Nat):vF S k<3 ^ (S.length+2):=by
 have h1:=zre S (S.length+2) (zbj S k) (by have:=zgj S k;omega);have:0<3 ^ (S.length+2-(zbj S k).length):=Nat.pow_pos (by omega);unfold vF;omega
theorem ziG{S:List Nd}(h:WF S){g:Nat->List Int}(G:zeZ S g):∀ {f p:Nat},p<S.length->3 ^ (S.length+2)<=vF S p+f->zjG (zbn S g) S.length f p
 | 0,p,_,F=>by have:=zsU S p;omega
 | f+1,p,D,F=>fun c w=>by
  obtain⟨k,rfl,A,_,_,h1⟩:=zcE h G D w;rw[yg];exact⟨⟨by omega,by omega⟩,ziG h G A (by omega)⟩
def zsg(S:List Nd):Nat:=3 ^ (S.length+2)
theorem zfd{S:List Nd}(h:WF S){g:Nat->List Int}(G:zeZ S g){p:Nat}(w:p<S.length):zjG (zbn S g) S.length (zsg S) p:=ziG h G w (by unfold zsg;omega)
def zaM(S:List Nd)(mk:Int)(x:Int):Bool:=!decide ((nd S x.toNat).m=mk)
def zbF(S:List Nd)(H:Nat)(mk:Int):List Int:=flt (zaM S mk) (nd S H).ks
theorem zml(a:Option Addr)(c:Nat)(S:List Nd)(H:Nat)(mk:Int)(w:World)(hH:H<S.length)(hl:(nd S H).ks.length<=1000)(hp:∀ y ∈ (nd S H).ks,∃ x:Nat,y=x/\x<S.length)(hS:zae w a S) :
  Calls Tryz.prog 150 #[.agg #[.slice a S.length c],.int .i64 (H:Int),.int .i64 mk] w fun e w' => ∃ v,e=.returned v/\Below w.heap.size w w' /\ w'.ownsRow w.heap.size 3 1 v (zbF S H mk).length ((zbF S H mk).map (Value.int .i64)):=by
 obtain⟨i0,b5,c6,c7,c8⟩:=info_parts info3;have HS:Hid (zae w a S):=hS;have R0:Hid (zbF S H mk=flt (zaM S mk) (nd S H).ks):=(rfl:zbF S H mk=_);have PL:Hid (∀ y ∈ (nd S H).ks,∃ x:Nat,y=x/\x<S.length):=hp;obtain⟨a7,c9,b4,_,_,_,_,_,⟨ka,kc,c5,a5⟩,_,_⟩:=hS H hH;subst b4;have HI:Hid (zaj w ka (nd S H).ks):=a5;clear hS hp a5;generalize zbF S H mk=a4 at *;generalize (nd S H).ks=P at *;obtain⟨m,hm⟩:∃ m,P.length=m:=⟨_,rfl⟩;have HM:Hid (P.length=m):=hm;rw[hm] at hl c5;obtain⟨n,hn⟩:∃ n,S.length=n:=⟨_,rfl⟩;have HN:Hid (S.length=n):=hn;rw[hn] at hH PL |-;have d7:(H:Int)<(n:Int):=by omega
 have e6:a7<w.heap.size:=ye _ _ c5;clear hn hm
 go_enter Tryz.func150,Tryz.ntmps150
 go_wp2_with fail
 go_loopg [7,17] m (fun g s7 s17 wr=>∃ (i:Nat) (l:List Int),i<=m/\m-i<=g/\s17=.int .i64 i/\l.length<=i/\Hid (Below w.heap.size w wr)/\wr.cell? ⟨w.heap.size,0,none⟩=some (.slice (some ⟨a7,c9,none⟩) n c)/\w.heap.size+1<=wr.heap.size/\Hid (wr.ownsRow (w.heap.size+1) 3 1 s7 l.length (l.map (Value.int .i64)))/\Hid (l=flt (zaM S mk) (P.take i)))
 case atStart=>exact⟨0,[],by omega,by omega,rfl,by simp,(yj _ _).alloc (yi _) _,by go_simp,by simp,World.ownsRow_nil _ _ _ _,(by simp[flt]:([]:List Int)=flt (zaM S mk) (P.take 0))⟩
 case round =>
  obtain⟨i,l,hi,hg,rfl,b7,Z,cs,a6,I,HE⟩:=hrel;obtain⟨qa,qc,hv,_⟩:=zat I.out;subst hv;obtain⟨V,T⟩:∃ y,l.length=y:=⟨_,rfl⟩;have A:Hid (l.length=V):=T;rw[T] at I b7 |-;clear T;by_cases U:i<m
  ·obtain⟨y,hy,b9⟩:=PL.out (P.getD i 0) (by rw[zaf P 0 (by rw[HM.out];exact U)];exact List.getElem_mem _);obtain⟨pb,po,ep,b8⟩:=(HI.out.below Z.out) i (by rw[HM.out];exact U);subst ep;rw[hy] at b8;obtain⟨nb,no,ea,_,_,_,c3,_,_,_,_⟩:=(HS.out.below Z.out) y (by rw[HN.out];exact b9);cases ea;have e7:(y:Int)<(n:Int):=by omega
   have e0:(i:Int)<(m:Int):=by omega
   have NX:Hid (flt (zaM S mk) (P.take (i+1))=l++(if (nd S y).m=mk then [(y:Int)] else [])):=by
    have e:=zcY (zaM S mk) P i (by rw[HM.out];exact U);rw[hy] at e;show flt _ _=_;rw[e,<- HE.out];unfold zaM;rw[yg];by_cases h:(nd S y).m=mk <;> simp[h]
   clear HE hy c5;generalize (nd S y).m=hh at *;by_cases M:hh=mk
   ·subst M;have E2:Hid (l++[(y:Int)]=flt (zaM S hh) (P.take (i+1))):=(by rw[NX.out,yd rfl]:l++[(y:Int)]=flt (zaM S hh) (P.take (i+1)));have OB:Hid (∀ k,(Value.slice qa V qc).ownBlock=some k->w.heap.size+1<=k):=fun k hk=>(I.out.lt k hk).1;have d6:V<=1000:=by omega
    clear NX
    go_wp2_with (at_builtin;refine wpList_append_own _ rfl _ _ 29 rfl (w.heap.size+1) 3 i0 (.int .i64 0) 1 8 Tryz.underlying29 b5 c6 c7 c8 rfl (by decide) _ _ _ rfl (I.out.alloc _) ⟨wr.heap.size,0,none⟩ 1 1 [.int .i64 (y:Int)] rfl rfl ?c1 ?c2 ?c3 ?c4 ?c5 ?_)
    case c2=>first|rfl|(intro u hu;simp at hu;subst hu;rfl)|simp
    case c3=>unfold maxLen;omega
    case c4=>omega
    case c5=>first|omega|(simp;omega)
    case c1=>first|(go_simp;done)|(intro j u hj;match j,hj with|0,hj=>(cases hj;go_simp)|(j+1),hj=>simp at hj)
    intro v' w2 F D _;have J:Below (w.heap.size+1) wr w2:=((yj _ wr).alloc (by omega) _).grown D (by simp;omega) (fun k hk=>OB.out k hk);have a8:Hid (Below w.heap.size w w2):=Z.out.trans (J.mono (by omega));have a9:=(J.cell (p:=⟨w.heap.size,0,none⟩) (by show w.heap.size < _;omega)).trans cs
    have O:Hid (w2.ownsRow (w.heap.size+1) 3 1 v' (l++[(y:Int)]).length ((l++[(y:Int)]).map (Value.int .i64))):=by
     have h2:=F;rw[show (l++[(y:Int)]).length=V+1 by simp[A.out],List.map_append];exact h2
    have hs2:w.heap.size+1<=w2.heap.size:=yx a6 J.size;clear F D J cs I
    go_wp2_with fail
    go_roundg (m-(i+1))
    case measure=>omega
    case rel=>exact⟨i+1,l++[(y:Int)],by omega,by omega,by go_num,by simp[A.out];omega,a8,a9,hs2,O,E2⟩
   ·have d8:(hh == mk)=false:=beq_eq_false_iff_ne.2 M;have d9:decide (hh=mk)=false:=decide_eq_false M;have E2:Hid (l=flt (zaM S mk) (P.take (i+1))):=(by rw[NX.out,ya M];simp:l=flt (zaM S mk) (P.take (i+1)));have O:Hid (wr.ownsRow (w.heap.size+1) 3 1 (.slice qa V qc) l.length (l.map (Value.int .i64))):=(by rw[A.out];exact I.out:wr.ownsRow (w.heap.size+1) 3 1 (.slice qa V qc) l.length (l.map (Value.int .i64)));clear NX I
    go_wp2
    go_roundg (m-(i+1))
    case measure=>omega
    case rel=>exact⟨i+1,l,by omega,by omega,by go_num,by rw[A.out];omega,Z,cs,a6,O,E2⟩
  ·have b6:i=m:=by omega
   subst b6;have e:=HE.out;rw[List.take_of_length_le (by rw[HM.out];omega),<- R0.out] at e
   have OW:Hid (wr.ownsRow w.heap.size 3 1 (.slice qa V qc) a4.length (a4.map (Value.int .i64))):=by
    have h2:=zcl I.out (show w.heap.size<=w.heap.size+1 by omega);rw[<- A.out,e] at h2;rw[<- A.out,e];exact h2
   clear HE e I
   go_wp2
   go_ret;exact⟨_,rfl,Z.out,OW.out⟩
end Go.Proofs.YtgjfmepbphfjoaaGreat
