/-
  x
-/
import Derived.Test.YtcbcpomacdngmaaGreatM10
namespace Go.Proofs.YtcbcpomacdngmaaGreat
set_option maxRecDepth 100000
set_option maxHeartbeats 4000000
set_option linter.unusedVariables false
open Go.RowKit
def zpe(n:Nd):Nat:=if n.h = -1 then 2 else 1
def zyK(S:List Nd)(L:Nat):List Int->Nat
 | []=>0
 | x :: r=>zyK S L r+zpe (nd S x.toNat)*3 ^ (L-(r.length+1))
def vF(S:List Nd)(k:Nat):Nat:=zyK S (S.length+2) (zeY S k)
def eF(S:List Nd)(k:Nat):Nat:=vF S k+3 ^ (S.length+2-(zeY S k).length)
theorem zsE(n:Nd):1<=zpe n/\zpe n<=2:=by unfold zpe;split <;> omega
theorem WF.v_up{S:List Nd}(h:WF S){k q:Nat}(E:k<S.length)(F:q<S.length)(I:zak (nd S k)=q) :
  ∃ P,0<P/\vF S k=vF S q+zpe (nd S k)*P/\eF S k=vF S q+zpe (nd S k)*P+P/\eF S q=vF S q+3*P/\P=3 ^ (S.length+1-(zeY S q).length):=by
 have D:=h.path_up E F I;have hl:=zpA S q;refine⟨3 ^ (S.length+1-(zeY S q).length),Nat.pow_pos (by omega),?_,?_,?_,rfl⟩
 ·unfold vF;rw[D,zyK,yi,show S.length+2-((zeY S q).length+1)=S.length+1-(zeY S q).length by omega]
 ·unfold eF vF;rw[D,zyK,yi,List.length_cons,show S.length+2-((zeY S q).length+1)=S.length+1-(zeY S q).length by omega]
 ·unfold eF;rw[show S.length+2-(zeY S q).length=(S.length+1-(zeY S q).length)+1 by omega,Nat.pow_succ,Nat.mul_comm]
theorem WF.v_step{S:List Nd}(h:WF S){k q:Nat}(E:k<S.length)(F:q<S.length)(I:zak (nd S k)=q):vF S q<vF S k/\eF S k<=eF S q:=by
 obtain⟨P,h0,h1,D,J,_⟩:=h.v_up E F I;have hd:=zsE (nd S k);rcases(show zpe (nd S k)=1\/zpe (nd S k)=2 by omega) with e|e <;> rw[e] at h1 D <;> omega
theorem WF.v_Up{S:List Nd}(h:WF S):∀ {j x y:Nat},x<S.length->Up S j x y->vF S y<=vF S x/\eF S x<=eF S y
 | 0,_,_,_,e=>by cases e;omega
 | j+1,x,y,I,⟨z,D,E,F⟩=>by
  have h1:=h.v_step I D E;have J:=h.v_Up D F;omega
theorem v_e(S:List Nd)(k:Nat):vF S k<eF S k:=by
 unfold eF;have:0<3 ^ (S.length+2-(zeY S k).length):=Nat.pow_pos (by omega);omega
theorem WF.v_given{S:List Nd}(h:WF S){H r c p j:Nat}(O:H<S.length)(hr:r<S.length)(hc:c<S.length)(hp:p<S.length)(hh:(nd S r).h=H)(hu:Up S j p r)(F:zak (nd S c)=H)(hch:(nd S c).h = -1):vF S p<vF S c:=by
 have J:zak (nd S r)=H:=by unfold zak;rw[ya (by omega)];exact hh
 obtain⟨P,h0,h1,U,h3,e⟩:=h.v_up hr O J;obtain⟨P', T,D,E,Z,M⟩:=h.v_up hc O F;rw[<- e] at M;subst M;have hd:zpe (nd S r)=1:=by unfold zpe;rw[ya (by omega)]
 have I:zpe (nd S c)=2:=by unfold zpe;rw[yb hch]
 rw[hd] at h1 U;rw[I] at D E;have hv:=(h.v_Up hp hu).2;have:=v_e S p;omega
theorem zck(S:List Nd)(x:Int)(h:zbY S x≠-1):∃ r:Nat,r<S.length/\zbY S x=r/\(nd S r).h=x/\x≠-1:=by
 unfold zbY at *;by_cases D:x = -1
 ·rw[yb D] at h;exact absurd rfl h
 ·rw[ya D] at *
  cases hf:S.findIdx? fun n=>decide (n.h=x) with
  | none=>rw[hf] at h;exact absurd rfl h
  | some k =>
   obtain⟨h1,E,_⟩:=List.findIdx?_eq_some_iff_getElem.1 hf;exact⟨k,h1,rfl,by rw[zbq h1];exact of_decide_eq_true E,D⟩
theorem zpF{S:List Nd}{x:Int}(D:x≠-1)(h:zbY S x = -1)(i:Nat)(hi:i<S.length):(nd S i).h≠x:=fun e=>by
 unfold zbY at h;rw[ya D] at h
 cases hf:S.findIdx? fun n=>decide (n.h=x) with
 | none =>
  have:=List.findIdx?_eq_none_iff.1 hf S[i] (List.getElem_mem hi);rw[<- zbq hi] at this;exact of_decide_eq_false this e
 | some k=>rw[hf] at h;simp at h
def zbZ(S:List Nd)(g:Nat->List Int)(p:Nat):List Int:=if zbY S p≠-1 then (nd S (zbY S p).toNat).ks else if g p≠[] then g p else (nd S p).ks
structure zhm (S:List Nd) (g:Nat->List Int):Prop where
 some:∀ p,p<S.length->∀ c ∈ g p,∃ H r j:Nat,H<S.length/\r<S.length/\(nd S r).h=H/\Up S j p r/\c ∈ (nd S H).ks
 one:∀ p p' c,p<S.length->p' < S.length->c ∈ g p->c ∈ g p' -> p=p'
 nodup:∀ p,p<S.length->(g p).Nodup
theorem zhf{S:List Nd}(h:WF S){g:Nat->List Int}(G:zhm S g){p:Nat}(T:p<S.length){c:Int}(hc:c ∈ zbZ S g p) :
  ∃ k q:Nat,c=k/\k<S.length/\q<S.length/\(nd S k).u=true/\(nd S k).h = -1/\(nd S k).p=q/\zak (nd S k)=q /\
   ((nd S q).h=p\/(zbY S p = -1/\c ∈ g p/\∃ r j:Nat,r<S.length/\(nd S r).h=q/\Up S j p r)\/(zbY S p = -1/\q=p)):=by
 unfold zbZ at hc
 split at hc
 ·rename_i U;obtain⟨r,h1,M,O,_⟩:=zck S p U;rw[M,yi] at hc;obtain⟨k,e,D,F,I,J⟩:=h.kid h1 hc;exact⟨k,r,e,D,h1,F,(h.host_of_parent D (by omega)).1,I,J,Or.inl O⟩
 ·rename_i U;have E:zbY S p = -1:=Decidable.not_not.1 U
  split at hc
  ·obtain⟨H,r,j,h1,M,O,Z,h5⟩:=G.some p T c hc;obtain⟨k,e,D,F,I,J⟩:=h.kid h1 h5;exact⟨k,H,e,D,h1,F,(h.host_of_parent D (by omega)).1,I,J,Or.inr (Or.inl ⟨E,hc,r,j,M,O,Z⟩)⟩
  ·obtain⟨k,e,D,F,I,J⟩:=h.kid T hc;exact⟨k,p,e,D,T,F,(h.host_of_parent D (by omega)).1,I,J,Or.inr (Or.inr ⟨E,rfl⟩)⟩
theorem zcU{S:List Nd}(h:WF S){g:Nat->List Int}(G:zhm S g){p:Nat}(I:p<S.length){c:Int}(hc:c ∈ zbZ S g p) :
  ∃ k:Nat,c=k/\k<S.length/\(nd S k).u=true/\(nd S k).h = -1/\vF S p<vF S k:=by
 obtain⟨k,q,e,E,F,Z,hh,T,D,O⟩:=zhf h G I hc;refine⟨k,e,E,Z,hh,?_⟩;rcases O with O |⟨_,_,r,j,U,J,M⟩ |⟨_,rfl⟩
 ·have h1:=(h.v_step E F D).1;have h2:=(h.v_step F I (by unfold zak;rw[ya (by omega)];exact O)).1;omega
 ·exact h.v_given F U E I J M D hh
 ·exact(h.v_step E F D).1
def ShR(ks:Nat->List Int)(c:Nat):Nat->Nat->Prop
 | 0,z=>z=c
 | j+1,z=>∃ y,ShR ks c j y/\(z:Int) ∈ ks y
theorem ShR.front{ks:Nat->List Int}{p c:Nat}(hc:(c:Int) ∈ ks p):∀ {j z:Nat},ShR ks c j z->ShR ks p (j+1) z
 | 0,z,e=>by cases e;exact⟨p,rfl,hc⟩
 | j+1,z,⟨y,D,E⟩=>⟨y,ShR.front hc D,E⟩
theorem ShR.trans{ks:Nat->List Int}{p c i:Nat}(h:ShR ks p i c):∀ {j z:Nat},ShR ks c j z->ShR ks p (i+j) z
 | 0,z,e=>by cases e;exact h
 | j+1,z,⟨y,D,E⟩=>⟨y,ShR.trans h D,E⟩
theorem ShR.facts{S:List Nd}(h:WF S){g:Nat->List Int}(G:zhm S g){k:Nat}(D:k<S.length):∀ {j z:Nat},ShR (zbZ S g) k j z->z<S.length/\vF S k<=vF S z/\(z=k\/(nd S z).h = -1)/\(z=k\/(nd S z).u=true)/\(1<=j->vF S k<vF S z/\(nd S z).h = -1/\(nd S z).u=true)
 | 0,z,e=>by cases e;exact⟨D,yj _,Or.inl rfl,Or.inl rfl,fun h=>by omega⟩
 | j+1,z,⟨y,I,J⟩=>by
  obtain⟨h1,O,_⟩:=ShR.facts h G D I;obtain⟨k', e,M,F,E,T⟩:=zcU h G h1 J;have:z=k' := by omega
  subst this;exact⟨M,by omega,Or.inr E,Or.inr F,fun _=>⟨by omega,E,F⟩⟩
theorem ShR.inner{S:List Nd}(h:WF S){g:Nat->List Int}(G:zhm S g){k r J:Nat}(O:k<S.length)(hr:r<S.length)(I:J<S.length)(hh:(nd S J).h=r)(D:(nd S r).h≠-1):∀ {j z i:Nat},ShR (zbZ S g) k j z->Up S i z J->k=r\/∃ i,Up S i k J
 | 0,z,i,e,T=>by cases e;exact Or.inr ⟨i,T⟩
 | j+1,z,i,⟨y,U,hz⟩,T=>by
  obtain⟨y1,y2,y3,_⟩:=ShR.facts h G O U;obtain⟨k', q,e,a8,hq,b0,a9,b1,b4,hw⟩:=zhf h G y1 hz;have:z=k' := by omega
  subst this
  cases i with
  | zero =>
   have:z=J:=T;subst this;omega
  | succ i =>
   obtain⟨q', Z,a7,E⟩:=T;have:q' = q:=(by omega);subst this;rcases hw with hw |⟨_,_,r2,j2,b3,M,a6⟩ |⟨_,rfl⟩
   ·by_cases e:q' = J
    ·subst e;have:y=r:=(by omega);subst this;exact Or.inl (y3.resolve_right D).symm
    ·cases i with
     | zero=>exact absurd E e
     | succ i =>
      obtain⟨q2,b2,F,a5⟩:=E;have:q2=y:=(by unfold zak at F;rw[ya (by omega)] at F;omega);subst this;exact ShR.inner h G O hr I hh D U a5
   ·have h3:Up S 1 r2 q' := WF.up_one Z (by unfold zak;rw[ya (by omega)];exact M);exact ShR.inner h G O hr I hh D U (a6.trans (h3.trans E))
   ·exact ShR.inner h G O hr I hh D U E
theorem ShR.one{S:List Nd}(h:WF S){g:Nat->List Int}(G:zhm S g){k i i' p p' : Nat}(M:k<S.length)(h1:ShR (zbZ S g) k i p)(h2:ShR (zbZ S g) k i' p'){c:Int}(hc:c ∈ zbZ S g p)(Z:c ∈ zbZ S g p'):p=p' := by
 obtain⟨T,p2,p3,_⟩:=ShR.facts h G M h1;obtain⟨U,q2,q3,_⟩:=ShR.facts h G M h2;obtain⟨z,q,e,hz,hq,b7,b4,b5,b6,O⟩:=zhf h G T hc;obtain⟨z', J,e', b3,b1,b0,a7,a8,a9,D⟩:=zhf h G U Z;have:z' = z:=by omega
 subst this;have:J=q:=by omega
 subst this;have up:∀ {a:Nat},a<S.length->(nd S J).h=a->vF S a<vF S J:=fun ha e=>(h.v_step hq ha (by unfold zak;rw[ya (by omega)];exact e)).1
 have inn:∀ {a b r j i:Nat},a<S.length->ShR (zbZ S g) k i b->vF S k<=vF S a->(nd S J).h=a->r<S.length->(nd S r).h=J->Up S j b r->False:=fun {a b r j i} ha hb hv a5 E I hu=>by
  have b2:=up ha a5;rcases ShR.inner h G M hq E I (by omega) hb hu with e |⟨i,hi⟩
  ·subst e;omega
  ·have h3:=(h.v_Up M hi).1;have h4:=(h.v_step E hq (by unfold zak;rw[ya (by omega)];exact I)).1;omega
 rcases O with O |⟨n1,m1,r,j,E,F,a6⟩ |⟨n1,e1⟩ <;> rcases D with D |⟨n2,m2,r2,j2,hr2,hrh2,hup2⟩ |⟨n2,e2⟩
 ·omega
 ·exact(inn T h2 p2 O hr2 hrh2 hup2).elim
 ·subst e2;have:=up T O;rcases q3 with e|e
  ·subst e;omega
  ·omega
 ·exact(inn U h1 q2 D E F a6).elim
 ·exact G.one _ _ c T U m1 m2
 ·subst e2;exact absurd F (zpF (by omega) n2 r E)
 ·subst e1;have:=up U D;rcases p3 with e|e
  ·subst e;omega
  ·omega
 ·subst e1;exact absurd hrh2 (zpF (by omega) n1 r2 hr2)
 ·omega
theorem ShR.apart{S:List Nd}(h:WF S){g:Nat->List Int}(G:zhm S g){k i p c T:Nat}(hk:k<S.length)(F:ShR (zbZ S g) k i p)(hc:(c:Int) ∈ zbZ S g p)(D:(T:Int) ∈ zbZ S g p)(E:c≠T) :
  ∀ {j O z:Nat},ShR (zbZ S g) c j z->ShR (zbZ S g) T O z->False:=by
 have hP:=(ShR.facts h G hk F).1
 have first:∀ {a b j:Nat},(a:Int) ∈ zbZ S g p->(b:Int) ∈ zbZ S g p->a≠b->ShR (zbZ S g) b j a->False:=fun {a b j} ha hb Z hs=>by
  cases j with
  | zero=>exact Z hs
  | succ j =>
   obtain⟨y,I,a5⟩:=hs;have e:=ShR.one h G hk F (F.trans (ShR.front hb I)) ha a5;subst e;obtain⟨b', e,b1,_,_,b2⟩:=zcU h G hP hb;have:b' = b:=(by omega);subst this;have:=(ShR.facts h G b1 I).2.1;omega
 intro j
 induction j with
 | zero =>
  intro O z h1 U;have:z=c:=h1;subst this;exact first hc D E U
 | succ j ih =>
  intro O z h1 U
  cases O with
  | zero =>
   have:z=T:=U;subst this;exact first D hc (Ne.symm E) h1
  | succ O =>
   obtain⟨y,I,a6⟩:=h1;obtain⟨y', J,M⟩:=U;have e:=ShR.one h G hk (F.trans (ShR.front hc I)) (F.trans (ShR.front D J)) a6 M;subst e;exact ih I J
theorem zef{S:List Nd}(h:WF S){g:Nat->List Int}(G:zhm S g):∀ {f p:Nat},p<S.length->∀ x ∈ zbV (zbZ S g) f p,∃ j q:Nat,x=q/\ShR (zbZ S g) p j q
 | 0,p,_,x,D=>⟨0,p,by simpa [zbV] using D,rfl⟩
 | f+1,p,F,x,D=>by
  simp only[zbV,List.mem_cons,List.mem_flatMap] at D;rcases D with rfl |⟨c,hc,D⟩
  ·exact⟨0,p,rfl,rfl⟩
  ·obtain⟨k,rfl,E,_⟩:=zcU h G F hc;rw[yi] at D;obtain⟨j,q,e,I⟩:=zef h G E x D;exact⟨j+1,q,e,ShR.front hc I⟩
theorem zru{S:List Nd}(h:WF S){g:Nat->List Int}(G:zhm S g){p:Nat}(D:p<S.length):(zbZ S g p).Nodup:=by
 unfold zbZ;split
 ·rename_i F;obtain⟨r,h1,E,_⟩:=zck S p F;rw[E,yi];exact h.kids_nodup h1
 ·split
  ·exact G.nodup p D
  ·exact h.kids_nodup D
theorem zif{S:List Nd}(h:WF S){g:Nat->List Int}(G:zhm S g){k:Nat}(M:k<S.length):∀ {f i p:Nat},ShR (zbZ S g) k i p->(zbV (zbZ S g) f p).Nodup
 | 0,_,p,_=>by simp[zbV]
 | f+1,i,p,hs=>by
  have E:=(ShR.facts h G M hs).1;simp only[zbV];rw[List.nodup_cons];refine⟨fun I=>?_,zhD _ _ (zru h G E) (fun x D=>?_) (fun x D y Z O z hz F=>?_)⟩
  ·obtain⟨x,D,I⟩:=List.mem_flatMap.1 I;obtain⟨c,rfl,hc,_,_,hv⟩:=zcU h G E D;rw[yi] at I;obtain⟨j,q,e,T⟩:=zef h G hc _ I;have:q=p:=(by omega);subst this;have:=(ShR.facts h G hc T).2.1;omega
  ·obtain⟨c,rfl,hc,_⟩:=zcU h G E D;rw[yi];exact zif h G M (i:=i+1) ⟨p,hs,D⟩
  ·obtain⟨c,rfl,hc,_⟩:=zcU h G E D;obtain⟨c', rfl,J,_⟩:=zcU h G E Z;rw[yi] at hz F;obtain⟨j,q,e,T⟩:=zef h G hc _ hz;obtain⟨j', q', e', U⟩:=zef h G J _ F;have:q=q' := by omega
   subst this;exact ShR.apart h G M hs D Z (fun e=>O (by rw[e])) T U
theorem ztQ{S:List Nd}(h:WF S){g:Nat->List Int}(G:zhm S g){k:Nat}(D:k<S.length)(f:Nat):(zbV (zbZ S g) f k).length<=S.length:=by
 have h1:=zif h G D (f:=f) (i:=0) (p:=k) rfl
 have:=h1.length_le_of_subset (l₂:=(List.range S.length).map (fun i:Nat=>(i:Int))) (fun x F=>by
  obtain⟨j,q,rfl,E⟩:=zef h G D x F;exact List.mem_map.2 ⟨q,List.mem_range.2 (ShR.facts h G D E).1,rfl⟩)
 simpa using this
theorem zxw(S:List Nd)(L:Nat):∀ l:List Int,l.length<=L->zyK S L l+3 ^ (L-l.length)<=3 ^ L
 | [],_=>by simp[zyK]
 | x :: r,hl=>by
  rw[List.length_cons] at hl;have D:=zxw S L r (by omega);have hd:=zsE (nd S x.toNat);rw[zyK,List.length_cons];rw[show L-r.length=(L-(r.length+1))+1 by omega,Nat.pow_succ] at D;rcases(show zpe (nd S x.toNat)=1\/zpe (nd S x.toNat)=2 by omega) with e|e <;> rw[e] <;> omega
theorem zAT(S:List Nd)(k:Nat):vF S k<3 ^ (S.length+2):=by
 have h1:=zxw S (S.length+2) (zeY S k) (by have:=zpA S k;omega);have:0<3 ^ (S.length+2-(zeY S k).length):=Nat.pow_pos (by omega);unfold vF;omega
theorem zmA{S:List Nd}(h:WF S){g:Nat->List Int}(G:zhm S g):∀ {f p:Nat},p<S.length->3 ^ (S.length+2)<=vF S p+f->zpZ (zbZ S g) S.length f p
 | 0,p,_,F=>by have:=zAT S p;omega
 | f+1,p,E,F=>fun c hc=>by
  obtain⟨k,rfl,D,_,_,h1⟩:=zcU h G E hc;rw[yi];exact⟨⟨by omega,by omega⟩,zmA h G D (by omega)⟩
def zzt(S:List Nd):Nat:=3 ^ (S.length+2)
theorem zls{S:List Nd}(h:WF S){g:Nat->List Int}(G:zhm S g){p:Nat}(D:p<S.length):zpZ (zbZ S g) S.length (zzt S) p:=zmA h G D (by unfold zzt;omega)
def zcg(S:List Nd)(mk:Int)(x:Int):Bool:=!decide ((nd S x.toNat).m=mk)
def zbX(S:List Nd)(H:Nat)(mk:Int):List Int:=flt (zcg S mk) (nd S H).ks
theorem zqV(a:Option Addr)(c:Nat)(S:List Nd)(H:Nat)(mk:Int)(w:World)(hH:H<S.length)(hl:(nd S H).ks.length<=1000)(hp:∀ y ∈ (nd S H).ks,∃ x:Nat,y=x/\x<S.length)(hS:zah w a S) :
  yL 223 #[.agg #[.slice a S.length c],.int .i64 (H:Int),.int .i64 mk] w fun e w' => ∃ v,e=.returned v/\Below w.heap.size w w' /\ w'.ownsRow w.heap.size 3 1 v (zbX S H mk).length ((zbX S H mk).map (Value.int .i64)):=by
 obtain⟨i0,b2,b8,b9,c6⟩:=info_parts info3;have HS:Hid (zah w a S):=hS;have R0:Hid (zbX S H mk=flt (zcg S mk) (nd S H).ks):=(rfl:zbX S H mk=_);have PL:Hid (∀ y ∈ (nd S H).ks,∃ x:Nat,y=x/\x<S.length):=hp;obtain⟨a8,c7,b1,_,_,_,_,_,⟨ka,kc,c5,a6⟩,_,_⟩:=hS H hH;subst b1;have HI:Hid (zal w ka (nd S H).ks):=a6;clear hS hp a6;generalize zbX S H mk=a5 at *;generalize (nd S H).ks=P at *;obtain⟨m,hm⟩:∃ m,P.length=m:=⟨_,rfl⟩;have HM:Hid (P.length=m):=hm;rw[hm] at hl c5;obtain⟨n,hn⟩:∃ n,S.length=n:=⟨_,rfl⟩;have HN:Hid (S.length=n):=hn;rw[hn] at hH PL |-;have c9:(H:Int)<(n:Int):=by omega
 have d7:a8<w.heap.size:=yd _ _ c5;clear hn hm
 go_enter Tryz.func223,Tryz.ntmps223
 go_wp2_with fail
 go_loopg [7,17] m (fun g s7 s17 wr=>∃ (i:Nat) (l:List Int),i<=m/\m-i<=g/\s17=.int .i64 i/\l.length<=i/\Hid (Below w.heap.size w wr)/\wr.cell? ⟨w.heap.size,0,none⟩=some (.slice (some ⟨a8,c7,none⟩) n c)/\w.heap.size+1<=wr.heap.size/\Hid (wr.ownsRow (w.heap.size+1) 3 1 s7 l.length (l.map (Value.int .i64)))/\Hid (l=flt (zcg S mk) (P.take i)))
 case atStart=>exact⟨0,[],by omega,by omega,rfl,by simp,(yk _ _).alloc (yj _) _,by go_simp,by simp,World.ownsRow_nil _ _ _ _,(by simp[flt]:([]:List Int)=flt (zcg S mk) (P.take 0))⟩
 case round =>
  obtain⟨i,l,hi,hg,rfl,b4,HB,cs,a7,I,HE⟩:=hrel;obtain⟨qa,qc,hv,_⟩:=zeh I.out;subst hv;obtain⟨Z,T⟩:∃ y,l.length=y:=⟨_,rfl⟩;have D:Hid (l.length=Z):=T;rw[T] at I b4 |-;clear T;by_cases U:i<m
  ·obtain⟨y,hy,b7⟩:=PL.out (P.getD i 0) (by rw[zae P 0 (by rw[HM.out];exact U)];exact List.getElem_mem _);obtain⟨pb,po,ep,b5⟩:=(HI.out.below HB.out) i (by rw[HM.out];exact U);subst ep;rw[hy] at b5;obtain⟨nb,no,ea,_,_,_,c3,_,_,_,_⟩:=(HS.out.below HB.out) y (by rw[HN.out];exact b7);cases ea;have d8:(y:Int)<(n:Int):=(by omega);have d6:(i:Int)<(m:Int):=by omega
   have NX:Hid (flt (zcg S mk) (P.take (i+1))=l++(if (nd S y).m=mk then [(y:Int)] else [])):=by
    have e:=zgP (zcg S mk) P i (by rw[HM.out];exact U);rw[hy] at e;show flt _ _=_;rw[e,<- HE.out];unfold zcg;rw[yi];by_cases h:(nd S y).m=mk <;> simp[h]
   clear HE hy c5;generalize (nd S y).m=hh at *;by_cases M:hh=mk
   ·subst M;have E2:Hid (l++[(y:Int)]=flt (zcg S hh) (P.take (i+1))):=(by rw[NX.out,yb rfl]:l++[(y:Int)]=flt (zcg S hh) (P.take (i+1)));have OB:Hid (∀ k,(Value.slice qa Z qc).ownBlock=some k->w.heap.size+1<=k):=fun k hk=>(I.out.lt k hk).1;have c8:Z<=1000:=(by omega);clear NX
    go_wp2_with (at_builtin;refine wpList_append_own _ rfl _ _ 48 rfl (w.heap.size+1) 3 i0 (.int .i64 0) 1 8 Tryz.underlying48 b2 b8 b9 c6 rfl (by decide) _ _ _ rfl (I.out.alloc _) ⟨wr.heap.size,0,none⟩ 1 1 [.int .i64 (y:Int)] rfl rfl ?c1 ?c2 ?c3 ?c4 ?c5 ?_)
    case c2=>first|rfl|(intro u hu;simp at hu;subst hu;rfl)|simp
    case c3=>unfold maxLen;omega
    case c4=>omega
    case c5=>first|omega|(simp;omega)
    case c1=>first|(go_simp;done)|(intro j u hj;match j,hj with|0,hj=>(cases hj;go_simp)|(j+1),hj=>simp at hj)
    intro v' w2 F E _;have J:Below (w.heap.size+1) wr w2:=((yk _ wr).alloc (by omega) _).grown E (by simp;omega) (fun k hk=>OB.out k hk);have a9:Hid (Below w.heap.size w w2):=HB.out.trans (J.mono (by omega));have b0:=(J.cell (p:=⟨w.heap.size,0,none⟩) (by show w.heap.size < _;omega)).trans cs
    have O:Hid (w2.ownsRow (w.heap.size+1) 3 1 v' (l++[(y:Int)]).length ((l++[(y:Int)]).map (Value.int .i64))):=by
     have h2:=F;rw[show (l++[(y:Int)]).length=Z+1 by simp[D.out],List.map_append];exact h2
    have b6:w.heap.size+1<=w2.heap.size:=yG a7 J.size;clear F E J cs I
    go_wp2_with fail
    go_roundg (m-(i+1))
    case measure=>omega
    case rel=>exact⟨i+1,l++[(y:Int)],by omega,by omega,by go_num,by simp[D.out];omega,a9,b0,b6,O,E2⟩
   ·have d4:(hh == mk)=false:=beq_eq_false_iff_ne.2 M;have d5:decide (hh=mk)=false:=yE M;have E2:Hid (l=flt (zcg S mk) (P.take (i+1))):=(by rw[NX.out,ya M];simp:l=flt (zcg S mk) (P.take (i+1)));have O:Hid (wr.ownsRow (w.heap.size+1) 3 1 (.slice qa Z qc) l.length (l.map (Value.int .i64))):=(by rw[D.out];exact I.out:wr.ownsRow (w.heap.size+1) 3 1 (.slice qa Z qc) l.length (l.map (Value.int .i64)));clear NX I
    go_wp2
    go_roundg (m-(i+1))
    case measure=>omega
    case rel=>exact⟨i+1,l,by omega,by omega,by go_num,by rw[D.out];omega,HB,cs,a7,O,E2⟩
  ·have b3:i=m:=(by omega);subst b3;have e:=HE.out;rw[List.take_of_length_le (by rw[HM.out];omega),<- R0.out] at e
   have OW:Hid (wr.ownsRow w.heap.size 3 1 (.slice qa Z qc) a5.length (a5.map (Value.int .i64))):=by
    have h2:=zfs I.out (show w.heap.size<=w.heap.size+1 by omega);rw[<- D.out,e] at h2;rw[<- D.out,e];exact h2
   clear HE e I
   go_wp2
   go_ret;exact⟨_,rfl,HB.out,OW.out⟩
theorem ztK{N:Nat}{l:List Nat}(h:l.Nodup)(hl:∀ y ∈ l,y<N):l.length<=N:=by
 have:=h.length_le_of_subset (l₂:=List.range N) (fun y D=>List.mem_range.2 (hl y D));simpa using this
structure Cl where
 n:Int
 ks:List Int
 deriving DecidableEq
def zxy:Cl:=⟨0,[]⟩
def cl(G:List Cl)(i:Nat):Cl:=G.getD i zxy
theorem zco{G:List Cl}{i:Nat}(h:i<G.length):cl G i=G[i]:=zae G zxy h
theorem zzi{G H:List Cl}(hl:G.length=H.length)(h:∀ i,i<G.length->cl G i=cl H i):G=H:=by
 apply List.ext_getElem hl;intro i h1 D;have:=h i h1
 rwa [zco h1,zco D] at this
def zeX(m:Nat)(x:Cl):Int:=if x.n < -1000000\/1000000<x.n then 2 else if 8<x.ks.length then 1 else if x.ks.any (fun k=>!decide (0<=k/\k<=(m:Int)-1)) then 4 else 0
def cellsE(m:Nat):List Cl->Int
 | []=>0
 | x :: l=>if zeX m x=0 then cellsE m l else zeX m x
def bring(T:List Int)(k:Int):List Int:=if k ∈ T then T else T++[k]
def brings(T ks:List Int):List Int:=ks.foldl bring T
def bfs(G:List Cl):Nat->List Int
 | 0=>[0]
 | i+1=>if i<(bfs G i).length then brings (bfs G i) (cl G ((bfs G i).getD i 0).toNat).ks else bfs G i
def at1(T:List Int)(k:Int):Int:=(T.idxOf k:Int)
def zqk(G:List Cl)(T:List Int)(k:Int):Cl:=⟨(cl G k.toNat).n,(cl G k.toNat).ks.map (at1 T)⟩
def reach(G:List Cl):List Int:=bfs G G.length
def zbw(G:List Cl):List Cl:=if G.length=0 then [] else (reach G).map (zqk G (reach G))
def zdG(G:List Cl):Prop:=∀ i,i<G.length->∀ k ∈ (cl G i).ks,∃ q:Nat,k=q/\q<G.length
def ziK(m:Nat)(T:List Int):Prop:=T.Nodup/\∀ k ∈ T,∃ q:Nat,k=q/\q<m
theorem zmr(T:List Int)(k:Int):∃ r,bring T k=T++r:=by
 unfold bring;split
 ·exact⟨[],by simp⟩
 ·exact⟨[k],rfl⟩
theorem zks:∀ (ks T:List Int),∃ r,brings T ks=T++r
 | [],T=>⟨[],by simp[brings]⟩
 | k :: ks,T=>by
  obtain⟨r1,h1⟩:=zmr T k;obtain⟨r2,D⟩:=zks ks (bring T k);exact⟨r1++r2,by show brings (bring T k) ks=_;rw[D,h1,List.append_assoc]⟩
theorem znN(T ks:List Int)(k:Int):brings T (ks++[k])=bring (brings T ks) k:=by simp[brings]
theorem zmq{m:Nat}{T:List Int}{k:Int}(h:ziK m T)(E:∃ q:Nat,k=q/\q<m):ziK m (bring T k):=by
 unfold bring;split
 ·exact h
 ·rename_i hn;refine⟨?_,fun x F=>?_⟩
  ·rw[List.nodup_append];exact⟨h.1,by simp,fun a ha b D e=>by simp at D;subst D;subst e;exact hn ha⟩
  ·rcases List.mem_append.1 F with h1|h1
   ·exact h.2 x h1
   ·simp at h1;subst h1;exact E
theorem zgI{m:Nat}:∀ (ks:List Int) {T:List Int},ziK m T->(∀ k ∈ ks,∃ q:Nat,k=q/\q<m)->ziK m (brings T ks)
 | [],_,h,_=>h
 | k :: ks,T,h,D=>zgI ks (zmq h (D k (by simp))) (fun x E=>D x (by simp[E]))
theorem zfB:∀ (ks:List Int) (T:List Int) (x:Int),x ∈ brings T ks↔x ∈ T\/x ∈ ks
 | [],T,x=>by simp[brings]
 | k :: ks,T,x=>by
  show x ∈ brings (bring T k) ks↔_;rw[zfB ks]
  have:x ∈ bring T k↔x ∈ T\/x=k:=by
   unfold bring;split
   ·rename_i h;exact⟨Or.inl,fun h1=>h1.elim id (fun e=>by rw[e];exact h)⟩
   ·simp
  rw[this];simp[or_assoc]
theorem znH{T r:List Int}{k:Int}(h:k ∈ T):at1 (T++r) k=at1 T k:=by
 unfold at1;rw[List.idxOf_append,yb h]
theorem zsb{T:List Int}{k:Int}(h:k ∉ T):at1 (T++[k]) k=T.length:=by
 unfold at1;rw[List.idxOf_append,ya h];simp
theorem zxH{T:List Int}{k:Int}(h:k ∈ T):(at1 T k).toNat<T.length/\T.getD (at1 T k).toNat 0=k:=by
 unfold at1;have h1:=List.idxOf_lt_length_of_mem h;rw[yi];exact⟨h1,by rw[zae _ _ h1];exact List.getElem_idxOf h1⟩
theorem zfM{m:Nat}{T:List Int}(h:ziK m T):T.length<=m:=by
 have h1:(T.map Int.toNat).Nodup:=by
  rw[List.nodup_iff_pairwise_ne,List.pairwise_map];refine(List.nodup_iff_pairwise_ne.1 h.1).imp_of_mem (fun {a b} ha F D e=>D ?_);obtain⟨q,M,_⟩:=h.2 a ha;obtain⟨Z,O,_⟩:=h.2 b F;omega
 have E:=ztK (N:=m) h1 (fun y J=>by
  obtain⟨x,I,rfl⟩:=List.mem_map.1 J;obtain⟨q,e,U⟩:=h.2 x I
  omega)
 rwa [List.length_map] at E
theorem zsh(G:List Cl)(i:Nat):∃ r,bfs G (i+1)=bfs G i++r:=by
 rw[bfs];split
 ·exact zks _ _
 ·exact⟨[],by simp⟩
theorem zoX(G:List Cl)(i:Nat):∀ j,∃ r,bfs G (i+j)=bfs G i++r
 | 0=>⟨[],by simp⟩
 | j+1=>by
  obtain⟨r,h⟩:=zoX G i j;obtain⟨E,D⟩:=zsh G (i+j);exact⟨r++E,by rw[show i+(j+1)=i+j+1 by omega,D,h,List.append_assoc]⟩
theorem zdj{G:List Cl}(E:zdG G)(h0:0<G.length):∀ i,ziK G.length (bfs G i)
 | 0=>⟨by simp[bfs],fun k F=>⟨0,by simpa [bfs] using F,h0⟩⟩
 | i+1=>by
  have D:=zdj E h0 i;rw[bfs];split
  ·rename_i hi;refine zgI _ D ?_;obtain⟨q,e,I⟩:=D.2 ((bfs G i).getD i 0) (by rw[zae _ _ hi];exact List.getElem_mem hi);rw[e,yi];exact E q I
  ·exact D
theorem ziy{G:List Cl}{i:Nat}(h:¬ i<(bfs G i).length):∀ j,bfs G (i+j)=bfs G i
 | 0=>rfl
 | j+1=>by
  have D:=ziy h j;rw[show i+(j+1)=i+j+1 by omega,bfs,D,ya (by omega)]
theorem zsf{G:List Cl}(E:zdG G)(h0:0<G.length){i:Nat}(h:¬ i<(bfs G i).length):bfs G i=reach G:=by
 unfold reach;rcases Nat.le_total i G.length with h1|h1
 ·have:=ziy h (G.length-i);rw[show i+(G.length-i)=G.length by omega] at this;exact this.symm
 ·have D:¬ G.length<(bfs G G.length).length:=by have:=zfM (zdj E h0 G.length);omega
  have:=ziy D (i-G.length);rw[show G.length+(i-G.length)=i by omega] at this;exact this
theorem zii{G:List Cl}(D:zdG G)(h0:0<G.length):ziK G.length (reach G):=zdj D h0 _
theorem zun{G:List Cl}(D:zdG G)(h0:0<G.length):(reach G).length<=G.length:=zfM (zii D h0)
theorem zgH{G:List Cl}(E:zdG G)(h0:0<G.length)(i:Nat):∃ r,reach G=bfs G i++r:=by
 rcases Nat.le_total i G.length with h1|h1
 ·have:=zoX G i (G.length-i);rw[show i+(G.length-i)=G.length by omega] at this;exact this
 ·have D:¬ G.length<(bfs G G.length).length:=by have:=zfM (zdj E h0 G.length);omega
  have:=ziy D (i-G.length);rw[show G.length+(i-G.length)=i by omega] at this;exact⟨[],by rw[this];simp[reach]⟩
theorem zsi{G:List Cl}(D:zdG G)(h0:0<G.length)(i:Nat):(bfs G i).length<=G.length:=zfM (zdj D h0 i)
theorem zrk{G:List Cl}(E:zdG G)(h0:0<G.length){i:Nat}(hi:i<(reach G).length){k:Int}(I:k ∈ (cl G ((reach G).getD i 0).toNat).ks):k ∈ reach G:=by
 obtain⟨r,J⟩:=zgH E h0 i;obtain⟨M,F⟩:=zgH E h0 (i+1)
 have D:i<(bfs G i).length:=by
  by_cases h:i<(bfs G i).length
  ·exact h
  ·have:=zsf E h0 h;rw[this] at h;exact absurd hi h
 have e:(reach G).getD i 0=(bfs G i).getD i 0:=by
  rw[J,zae _ _ (by simp;omega),zae _ _ D,List.getElem_append_left D]
 rw[F,bfs,yb D];refine List.mem_append_left _ ?_;rw[zfB];rw[e] at I;exact Or.inr I
theorem zfb{G:List Cl}(h0:0<G.length):(zbw G).length=(reach G).length:=by
 unfold zbw;rw[ya (by omega),List.length_map]
theorem zlr{G:List Cl}(h0:0<G.length){i:Nat}(hi:i<(reach G).length):cl (zbw G) i=zqk G (reach G) ((reach G).getD i 0):=by
 rw[zco (by rw[zfb h0];exact hi),zae _ _ hi];unfold zbw;simp[show ¬ G.length=0 by omega]
theorem zhu{G:List Cl}(h0:G.length=0):zbw G=[]:=by unfold zbw;rw[yb h0]
theorem zqo{G:List Cl}(E:zdG G):zdG (zbw G):=by
 by_cases h0:G.length=0
 ·rw[zhu h0];intro i hi;cases hi
 ·have h0:0<G.length:=by omega
  intro i hi k D;rw[zfb h0] at hi |-;rw[zlr h0 hi] at D;obtain⟨x,F,rfl⟩:=List.mem_map.1 D;have:=zxH (zrk E h0 hi F);refine⟨(at1 (reach G) x).toNat,?_,this.1⟩;unfold at1;simp
end Go.Proofs.YtcbcpomacdngmaaGreat
