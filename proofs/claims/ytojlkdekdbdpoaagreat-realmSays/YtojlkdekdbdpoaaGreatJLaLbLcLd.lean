/-
  x
-/
import Derived.Test.YtojlkdekdbdpoaaGreatJSrWfXdZaTlTmTnZf
import Derived.Test.YtojlkdekdbdpoaaGreatJXaSoWa
import Derived.Test.YtojlkdekdbdpoaaGreatJSkSlSmBkTa
import Derived.Test.YtojlkdekdbdpoaaGreatJZpVbVcVd
import Derived.Laws.AppendOwn
namespace Go.Proofs.YtojlkdekdbdpoaaGreat
open Go.RowKit
def digF(n:Nd):Nat:=if n.h = -1 then 2 else 1
def valF(S:List Nd)(L:Nat):List Int→Nat
 | []=>0
 | x :: r=>valF S L r+digF (nd S x.toNat)*3 ^ (L-(r.length+1))
def vF(S:List Nd)(k:Nat):Nat:=valF S (S.length+2) (pathF S k)
def eF(S:List Nd)(k:Nat):Nat:=vF S k+3 ^ (S.length+2-(pathF S k).length)
theorem zlK(n:Nd):1≤digF n∧digF n≤2:=by unfold digF;split <;> omega
theorem WF.v_up{S:List Nd}(h:WF S){k q:Nat}(hk:k<S.length)(hq:q<S.length)(hr:zae (nd S k)=q) :
  ∃ P,0<P∧vF S k=vF S q+digF (nd S k)*P∧eF S k=vF S q+digF (nd S k)*P+P∧eF S q=vF S q+3*P∧P=3 ^ (S.length+1-(pathF S q).length):=by
 have hp:=h.path_up hk hq hr
 have hl:=zfm S q
 refine⟨3 ^ (S.length+1-(pathF S q).length),Nat.pow_pos (by omega),?_,?_,?_,rfl⟩
 ·unfold vF
  rw[hp,valF,Int.toNat_natCast,show S.length+2-((pathF S q).length+1)=S.length+1-(pathF S q).length by omega]
 ·unfold eF vF
  rw[hp,valF,Int.toNat_natCast,List.length_cons,show S.length+2-((pathF S q).length+1)=S.length+1-(pathF S q).length by omega]
 ·unfold eF
  rw[show S.length+2-(pathF S q).length=(S.length+1-(pathF S q).length)+1 by omega,Nat.pow_succ,Nat.mul_comm]
theorem WF.v_step{S:List Nd}(h:WF S){k q:Nat}(hk:k<S.length)(hq:q<S.length)(hr:zae (nd S k)=q):vF S q<vF S k∧eF S k≤eF S q:=by
 obtain⟨P,h0,h1,h2,h3,_⟩:=h.v_up hk hq hr
 have hd:=zlK (nd S k)
 rcases(show digF (nd S k)=1∨digF (nd S k)=2 by omega) with e|e <;> rw[e] at h1 h2 <;> omega
theorem WF.v_Up{S:List Nd}(h:WF S):∀ {j x y:Nat},x<S.length→Up S j x y→vF S y≤vF S x∧eF S x≤eF S y
 | 0,_,_,_,e=>by cases e;omega
 | j+1,x,y,hx,⟨z,hz,hr,hu⟩=>by
  have h1:=h.v_step hx hz hr
  have h2:=h.v_Up hz hu
  omega
theorem v_e(S:List Nd)(k:Nat):vF S k<eF S k:=by
 unfold eF
 have:0<3 ^ (S.length+2-(pathF S k).length):=Nat.pow_pos (by omega)
 omega
theorem WF.v_given{S:List Nd}(h:WF S){H r c p j:Nat}(hH:H<S.length)(hr:r<S.length)(hc:c<S.length)(hp:p<S.length)(hh:(nd S r).h=H)(hu:Up S j p r)(hcp:zae (nd S c)=H)(hch:(nd S c).h = -1):vF S p<vF S c:=by
 have hrr:zae (nd S r)=H:=by unfold zae;rw[if_neg (by omega)];exact hh
 obtain⟨P,h0,h1,h2,h3,e⟩:=h.v_up hr hH hrr
 obtain⟨P', h0', h1', h2', h3', e'⟩:=h.v_up hc hH hcp
 rw[← e] at e'
 subst e'
 have hd:digF (nd S r)=1:=by unfold digF;rw[if_neg (by omega)]
 have hd' : digF (nd S c)=2:=by unfold digF;rw[if_pos hch]
 rw[hd] at h1 h2
 rw[hd'] at h1' h2'
 have hv:=(h.v_Up hp hu).2
 have:=v_e S p
 omega
theorem zby(S:List Nd)(x:Int)(h:rootE S x≠-1):∃ r:Nat,r<S.length∧rootE S x=r∧(nd S r).h=x∧x≠-1:=by
 unfold rootE at *
 by_cases hx:x = -1
 ·rw[if_pos hx] at h
  exact absurd rfl h
 ·rw[if_neg hx] at *
  cases hf:S.findIdx? fun n=>decide (n.h=x) with
  | none=>rw[hf] at h;exact absurd rfl h
  | some k =>
   obtain⟨h1,h2,_⟩:=List.findIdx?_eq_some_iff_getElem.1 hf
   exact⟨k,h1,rfl,by rw[zaF h1];exact of_decide_eq_true h2,hx⟩
theorem zjO{S:List Nd}{x:Int}(hx:x≠-1)(h:rootE S x = -1)(i:Nat)(hi:i<S.length):(nd S i).h≠x:=fun e=>by
 unfold rootE at h
 rw[if_neg hx] at h
 cases hf:S.findIdx? fun n=>decide (n.h=x) with
 | none =>
  have:=List.findIdx?_eq_none_iff.1 hf S[i] (List.getElem_mem hi)
  rw[← zaF hi] at this
  exact of_decide_eq_false this e
 | some k=>rw[hf] at h;simp at h
def showF(S:List Nd)(g:Nat→List Int)(p:Nat):List Int:=if rootE S p≠-1 then (nd S (rootE S p).toNat).ks else if g p≠[] then g p else (nd S p).ks
structure GivOk (S:List Nd) (g:Nat→List Int):Prop where
 some:∀ p,p<S.length→∀ c ∈ g p,∃ H r j:Nat,H<S.length∧r<S.length∧(nd S r).h=H∧Up S j p r∧c ∈ (nd S H).ks
 one:∀ p p' c,p<S.length→p' < S.length→c ∈ g p→c ∈ g p' → p=p'
 nodup:∀ p,p<S.length→(g p).Nodup
theorem zdx{S:List Nd}(h:WF S){g:Nat→List Int}(G:GivOk S g){p:Nat}(hp:p<S.length){c:Int}(hc:c ∈ showF S g p) :
  ∃ k q:Nat,c=k∧k<S.length∧q<S.length∧(nd S k).u=true∧(nd S k).h = -1∧(nd S k).p=q∧zae (nd S k)=q ∧
   ((nd S q).h=p∨(rootE S p = -1∧c ∈ g p∧∃ r j:Nat,r<S.length∧(nd S r).h=q∧Up S j p r)∨(rootE S p = -1∧q=p)):=by
 unfold showF at hc
 split at hc
 ·rename_i hr
  obtain⟨r,h1,h2,h3,_⟩:=zby S p hr
  rw[h2,Int.toNat_natCast] at hc
  obtain⟨k,e,k1,k2,k3,k4⟩:=h.kid h1 hc
  exact⟨k,r,e,k1,h1,k2,(h.host_of_parent k1 (by omega)).1,k3,k4,Or.inl h3⟩
 ·rename_i hr
  have hr' : rootE S p = -1:=Decidable.not_not.1 hr
  split at hc
  ·obtain⟨H,r,j,h1,h2,h3,h4,h5⟩:=G.some p hp c hc
   obtain⟨k,e,k1,k2,k3,k4⟩:=h.kid h1 h5
   exact⟨k,H,e,k1,h1,k2,(h.host_of_parent k1 (by omega)).1,k3,k4,Or.inr (Or.inl ⟨hr', hc,r,j,h2,h3,h4⟩)⟩
  ·obtain⟨k,e,k1,k2,k3,k4⟩:=h.kid hp hc
   exact⟨k,p,e,k1,hp,k2,(h.host_of_parent k1 (by omega)).1,k3,k4,Or.inr (Or.inr ⟨hr', rfl⟩)⟩
theorem zci{S:List Nd}(h:WF S){g:Nat→List Int}(G:GivOk S g){p:Nat}(hp:p<S.length){c:Int}(hc:c ∈ showF S g p) :
  ∃ k:Nat,c=k∧k<S.length∧(nd S k).u=true∧(nd S k).h = -1∧vF S p<vF S k:=by
 obtain⟨k,q,e,hk,hq,hu,hh,hpq,hru,hw⟩:=zdx h G hp hc
 refine⟨k,e,hk,hu,hh,?_⟩
 rcases hw with hw |⟨_,_,r,j,hr,hrh,hup⟩ |⟨_,rfl⟩
 ·have h1:=(h.v_step hk hq hru).1
  have h2:=(h.v_step hq hp (by unfold zae;rw[if_neg (by omega)];exact hw)).1
  omega
 ·exact h.v_given hq hr hk hp hrh hup hru hh
 ·exact(h.v_step hk hq hru).1
def ShR(ks:Nat→List Int)(c:Nat):Nat→Nat→Prop
 | 0,z=>z=c
 | j+1,z=>∃ y,ShR ks c j y∧(z:Int) ∈ ks y
theorem ShR.front{ks:Nat→List Int}{p c:Nat}(hc:(c:Int) ∈ ks p):∀ {j z:Nat},ShR ks c j z→ShR ks p (j+1) z
 | 0,z,e=>by cases e;exact⟨p,rfl,hc⟩
 | j+1,z,⟨y,hy,hz⟩=>⟨y,ShR.front hc hy,hz⟩
theorem ShR.trans{ks:Nat→List Int}{p c i:Nat}(h:ShR ks p i c):∀ {j z:Nat},ShR ks c j z→ShR ks p (i+j) z
 | 0,z,e=>by cases e;exact h
 | j+1,z,⟨y,hy,hz⟩=>⟨y,ShR.trans h hy,hz⟩
theorem ShR.facts{S:List Nd}(h:WF S){g:Nat→List Int}(G:GivOk S g){k:Nat}(hk:k<S.length):∀ {j z:Nat},ShR (showF S g) k j z→z<S.length∧vF S k≤vF S z∧(z=k∨(nd S z).h = -1)∧(z=k∨(nd S z).u=true)∧(1≤j→vF S k<vF S z∧(nd S z).h = -1∧(nd S z).u=true)
 | 0,z,e=>by cases e;exact⟨hk,Nat.le_refl _,Or.inl rfl,Or.inl rfl,fun h=>by omega⟩
 | j+1,z,⟨y,hy,hz⟩=>by
  obtain⟨h1,h2,_⟩:=ShR.facts h G hk hy
  obtain⟨k', e,k1,ku,k2,k3⟩:=zci h G h1 hz
  have:z=k' := by omega
  subst this
  exact⟨k1,by omega,Or.inr k2,Or.inr ku,fun _=>⟨by omega,k2,ku⟩⟩
theorem ShR.inner{S:List Nd}(h:WF S){g:Nat→List Int}(G:GivOk S g){k r r' : Nat}(hk:k<S.length)(hr:r<S.length)(hr' : r' < S.length)(hh:(nd S r').h=r)(hrh:(nd S r).h≠-1):∀ {j z i:Nat},ShR (showF S g) k j z→Up S i z r' → k=r∨∃ i,Up S i k r'
 | 0,z,i,e,hu=>by cases e;exact Or.inr ⟨i,hu⟩
 | j+1,z,i,⟨y,hy,hz⟩,hu=>by
  obtain⟨y1,y2,y3,_⟩:=ShR.facts h G hk hy
  obtain⟨k', q,e,hk', hq,hku,hkh,hpq,hru,hw⟩:=zdx h G y1 hz
  have:z=k' := by omega
  subst this
  cases i with
  | zero =>
   have:z=r' := hu
   subst this
   omega
  | succ i =>
   obtain⟨q', hq', hru', hu'⟩:=hu
   have:q' = q:=by omega
   subst this
   rcases hw with hw |⟨_,_,r2,j2,hr2,hrh2,hup⟩ |⟨_,rfl⟩
   ·by_cases e:q' = r'
    ·subst e
     have:y=r:=by omega
     subst this
     exact Or.inl (y3.resolve_right hrh).symm
    ·cases i with
     | zero=>exact absurd hu' e
     | succ i =>
      obtain⟨q2,hq2,hru2,hu2⟩:=hu'
      have:q2=y:=by unfold zae at hru2;rw[if_neg (by omega)] at hru2;omega
      subst this
      exact ShR.inner h G hk hr hr' hh hrh hy hu2
   ·have h3:Up S 1 r2 q' := WF.up_one hq' (by unfold zae;rw[if_neg (by omega)];exact hrh2)
    exact ShR.inner h G hk hr hr' hh hrh hy (hup.trans (h3.trans hu'))
   ·exact ShR.inner h G hk hr hr' hh hrh hy hu'
theorem ShR.one{S:List Nd}(h:WF S){g:Nat→List Int}(G:GivOk S g){k i i' p p' : Nat}(hk:k<S.length)(h1:ShR (showF S g) k i p)(h2:ShR (showF S g) k i' p'){c:Int}(hc:c ∈ showF S g p)(hc' : c ∈ showF S g p'):p=p' := by
 obtain⟨p1,p2,p3,_⟩:=ShR.facts h G hk h1
 obtain⟨q1,q2,q3,_⟩:=ShR.facts h G hk h2
 obtain⟨z,q,e,hz,hq,hzu,hzh,hzp,hzr,hw⟩:=zdx h G p1 hc
 obtain⟨z', q', e', hz', hq', hzu', hzh', hzp', hzr', hw'⟩:=zdx h G q1 hc'
 have:z' = z:=by omega
 subst this
 have:q' = q:=by omega
 subst this
 have up:∀ {a:Nat},a<S.length→(nd S q').h=a→vF S a<vF S q' := fun ha e=>(h.v_step hq ha (by unfold zae;rw[if_neg (by omega)];exact e)).1
 have inn:∀ {a b r j i:Nat},a<S.length→ShR (showF S g) k i b→vF S k≤vF S a→(nd S q').h=a→r<S.length→(nd S r).h=q' → Up S j b r→False:=fun {a b r j i} ha hb hv hqa hr hrq hu=>by
  have hva:=up ha hqa
  rcases ShR.inner h G hk hq hr hrq (by omega) hb hu with e |⟨i,hi⟩
  ·subst e;omega
  ·have h3:=(h.v_Up hk hi).1
   have h4:=(h.v_step hr hq (by unfold zae;rw[if_neg (by omega)];exact hrq)).1
   omega
 rcases hw with hw |⟨n1,m1,r,j,hr,hrh,hup⟩ |⟨n1,e1⟩ <;> rcases hw' with hw' |⟨n2,m2,r2,j2,hr2,hrh2,hup2⟩ |⟨n2,e2⟩
 ·omega
 ·exact(inn p1 h2 p2 hw hr2 hrh2 hup2).elim
 ·subst e2
  have:=up p1 hw
  rcases q3 with e|e
  ·subst e;omega
  ·omega
 ·exact(inn q1 h1 q2 hw' hr hrh hup).elim
 ·exact G.one _ _ c p1 q1 m1 m2
 ·subst e2
  exact absurd hrh (zjO (by omega) n2 r hr)
 ·subst e1
  have:=up q1 hw'
  rcases p3 with e|e
  ·subst e;omega
  ·omega
 ·subst e1
  exact absurd hrh2 (zjO (by omega) n1 r2 hr2)
 ·omega
theorem ShR.apart{S:List Nd}(h:WF S){g:Nat→List Int}(G:GivOk S g){k i p c c' : Nat}(hk:k<S.length)(hp:ShR (showF S g) k i p)(hc:(c:Int) ∈ showF S g p)(hc' :(c' : Int) ∈ showF S g p)(hne:c≠c') :
  ∀ {j j' z:Nat},ShR (showF S g) c j z→ShR (showF S g) c' j' z→False:=by
 have hP:=(ShR.facts h G hk hp).1
 have first:∀ {a b j:Nat},(a:Int) ∈ showF S g p→(b:Int) ∈ showF S g p→a≠b→ShR (showF S g) b j a→False:=fun {a b j} ha hb hab hs=>by
  cases j with
  | zero=>exact hab hs
  | succ j =>
   obtain⟨y,hy,hya⟩:=hs
   have e:=ShR.one h G hk hp (hp.trans (ShR.front hb hy)) ha hya
   subst e
   obtain⟨b', e,b1,_,_,b2⟩:=zci h G hP hb
   have:b' = b:=by omega
   subst this
   have:=(ShR.facts h G b1 hy).2.1
   omega
 intro j
 induction j with
 | zero =>
  intro j' z h1 h2
  have:z=c:=h1
  subst this
  exact first hc hc' hne h2
 | succ j ih =>
  intro j' z h1 h2
  cases j' with
  | zero =>
   have:z=c' := h2
   subst this
   exact first hc' hc (Ne.symm hne) h1
  | succ j' =>
   obtain⟨y,hy,hyz⟩:=h1
   obtain⟨y', hy', hyz'⟩:=h2
   have e:=ShR.one h G hk (hp.trans (ShR.front hc hy)) (hp.trans (ShR.front hc' hy')) hyz hyz'
   subst e
   exact ih hy hy'
theorem zcJ{S:List Nd}(h:WF S){g:Nat→List Int}(G:GivOk S g):∀ {f p:Nat},p<S.length→∀ x ∈ zbs (showF S g) f p,∃ j q:Nat,x=q∧ShR (showF S g) p j q
 | 0,p,_,x,hx=>⟨0,p,by simpa [zbs] using hx,rfl⟩
 | f+1,p,hp,x,hx=>by
  simp only[zbs,List.mem_cons,List.mem_flatMap] at hx
  rcases hx with rfl |⟨c,hc,hx⟩
  ·exact⟨0,p,rfl,rfl⟩
  ·obtain⟨k,rfl,hk,_⟩:=zci h G hp hc
   rw[Int.toNat_natCast] at hx
   obtain⟨j,q,e,hq⟩:=zcJ h G hk x hx
   exact⟨j+1,q,e,ShR.front hc hq⟩
theorem zlv{S:List Nd}(h:WF S){g:Nat→List Int}(G:GivOk S g){p:Nat}(hp:p<S.length):(showF S g p).Nodup:=by
 unfold showF
 split
 ·rename_i hr
  obtain⟨r,h1,h2,_⟩:=zby S p hr
  rw[h2,Int.toNat_natCast]
  exact h.kids_nodup h1
 ·split
  ·exact G.nodup p hp
  ·exact h.kids_nodup hp
theorem zeV{S:List Nd}(h:WF S){g:Nat→List Int}(G:GivOk S g){k:Nat}(hk:k<S.length):∀ {f i p:Nat},ShR (showF S g) k i p→(zbs (showF S g) f p).Nodup
 | 0,_,p,_=>by simp[zbs]
 | f+1,i,p,hs=>by
  have hp:=(ShR.facts h G hk hs).1
  simp only[zbs]
  rw[List.nodup_cons]
  refine⟨fun hm=>?_,zeQ _ _ (zlv h G hp) (fun x hx=>?_) (fun x hx y hy hne z hz hz' => ?_)⟩
  ·obtain⟨x,hx,hm⟩:=List.mem_flatMap.1 hm
   obtain⟨c,rfl,hc,_,_,hv⟩:=zci h G hp hx
   rw[Int.toNat_natCast] at hm
   obtain⟨j,q,e,hq⟩:=zcJ h G hc _ hm
   have:q=p:=by omega
   subst this
   have:=(ShR.facts h G hc hq).2.1
   omega
  ·obtain⟨c,rfl,hc,_⟩:=zci h G hp hx
   rw[Int.toNat_natCast]
   exact zeV h G hk (i:=i+1) ⟨p,hs,hx⟩
  ·obtain⟨c,rfl,hc,_⟩:=zci h G hp hx
   obtain⟨c', rfl,hc', _⟩:=zci h G hp hy
   rw[Int.toNat_natCast] at hz hz'
   obtain⟨j,q,e,hq⟩:=zcJ h G hc _ hz
   obtain⟨j', q', e', hq'⟩:=zcJ h G hc' _ hz'
   have:q=q' := by omega
   subst this
   exact ShR.apart h G hk hs hx hy (fun e=>hne (by rw[e])) hq hq'
theorem zlA{S:List Nd}(h:WF S){g:Nat→List Int}(G:GivOk S g){k:Nat}(hk:k<S.length)(f:Nat):(zbs (showF S g) f k).length≤S.length:=by
 have h1:=zeV h G hk (f:=f) (i:=0) (p:=k) rfl
 have:=h1.length_le_of_subset (l₂:=(List.range S.length).map (fun i:Nat=>(i:Int))) (fun x hx=>by
  obtain⟨j,q,rfl,hq⟩:=zcJ h G hk x hx
  exact List.mem_map.2 ⟨q,List.mem_range.2 (ShR.facts h G hk hq).1,rfl⟩)
 simpa using this
theorem zoP(S:List Nd)(L:Nat):∀ l:List Int,l.length≤L→valF S L l+3 ^ (L-l.length)≤3 ^ L
 | [],_=>by simp[valF]
 | x :: r,hl=>by
  rw[List.length_cons] at hl
  have ih:=zoP S L r (by omega)
  have hd:=zlK (nd S x.toNat)
  rw[valF,List.length_cons]
  rw[show L-r.length=(L-(r.length+1))+1 by omega,Nat.pow_succ] at ih
  rcases(show digF (nd S x.toNat)=1∨digF (nd S x.toNat)=2 by omega) with e|e <;> rw[e] <;> omega
theorem v_lt(S:List Nd)(k:Nat):vF S k<3 ^ (S.length+2):=by
 have h1:=zoP S (S.length+2) (pathF S k) (by have:=zfm S k;omega)
 have:0<3 ^ (S.length+2-(pathF S k).length):=Nat.pow_pos (by omega)
 unfold vF
 omega
theorem zhT{S:List Nd}(h:WF S){g:Nat→List Int}(G:GivOk S g):∀ {f p:Nat},p<S.length→3 ^ (S.length+2)≤vF S p+f→DeepG (showF S g) S.length f p
 | 0,p,_,hv=>by have:=v_lt S p;omega
 | f+1,p,hp,hv=>fun c hc=>by
  obtain⟨k,rfl,hk,_,_,h1⟩:=zci h G hp hc
  rw[Int.toNat_natCast]
  exact⟨⟨by omega,by omega⟩,zhT h G hk (by omega)⟩
def farF(S:List Nd):Nat:=3 ^ (S.length+2)
theorem zez{S:List Nd}(h:WF S){g:Nat→List Int}(G:GivOk S g){p:Nat}(hp:p<S.length):DeepG (showF S g) S.length (farF S) p:=zhT h G hp (by unfold farF;omega)
end Go.Proofs.YtojlkdekdbdpoaaGreat

namespace Go.Proofs.YtojlkdekdbdpoaaGreat
set_option maxRecDepth 100000
set_option maxHeartbeats 4000000
open Go.RowKit
def zaG(S:List Nd)(mk:Int)(x:Int):Bool:=!decide ((nd S x.toNat).m=mk)
def zbt(S:List Nd)(H:Nat)(mk:Int):List Int:=flt (zaG S mk) (nd S H).ks
theorem zkD(a:Option Addr)(c:Nat)(S:List Nd)(H:Nat)(mk:Int)(w:World)(hH:H<S.length)(hl:(nd S H).ks.length≤1000)(hp:∀ y ∈ (nd S H).ks,∃ x:Nat,y=x∧x<S.length)(hS:NdsAt w a S) :
  Calls Tryz.prog 143 #[.agg #[.slice a S.length c],.int .i64 (H:Int),.int .i64 mk] w fun e w' => ∃ v,e=.returned v∧Below w.heap.size w w' ∧ w'.ownsRow w.heap.size 3 1 v (zbt S H mk).length ((zbt S H mk).map (Value.int .i64)):=by
 obtain⟨i0,hi0,hz0,hz1,hz2⟩:=info_parts info3
 have HS:Hid (NdsAt w a S):=hS
 have R0:Hid (zbt S H mk=flt (zaG S mk) (nd S H).ks):=(rfl:zbt S H mk=_)
 have PL:Hid (∀ y ∈ (nd S H).ks,∃ x:Nat,y=x∧x<S.length):=hp
 obtain⟨nb0,no0,ea0,_,_,_,_,_,⟨ka,kc,c5,hks⟩,_,_⟩:=hS H hH
 subst ea0
 have HI:Hid (zah w ka (nd S H).ks):=hks
 clear hS hp hks
 generalize zbt S H mk=RES at *
 generalize (nd S H).ks=P at *
 obtain⟨m,hm⟩:∃ m,P.length=m:=⟨_,rfl⟩
 have HM:Hid (P.length=m):=hm
 rw[hm] at hl c5
 obtain⟨n,hn⟩:∃ n,S.length=n:=⟨_,rfl⟩
 have HN:Hid (S.length=n):=hn
 rw[hn] at hH PL ⊢
 have hH2:(H:Int)<(n:Int):=by omega
 have hnb:nb0<w.heap.size:=World.block_lt_of_cell? _ _ c5
 clear hn hm
 go_enter Tryz.func143,Tryz.ntmps143
 go_wp2_with fail
 go_loopg [7,17] m (fun g s7 s17 wr=>∃ (i:Nat) (l:List Int),i≤m∧m-i≤g∧s17=.int .i64 i∧l.length≤i∧Hid (Below w.heap.size w wr)∧wr.cell? ⟨w.heap.size,0,none⟩=some (.slice (some ⟨nb0,no0,none⟩) n c)∧w.heap.size+1≤wr.heap.size∧Hid (wr.ownsRow (w.heap.size+1) 3 1 s7 l.length (l.map (Value.int .i64)))∧Hid (l=flt (zaG S mk) (P.take i)))
 case atStart=>exact⟨0,[],by omega,by omega,rfl,by simp,(Below.refl _ _).alloc (Nat.le_refl _) _,by go_simp,by simp,World.ownsRow_nil _ _ _ _,(by simp[flt]:([]:List Int)=flt (zaG S mk) (P.take 0))⟩
 case round =>
  obtain⟨i,l,hi,hg,rfl,hli,HB,cs,hsz,HO,HE⟩:=hrel
  obtain⟨qa,qc,hv,_⟩:=zar HO.out
  subst hv
  obtain⟨ln,hln⟩:∃ y,l.length=y:=⟨_,rfl⟩
  have HLN:Hid (l.length=ln):=hln
  rw[hln] at HO hli ⊢
  clear hln
  by_cases hlt:i<m
  ·obtain⟨y,hy,hyn⟩:=PL.out (P.getD i 0) (by rw[zad P 0 (by rw[HM.out];exact hlt)];exact List.getElem_mem _)
   obtain⟨pb,po,ep,hpc⟩:=(HI.out.below HB.out) i (by rw[HM.out];exact hlt)
   subst ep
   rw[hy] at hpc
   obtain⟨nb,no,ea,_,_,_,c3,_,_,_,_⟩:=(HS.out.below HB.out) y (by rw[HN.out];exact hyn)
   cases ea
   have hy2:(y:Int)<(n:Int):=by omega
   have hi2:(i:Int)<(m:Int):=by omega
   have NX:Hid (flt (zaG S mk) (P.take (i+1))=l++(if (nd S y).m=mk then [(y:Int)] else [])):=by
    have e:=zcB (zaG S mk) P i (by rw[HM.out];exact hlt)
    rw[hy] at e
    show flt _ _=_
    rw[e,← HE.out]
    unfold zaG
    rw[Int.toNat_natCast]
    by_cases h:(nd S y).m=mk <;> simp[h]
   clear HE hy c5
   generalize (nd S y).m=hh at *
   by_cases hh1:hh=mk
   ·subst hh1
    have E2:Hid (l++[(y:Int)]=flt (zaG S hh) (P.take (i+1))):=(by rw[NX.out,if_pos rfl]:l++[(y:Int)]=flt (zaG S hh) (P.take (i+1)))
    have OB:Hid (∀ k,(Value.slice qa ln qc).ownBlock=some k→w.heap.size+1≤k):=fun k hk=>(HO.out.lt k hk).1
    have hln1:ln≤1000:=by omega
    clear NX
    go_wp2_with (at_builtin;refine wpList_append_own _ rfl _ _ 29 rfl (w.heap.size+1) 3 i0 (.int .i64 0) 1 8 Tryz.underlying29 hi0 hz0 hz1 hz2 rfl (by decide) _ _ _ rfl (HO.out.alloc _) ⟨wr.heap.size,0,none⟩ 1 1 [.int .i64 (y:Int)] rfl rfl ?c1 ?c2 ?c3 ?c4 ?c5 ?_)
    case c2=>first|rfl|(intro u hu;simp at hu;subst hu;rfl)|simp
    case c3=>unfold maxLen;omega
    case c4=>omega
    case c5=>first|omega|(simp;omega)
    case c1=>first|(go_simp;done)|(intro j u hj;match j,hj with|0,hj=>(cases hj;go_simp)|(j+1),hj=>simp at hj)
    intro v' w2 hown' hgrow _
    have hb2:Below (w.heap.size+1) wr w2:=((Below.refl _ wr).alloc (by omega) _).grown hgrow (by simp;omega) (fun k hk=>OB.out k hk)
    have HB2:Hid (Below w.heap.size w w2):=HB.out.trans (hb2.mono (by omega))
    have cs2:=(hb2.cell (p:=⟨w.heap.size,0,none⟩) (by show w.heap.size < _;omega)).trans cs
    have HO2:Hid (w2.ownsRow (w.heap.size+1) 3 1 v' (l++[(y:Int)]).length ((l++[(y:Int)]).map (Value.int .i64))):=by
     have h2:=hown'
     rw[show (l++[(y:Int)]).length=ln+1 by simp[HLN.out],List.map_append]
     exact h2
    have hs2:w.heap.size+1≤w2.heap.size:=Nat.le_trans hsz hb2.size
    clear hown' hgrow hb2 cs HO
    go_wp2_with fail
    go_roundg (m-(i+1))
    case measure=>omega
    case rel=>exact⟨i+1,l++[(y:Int)],by omega,by omega,by go_num,by simp[HLN.out];omega,HB2,cs2,hs2,HO2,E2⟩
   ·have hhb:(hh == mk)=false:=beq_eq_false_iff_ne.2 hh1
    have hhd:decide (hh=mk)=false:=decide_eq_false hh1
    have E2:Hid (l=flt (zaG S mk) (P.take (i+1))):=(by rw[NX.out,if_neg hh1];simp:l=flt (zaG S mk) (P.take (i+1)))
    have HO2:Hid (wr.ownsRow (w.heap.size+1) 3 1 (.slice qa ln qc) l.length (l.map (Value.int .i64))):=(by rw[HLN.out];exact HO.out:wr.ownsRow (w.heap.size+1) 3 1 (.slice qa ln qc) l.length (l.map (Value.int .i64)))
    clear NX HO
    go_wp2
    go_roundg (m-(i+1))
    case measure=>omega
    case rel=>exact⟨i+1,l,by omega,by omega,by go_num,by rw[HLN.out];omega,HB,cs,hsz,HO2,E2⟩
  ·have hie:i=m:=by omega
   subst hie
   have e:=HE.out
   rw[List.take_of_length_le (by rw[HM.out];omega),← R0.out] at e
   have OW:Hid (wr.ownsRow w.heap.size 3 1 (.slice qa ln qc) RES.length (RES.map (Value.int .i64))):=by
    have h2:=zbR HO.out (show w.heap.size≤w.heap.size+1 by omega)
    rw[← HLN.out,e] at h2
    rw[← HLN.out,e]
    exact h2
   clear HE e HO
   go_wp2
   go_ret
   exact⟨_,rfl,HB.out,OW.out⟩
end Go.Proofs.YtojlkdekdbdpoaaGreat

namespace Go.Proofs.YtojlkdekdbdpoaaGreat
open Go.RowKit
structure Slt where
 pl:Int
 num:Int
 gv:List Int
def numF(S:List Nd)(x:Int):Int:=(nd S x.toNat).t-90
def zbN(S:List Nd)(H:Nat)(out:List Slt)(x:Int):List Slt :=
 if numF S x<0 then out else out++[⟨x,numF S x,if out.any (fun s=>decide (s.num=numF S x)) then [] else zbt S H (numF S x)⟩]
def zaD(S:List Nd)(H:Nat)(l:List Int):List Slt:=l.foldl (zbN S H) []
def zaw(S:List Nd)(H:Nat):List Slt:=if rootE S H = -1 then [] else zaD S H (zat S S.length (rootE S H).toNat)
theorem zbQ{S:List Nd}{H:Nat}{mk x:Int}:x ∈ zbt S H mk↔x ∈ (nd S H).ks∧(nd S x.toNat).m=mk:=by
 unfold zbt
 rw[zgF]
 unfold zaG
 simp
theorem zde(S:List Nd)(H:Nat)(l:List Int)(x:Int):zaD S H (l++[x])=zbN S H (zaD S H l) x:=by
 unfold zaD
 rw[List.foldl_append]
 rfl
theorem zdi{α:Type}{P:List α→Prop}(h0:P [])(h1:∀ l x,P l→P (l++[x]))(l:List α):P l:=by
 have:∀ n,∀ l:List α,l.length=n→P l:=by
  intro n
  induction n with
  | zero=>intro l hl;cases l with|nil=>exact h0|cons=>cases hl
  | succ n ih =>
   intro l hl
   have hne:l≠[]:=by intro e;subst e;cases hl
   rw[← List.dropLast_concat_getLast hne]
   exact h1 _ _ (ih _ (by rw[List.length_dropLast];omega))
 exact this _ l rfl
theorem zeH{S:List Nd}{H:Nat}(l:List Int):∀ s ∈ zaD S H l,s.pl ∈ l∧s.num=numF S s.pl∧0≤s.num∧(s.gv=[]∨s.gv=zbt S H s.num):=by
 induction l using zdi with
 | h0=>intro s hs;cases hs
 | h1 l x ih =>
  intro s hs
  rw[zde] at hs
  unfold zbN at hs
  split at hs
  ·obtain⟨h1,h2⟩:=ih s hs
   exact⟨List.mem_append_left _ h1,h2⟩
  ·rename_i hn
   rcases List.mem_append.1 hs with hs|hs
   ·obtain⟨h1,h2⟩:=ih s hs
    exact⟨List.mem_append_left _ h1,h2⟩
   ·have e:=List.mem_singleton.1 hs
    subst e
    refine⟨by simp,rfl,by dsimp only;omega,?_⟩
    dsimp only
    split
    ·exact Or.inl rfl
    ·exact Or.inr rfl
theorem zih(S:List Nd)(H:Nat)(l:List Int):(zaD S H l).map Slt.pl=l.filter (fun x=>decide (0≤numF S x)):=by
 induction l using zdi with
 | h0=>rfl
 | h1 l x ih =>
  rw[zde,List.filter_append,← ih]
  unfold zbN
  split
  ·rename_i h
   have:¬ 0≤numF S x:=by omega
   simp[this]
  ·rename_i h
   have:0≤numF S x:=by omega
   simp[this]
theorem zho(S:List Nd)(H:Nat)(l:List Int):(zaD S H l).length≤l.length:=by
 have h:=congrArg List.length (zih S H l)
 rw[List.length_map] at h
 rw[h]
 exact List.length_filter_le _ _
theorem zkF(S:List Nd)(H:Nat)(l:List Int):(zaD S H l).Pairwise (fun s s' => s'.gv=[]∨s.num≠s'.num):=by
 induction l using zdi with
 | h0=>exact List.Pairwise.nil
 | h1 l x ih =>
  rw[zde]
  unfold zbN
  split
  ·exact ih
  ·rw[List.pairwise_append]
   refine⟨ih,List.pairwise_singleton _ _,fun s hs s' hs' => ?_⟩
   have e:=List.mem_singleton.1 hs'
   subst e
   dsimp only
   split
   ·exact Or.inl rfl
   ·rename_i hany
    right
    intro e
    exact hany (List.any_eq_true.2 ⟨s,hs,decide_eq_true e⟩)
theorem zhX{S:List Nd}{H:Nat}{l:List Int}{s s' : Slt}(hs:s ∈ zaD S H l)(hs' : s' ∈ zaD S H l){c:Int}(hc:c ∈ s.gv)(hc' : c ∈ s'.gv):s=s' := by
 obtain⟨_,_,_,h1⟩:=zeH l s hs
 obtain⟨_,_,_,h2⟩:=zeH l s' hs'
 have n1:s.gv≠[]:=fun e=>by rw[e] at hc;cases hc
 have n2:s'.gv≠[]:=fun e=>by rw[e] at hc'; cases hc'
 have e1:=h1.resolve_left n1
 have e2:=h2.resolve_left n2
 rw[e1] at hc
 rw[e2] at hc'
 have m1:=(zbQ.1 hc).2
 have m2:=(zbQ.1 hc').2
 have hp:=zkF S H l
 obtain⟨i,hi,rfl⟩:=List.getElem_of_mem hs
 obtain⟨j,hj,rfl⟩:=List.getElem_of_mem hs'
 rw[List.pairwise_iff_getElem] at hp
 rcases Nat.lt_trichotomy i j with hlt|e|hlt
 ·rcases hp i j hi hj hlt with h|h
  ·exact absurd h n2
  ·exact absurd (m1.symm.trans m2) h
 ·subst e;rfl
 ·rcases hp j i hj hi hlt with h|h
  ·exact absurd h n1
  ·exact absurd (m2.symm.trans m1) h
def givT(S:List Nd):Nat→Nat→List Int
 | 0,_=>[]
 | h+1,p=>match (zaw S h).find? (fun s=>decide (s.pl=(p:Int))) with
  | some s=>s.gv
  | none=>givT S h p
def givI(S:List Nd)(h:Nat)(L:List Slt)(p:Nat):List Int:=match L.find? (fun s=>decide (s.pl=(p:Int))) with
  | some s=>s.gv
  | none=>givT S h p
theorem zeq{S:List Nd}:∀ {h p:Nat} {c:Int},c ∈ givT S h p→∃ H s,H<h∧s ∈ zaw S H∧s.pl=(p:Int)∧c ∈ s.gv
 | 0,_,_,hc=>by cases hc
 | h+1,p,c,hc=>by
  unfold givT at hc
  split at hc
  ·rename_i s hs
   exact⟨h,s,by omega,List.mem_of_find?_eq_some hs,by have:=List.find?_some hs;simpa using this,hc⟩
  ·obtain⟨H,s,h1,h2⟩:=zeq hc
   exact⟨H,s,by omega,h2⟩
theorem zeO{S:List Nd}:∀ {h p:Nat},givT S h p=[]∨∃ H s,H<h∧s ∈ zaw S H∧givT S h p=s.gv
 | 0,_=>Or.inl rfl
 | h+1,p=>by
  unfold givT
  split
  ·rename_i s hs
   exact Or.inr ⟨h,s,by omega,List.mem_of_find?_eq_some hs,rfl⟩
  ·rcases zeO (S:=S) (h:=h) (p:=p) with e |⟨H,s,h1,h2⟩
   ·exact Or.inl e
   ·exact Or.inr ⟨H,s,by omega,h2⟩
theorem zaX{S:List Nd}(h:WF S){H:Nat}{s:Slt}(hs:s ∈ zaw S H):∃ r k j:Nat,r<S.length∧(nd S r).h=H∧rootE S H=r∧s.pl=k∧k<S.length∧Up S j k r∧s.num=numF S s.pl∧0≤s.num∧(s.gv=[]∨s.gv=zbt S H s.num)∧s ∈ zaD S H (zat S S.length r):=by
 unfold zaw at hs
 split at hs
 ·cases hs
 ·rename_i hr
  obtain⟨r,h1,h2,h3,_⟩:=zby S H hr
  rw[h2,Int.toNat_natCast] at hs
  obtain⟨m1,m2,m3,m4⟩:=zeH _ s hs
  obtain⟨q,e,hq,_,j,_,hu⟩:=zbL h h1 (h.deep_all h1) _ m1
  exact⟨r,q,j,h1,h3,h2,e,hq,hu,m2,m3,m4,hs⟩
theorem zlZ{S:List Nd}(h:WF S):GivOk S (givT S S.length) where
 some:=fun p hp c hc=>by
  obtain⟨H,s,h1,h2,h3,h4⟩:=zeq hc
  obtain⟨r,k,j,r1,r2,_,r3,r4,r5,_,_,r6,_⟩:=zaX h h2
  have:k=p:=by omega
  subst this
  have e:=r6.resolve_left (fun e=>by rw[e] at h4;cases h4)
  rw[e] at h4
  exact⟨H,r,j,h1,r1,r2,r5,(zbQ.1 h4).1⟩
 one:=fun p p' c hp hp' hc hc' => by
  obtain⟨H,s,h1,h2,h3,h4⟩:=zeq hc
  obtain⟨H', s', h1', h2', h3', h4'⟩:=zeq hc'
  obtain⟨r,_,_,r1,r2,rr,_,_,_,_,_,r6,r7⟩:=zaX h h2
  obtain⟨r', _,_,r1', r2', rr', _,_,_,_,_,r6', r7'⟩:=zaX h h2'
  have e:=r6.resolve_left (fun e=>by rw[e] at h4;cases h4)
  have e' := r6'.resolve_left (fun e=>by rw[e] at h4'; cases h4')
  have k1:=h4
  have k2:=h4'
  rw[e] at k1
  rw[e'] at k2
  obtain⟨k,ek,_,_,p1,_⟩:=h.kid h1 (zbQ.1 k1).1
  obtain⟨k', ek', _,_,p2,_⟩:=h.kid h1' (zbQ.1 k2).1
  have:k=k' := by omega
  subst this
  have:H=H' := by omega
  subst this
  have:r=r' := by omega
  subst this
  have:=zhX r7 r7' h4 h4'
  subst this
  omega
 nodup:=fun p hp=>by
  rcases zeO (S:=S) (h:=S.length) (p:=p) with e |⟨H,s,h1,h2,e⟩
  ·rw[e];exact List.nodup_nil
  ·rw[e]
   obtain⟨_,_,_,_,_,_,_,_,_,_,_,r6,_⟩:=zaX h h2
   rcases r6 with e2|e2
   ·rw[e2];exact List.nodup_nil
   ·rw[e2]
    unfold zbt flt
    exact(h.kids_nodup h1).filter _
theorem zcs{S:List Nd}(h:WF S){H:Nat}:((zaw S H).map Slt.pl).Nodup:=by
 unfold zaw
 split
 ·exact List.nodup_nil
 ·rename_i hr
  obtain⟨r,h1,h2,_⟩:=zby S H hr
  rw[h2,Int.toNat_natCast,zih]
  exact(zdh h h1 (Nat.le_refl _) (h.deep_all h1)).filter _
theorem zmu{S:List Nd}{h:Nat}{L:List Slt}(hn:(L.map Slt.pl).Nodup){i:Nat}(hi:i<L.length)(p:Nat):givI S h (L.take (i+1)) p=if L[i].pl=(p:Int) then L[i].gv else givI S h (L.take i) p:=by
 unfold givI
 rw[List.take_succ_eq_append_getElem hi,List.find?_append]
 by_cases e:L[i].pl=(p:Int)
 ·rw[if_pos e]
  have hnone:(L.take i).find? (fun s=>decide (s.pl=(p:Int)))=none:=by
   rw[List.find?_eq_none]
   intro s hs hd
   have hd' := of_decide_eq_true hd
   obtain⟨j,hj,rfl⟩:=List.getElem_of_mem hs
   rw[List.length_take] at hj
   rw[List.getElem_take] at hd'
   have:=(List.nodup_iff_pairwise_ne.1 hn)
   rw[List.pairwise_iff_getElem] at this
   have:=this j i (by rw[List.length_map];omega) (by rw[List.length_map];omega) (by omega)
   rw[List.getElem_map,List.getElem_map] at this
   exact this (hd'.trans e.symm)
  rw[hnone]
  simp[e]
 ·rw[if_neg e]
  cases (L.take i).find? (fun s=>decide (s.pl=(p:Int))) <;> simp[e]
theorem zmT{S:List Nd}(h:WF S){h' p:Nat}(hh:h' ≤ S.length):(givT S h' p).length≤24∧∀ c ∈ givT S h' p,∃ k:Nat,c=k∧k<S.length:=by
 have hs:=h.small
 rcases zeO (S:=S) (h:=h') (p:=p) with e |⟨H,s,h1,h2,e⟩
 ·rw[e];exact⟨by simp,fun c hc=>by cases hc⟩
 ·rw[e]
  obtain⟨_,_,_,_,_,_,_,_,_,_,_,r6,_⟩:=zaX h h2
  rcases r6 with e2|e2
  ·rw[e2];exact⟨by simp,fun c hc=>by cases hc⟩
  ·rw[e2]
   have hm:∀ c ∈ zbt S H s.num,∃ k:Nat,c=k∧k<S.length:=fun c hc=>by
    obtain⟨k,e,hk,_⟩:=h.kid (by omega) (zbQ.1 hc).1
    exact⟨k,e,hk⟩
   refine⟨?_,hm⟩
   have hnd:(zbt S H s.num).Nodup:=by unfold zbt flt;exact(h.kids_nodup (by omega)).filter _
   have:=hnd.length_le_of_subset (l₂:=(List.range S.length).map (fun i:Nat=>(i:Int))) (fun x hx=>by
    obtain⟨k,rfl,hk⟩:=hm x hx
    exact List.mem_map.2 ⟨k,List.mem_range.2 hk,rfl⟩)
   simp at this
   omega
end Go.Proofs.YtojlkdekdbdpoaaGreat

namespace Go.Proofs.YtojlkdekdbdpoaaGreat
set_option maxRecDepth 100000
set_option maxHeartbeats 4000000
open Go.RowKit
def slt(L:List Slt)(i:Nat):Slt:=L.getD i ⟨0,0,[]⟩
def zdz(w:World)(a:Option Addr)(L:List Slt):Prop :=
 ∀ i,i<L.length→∃ b o,a=some ⟨b,o,none⟩∧w.cell? ⟨b,o+i*3,none⟩=some (.int .i64 (slt L i).pl)∧w.cell? ⟨b,o+i*3+1,none⟩=some (.int .i64 (slt L i).num)∧∃ ga gc,w.cell? ⟨b,o+i*3+2,none⟩=some (.slice ga (slt L i).gv.length gc)∧zah w ga (slt L i).gv
theorem zdz.below{w w' : World}{a:Option Addr}{L:List Slt}(h:zdz w a L)(hb:Below w.heap.size w w'):zdz w' a L:=fun i hi=>by
 obtain⟨b,o,e,h1,h2,ga,gc,h3,h4⟩:=h i hi
 have hlt:b<w.heap.size:=World.block_lt_of_cell? _ _ h1
 exact⟨b,o,e,(hb.cell (by exact hlt)).trans h1,(hb.cell (by exact hlt)).trans h2,ga,gc,(hb.cell (by exact hlt)).trans h3,h4.below hb⟩
theorem zbx{L:List Slt}{i:Nat}(h:i<L.length):slt L i=L[i]:=zad L _ h
def zmk(K:Nat)(caps:Array Value)(p:Slt→Bool)(w:World):Prop :=
 ∀ (x:Slt) (k:Value) (w1:World),Below w.heap.size w w1→Calls Tryz.prog K (#[.agg #[.int .i64 x.pl,.int .i64 x.num,k]] ++ caps) w1 fun e w2=>e=.returned (.bool (p x))∧Below w1.heap.size w1 w2
theorem zis(K:Nat)(caps:Array Value)(p:Slt→Bool)(a:Option Addr)(c:Nat)(L:List Slt)(w:World)(hbig:L.length≤9223372036854775807)(hL:zdz w a L)
  (eg:∀ args w,(callFunc K args).run Tryz.prog w=.ok (.enter K args) w) (hf:zmk K caps p w) :
  Calls Tryz.prog 146 #[.slice a L.length c,.func (.func K) #[] caps] w fun e w' => ∃ r:Int,e=.returned (.int .i64 r)∧Below w.heap.size w w' ∧
   ((r = -1∧∀ i,i<L.length→p (slt L i)=false)∨(∃ k:Nat,k<L.length∧r=k∧p (slt L k)=true∧∀ i,i<k→p (slt L i)=false)):=by
 have HS:Hid (zdz w a L):=hL
 have HF:Hid (zmk K caps p w):=hf
 clear hL hf
 generalize hn:L.length=n at *
 have HN:Hid _:=hn
 clear hn
 go_enter Tryz.func146,Tryz.ntmps146
 go_wp2
 go_loopg [8] n (fun g s8 wr=>∃ k:Nat,k≤n∧n-k≤g∧s8=.int .i64 k∧Below w.heap.size w wr∧Hid (∀ i,i<k→p (slt L i)=false))
 case atStart=>exact⟨0,by omega,by omega,rfl,Below.refl _ _,fun i hi=>by omega⟩
 case round =>
  obtain⟨k,hk,hg,rfl,hb,A⟩:=hrel
  by_cases hlt:k<n
  ·have hlt2:(k:Int)<(n:Int):=by omega
   obtain⟨b,o,rfl,c0,c1,ka,kc,c2,_⟩:=(HS.out.below hb) k (by rw[HN.out];exact hlt)
   have hcall:=fun v=>HF.out (slt L k) v wr hb
   cases hq:p (slt L k) with
   | true =>
    have HQ:Hid (p (slt L k)=true):=hq
    rw[hq] at hcall
    clear hq
    generalize hx:slt L k=x at hcall c0 c1 c2
    clear hx
    go_wp2_with (go_at_fn K;refine(hcall _).mono ?_;rintro e w' ⟨rfl,hb2⟩)
    go_ret
    exact⟨k,rfl,hb.trans (hb2.mono hb.size),Or.inr ⟨k,hlt,rfl,HQ.out,A.out⟩⟩
   | false =>
    have HQ:Hid (p (slt L k)=false):=hq
    rw[hq] at hcall
    clear hq
    generalize hx:slt L k=x at hcall c0 c1 c2
    clear hx
    go_wp2_with (go_at_fn K;refine(hcall _).mono ?_;rintro e w' ⟨rfl,hb2⟩)
    go_roundg (n-(k+1))
    case measure=>omega
    case rel =>
     refine⟨k+1,by omega,by omega,by go_num,hb.trans (hb2.mono hb.size),(show Hid _ from fun i hi=>?_)⟩
     by_cases e:i=k
     ·subst e
      exact HQ.out
     ·exact A.out i (by omega)
  ·have:k=n:=by omega
   subst this
   go_wp2
   go_ret
   exact⟨-1,rfl,hb,Or.inl ⟨rfl,A.out⟩⟩
theorem zfX(K:Nat)(caps:Array Value)(p:Slt→Bool)(a:Option Addr)(c:Nat)(L:List Slt)(w:World)(hbig:L.length≤9223372036854775807)(hL:zdz w a L)
  (eg:∀ args w,(callFunc K args).run Tryz.prog w=.ok (.enter K args) w) (hf:zmk K caps p w) :
  Calls Tryz.prog 141 #[.slice a L.length c,.func (.func K) #[] caps] w fun e w' => e=.returned (.bool (L.any p))∧Below w.heap.size w w' := by
 have h:=zis K caps p a c L w hbig hL eg hf
 have any_of:∀ k,k<L.length→p (slt L k)=true→L.any p=true:=fun k hk hp=>List.any_eq_true.2 ⟨slt L k,by rw[zbx hk];exact List.getElem_mem hk,hp⟩
 have none_of:(∀ i,i<L.length→p (slt L i)=false)→L.any p=false:=fun H=>by
  rw[List.any_eq_false]
  intro x hx
  obtain⟨i,hi,rfl⟩:=List.getElem_of_mem hx
  have:=H i hi
  rw[zbx hi] at this
  simp[this]
 have H:Hid _:=any_of
 have N:Hid _:=none_of
 clear any_of none_of hL hf
 go_enter Tryz.func141,Tryz.ntmps141
 go_wp2_with (go_at_call 146;refine h.mono ?_;rintro e w' ⟨r,rfl,hb,hr⟩)
 go_ret
 refine⟨?_,hb⟩
 rcases hr with ⟨rfl,hall⟩ |⟨k,hk,rfl,hp,_⟩
 ·rw[N.out hall];rfl
 ·rw[H.out k hk hp]
  simp
theorem zhR(x:Slt)(k:Value)(q:Nat)(y:Int)(w:World)(hq:w.cell? ⟨q,0,none⟩=some (.int .i64 y)) :
  Calls Tryz.prog 142 #[.agg #[.int .i64 x.pl,.int .i64 x.num,k],.pointer (some ⟨q,0,none⟩)] w fun e w' => e=.returned (.bool (decide (x.num=y)))∧Below w.heap.size w w' := by
 obtain⟨pl,num,gv⟩:=x
 dsimp only
 have hql:=World.block_lt_of_cell? _ _ hq
 by_cases e:num=y
 ·subst e
  rw[decide_eq_true rfl]
  go_enter Tryz.func142,Tryz.ntmps142
  go_wp2
  go_ret
  exact⟨rfl,(Below.refl _ _).alloc (Nat.le_refl _) _⟩
 ·rw[decide_eq_false e]
  have e2:(num == y)=false:=by simpa using e
  go_enter Tryz.func142,Tryz.ntmps142
  go_wp2
  go_ret
  exact⟨rfl,(Below.refl _ _).alloc (Nat.le_refl _) _⟩
theorem zli(a:Option Addr)(c:Nat)(L:List Slt)(q:Nat)(y:Int)(w:World)(hbig:L.length≤9223372036854775807)(hL:zdz w a L)(hq:w.cell? ⟨q,0,none⟩=some (.int .i64 y)) :
  Calls Tryz.prog 141 #[.slice a L.length c,.func (.func 142) #[] #[.pointer (some ⟨q,0,none⟩)]] w fun e w' => e=.returned (.bool (L.any fun s=>decide (s.num=y)))∧Below w.heap.size w w' :=
 zfX 142 _ (fun s=>decide (s.num=y)) a c L w hbig hL (enters_of Tryz.func142 (by kernel_rfl) rfl) (fun x k w1 h1=>zhR x k q y w1 ((h1.cell (by exact World.block_lt_of_cell? _ _ hq)).trans hq))
end Go.Proofs.YtojlkdekdbdpoaaGreat
