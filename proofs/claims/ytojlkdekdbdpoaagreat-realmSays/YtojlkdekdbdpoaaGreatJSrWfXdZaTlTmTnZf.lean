/-
  x
-/
import Derived.Test.YtojlkdekdbdpoaaGreatJXaSoWa
import Derived.Test.YtojlkdekdbdpoaaGreatJTbSpTcTd
import Derived.BigQuiet
import Derived.Test.YtojlkdekdbdpoaaGreatJWbTkSnWd
import Derived.BigRegion
namespace Go.Proofs.YtojlkdekdbdpoaaGreat
open Go.RowKit
structure zla (S:List Nd) (k:Nat) (l:List Int):Prop where
 pos:0<l.length
 small:l.length≤24
 head:l.getD 0 0=k
 each:∀ i,i<l.length→∃ q:Nat,l.getD i 0=q∧q<S.length∧(nd S q).u=true∧(q:Int) ∉ l.take i∧(0<i→(nd S q).p ∈ l.take i)
 closed:∀ q:Nat,q<S.length→0≤(nd S q).p→q≠k→decide ((nd S q).p ∈ l)=decide ((q:Int) ∈ l)
theorem zhD(S:List Nd)(p u:Int):zdn S [(p,u)]=zbV S p u:=by
 simp only[zdn]
 by_cases h:zbV S p u=0
 ·rw[if_pos h,h]
 ·rw[if_neg h]
theorem holds_zero{S:List Nd}{p u:Int}(h:zbV S p u=0):∃ k:Nat,p=k∧k<S.length∧(nd S k).u=true∧(nd S k).n=u:=by
 unfold zbV at h
 by_cases hp:isPl S.length p=true
 ·rw[if_pos hp] at h
  have hp' : 0≤p∧p≤(S.length:Int)-1:=of_decide_eq_true hp
  obtain⟨k,rfl⟩:∃ k:Nat,p=(k:Int):=⟨p.toNat,by omega⟩
  rw[Int.toNat_natCast] at h
  refine⟨k,rfl,by omega,?_⟩
  unfold holdX at h
  split at h
  ·split at h
   ·split at h
    ·exact⟨by assumption,by assumption⟩
    ·omega
   ·omega
  ·omega
 ·rw[if_neg hp] at h
  omega
theorem zgo{S:List Nd}(h:WF S){k:Nat}(hk:k<S.length)(hu:(nd S k).u=true):zla S k (zal S k):=by
 have hD:=h.deep_all hk
 have hn:=zdh h hk (Nat.le_refl _) hD
 have hl:=zcA h hk
 obtain⟨r,hr,hP⟩:=zou h hk hD
 have hmem:∀ x ∈ zal S k,∃ q:Nat,x=q∧q<S.length∧(nd S q).u=true:=fun x hx=>by
  obtain⟨q,e,hq,hu', _⟩:=zbL h hk hD x hx
  refine⟨q,e,hq,?_⟩
  rcases hu' with rfl|hu'
  ·exact hu
  ·exact hu'
 have hpar:∀ i,i<(zal S k).length→0<i→(nd S ((zal S k).getD i 0).toNat).p ∈ (zal S k).take i:=fun i hi h0=>by
  unfold zal at hi ⊢
  rw[hr] at hi ⊢
  obtain⟨i,rfl⟩:∃ j,i=j+1:=⟨i-1,by omega⟩
  have:=hP.get (i:=i) (by simpa using hi)
  simpa using this
 refine⟨by unfold zal;rw[hr];simp,by unfold zal;have:=h.small;omega,by unfold zal;rw[hr];simp,fun i hi=>?_,fun q hq hp hne=>?_⟩
 ·obtain⟨q,e,hq,hu'⟩:=hmem ((zal S k).getD i 0) (by rw[zad _ 0 hi];exact List.getElem_mem hi)
  refine⟨q,e,hq,hu', fun hm=>?_,fun h0=>?_⟩
  ·obtain⟨j,hj,ej⟩:=List.getElem_of_mem hm
   rw[List.length_take] at hj
   rw[List.getElem_take] at ej
   rw[zad _ 0 hi] at e
   have hjl:j<(zal S k).length:=by omega
   have:=(List.getElem?_inj (i:=j) (j:=i) hjl hn).1 (by show (zal S k)[j]?=(zal S k)[i]?;rw[List.getElem?_eq_getElem (by omega),List.getElem?_eq_getElem hi];exact congrArg some (ej.trans e.symm))
   omega
  ·have:=hpar i hi h0
   rwa [e,Int.toNat_natCast] at this
 ·obtain⟨y,hy⟩:∃ y:Nat,(nd S q).p=(y:Int):=⟨(nd S q).p.toNat,by omega⟩
  rw[hy]
  by_cases hm:(y:Int) ∈ zal S k
  ·have:=zoL h hk hD (y:Int) hm (q:Int) (by rw[Int.toNat_natCast];exact(h.in_kids hq hy).2)
   rw[decide_eq_true hm,decide_eq_true (show (q:Int) ∈ zal S k from this)]
  ·have:(q:Int) ∉ zal S k:=fun hq' => by
    obtain⟨i,hi,ei⟩:=List.getElem_of_mem hq'
    have h0:0<i:=by
     rcases Nat.eq_zero_or_pos i with rfl|h0
     ·exfalso
      have:(zal S k).getD 0 0=(k:Int):=by unfold zal;rw[hr];simp
      rw[zad _ 0 hi,ei] at this
      omega
     ·exact h0
    have:=hpar i hi h0
    rw[zad _ 0 hi,ei,Int.toNat_natCast,hy] at this
    exact hm (List.mem_of_mem_take this)
   rw[decide_eq_false hm,decide_eq_false this]
end Go.Proofs.YtojlkdekdbdpoaaGreat

namespace Go.Proofs.YtojlkdekdbdpoaaGreat
open Go.RowKit
theorem WF.ringless{S:List Nd}(h:WF S){x j:Nat}(hx:x<S.length)(h1:1≤j):¬ Up S j x x:=fun hu =>
 h.no_ring hx h1 (by have:=h.up_short hx hu;omega) hu
theorem WF.leaveG{S:List Nd}(h:WF S){ch:Nat}(hch:ch<S.length):WF (leaveG S ch):=by
 unfold Go.Proofs.YtojlkdekdbdpoaaGreat.leaveG
 split
 ·exact h
 ·rename_i hp
  obtain⟨pa,e,_⟩:=h.parent_place hch hp
  rw[e,Int.toNat_natCast]
  exact h.leave hch e
theorem zdL(S:List Nd)(ch j:Nat):(nd (leaveG S ch) j).u=(nd S j).u∧(nd (leaveG S ch) j).n=(nd S j).n∧(nd (leaveG S ch) j).h=(nd S j).h∧(nd (leaveG S ch) j).t=(nd S j).t∧(nd (leaveG S ch) j).m=(nd S j).m∧(nd (leaveG S ch) j).c=(nd S j).c:=by
 unfold leaveG
 split
 ·exact⟨rfl,rfl,rfl,rfl,rfl,rfl⟩
 ·exact zee S _ ch j
theorem zdU(S:List Nd){ch j:Nat}(hj:j<S.length):(nd (leaveG S ch) j).p=if j=ch then -1 else (nd S j).p:=by
 unfold leaveG
 split
 ·rename_i h
  split
  ·rename_i e;rw[e];exact h
  ·rfl
 ·exact zeS S hj
theorem zmW{S:List Nd}(h:WF S){ch j:Nat}(hch:ch<S.length)(hj:j<S.length)(hne:(nd S ch).p≠j):(nd (leaveG S ch) j).ks=(nd S j).ks:=by
 unfold leaveG
 split
 ·rfl
 ·rename_i hp
  obtain⟨pa,e,_,hpc,_⟩:=h.parent_place hch hp
  rw[e,Int.toNat_natCast,zfl S hpc hj,if_neg (by omega)]
theorem zhN{S:List Nd}{pa ch:Nat}(hpa:pa<S.length)(hu:zbd S pa ch=false):zbd (leaveG S ch) pa ch=false:=by
 cases hb:zbd (leaveG S ch) pa ch with
 | false=>rfl
 | true =>
  have hl:=zaC S ch
  obtain⟨j,j1,j2,j3⟩:=zdf (by rw[hl];exact hpa) hb
  rw[hl] at j2
  have:Up S j pa ch:=zgG hl (fun y hy z hz=>by
   unfold zae at *
   rw[(zdL S ch y).2.2.1,zdU S hy] at hz
   by_cases e1:y=ch
   ·subst e1
    rw[if_pos rfl] at hz
    by_cases hh:(nd S y).h = -1
    ·rw[if_pos hh] at hz
     omega
    ·rw[if_neg hh] at hz ⊢
     exact hz
   ·rw[if_neg e1] at hz
    exact hz) hpa j3
  rw[zgY hpa j1 j2 this] at hu
  cases hu
theorem zcS{S:List Nd}{ch pa:Nat}(h:fitsB S ch pa=true):(nd S ch).h = -1∧pa≠ch∧zbd S pa ch=false:=by
 unfold fitsB at h
 simp only[Bool.and_eq_true,Bool.not_eq_true', decide_eq_true_eq,decide_eq_false_iff_not] at h
 exact⟨h.1,fun e=>h.2.1 (by rw[e]),h.2.2⟩
structure Puts (S:List Nd) (pa ch:Nat):Prop where
 wf:WF S
 hpa:pa<S.length
 hch:ch<S.length
 hpu:(nd S pa).u=true
 hcu:(nd S ch).u=true
 fits:fitsB S ch pa=true
theorem Puts.insert{S:List Nd}{pa ch:Nat}(h:Puts S pa ch)(at' : Nat):WF (zaJ (leaveG S ch) pa ch at'):=by
 obtain⟨f1,f2,f3⟩:=zcS h.fits
 have hl:=zaC S ch
 refine(h.wf.leaveG h.hch).enter (by rw[hl];exact h.hpa) (by rw[hl];exact h.hch) ?_ ?_ ?_ ?_ f2 (zhN h.hpa f3)
 ·rw[(zdL S ch pa).1];exact h.hpu
 ·rw[(zdL S ch ch).1];exact h.hcu
 ·rw[zdU S h.hch,if_pos rfl]
 ·rw[(zdL S ch ch).2.2.1];exact f1
theorem zfb{S A:List Nd}:∀ {f p:Nat},(∀ y ∈ zat S f p,(nd A y.toNat).ks=(nd S y.toNat).ks)→zat A f p=zat S f p
 | 0,_,_=>rfl
 | f+1,p,h=>by
  have hp:(nd A p).ks=(nd S p).ks:=by
   have:=h (p:Int) (by simp[zat])
   simpa using this
  simp only[zat,hp]
  congr 1
  have:∀ l:List Int,(∀ k ∈ l,k ∈ (nd S p).ks)→l.flatMap (fun k=>zat A f k.toNat)=l.flatMap (fun k=>zat S f k.toNat):=by
   intro l
   induction l with
   | nil=>intro _;rfl
   | cons k l ih =>
    intro hk
    rw[List.flatMap_cons,List.flatMap_cons,ih (fun x hx=>hk x (by simp[hx])),zfb (fun y hy=>h y (by
     simp only[zat,List.mem_cons,List.mem_flatMap]
     exact Or.inr ⟨k,hk k (by simp),hy⟩))]
  exact this _ (fun _ hk=>hk)
theorem Puts.order{S:List Nd}{pa ch:Nat}(h:Puts S pa ch)(at' : Nat):zal (zaJ (leaveG S ch) pa ch at') ch=zal S ch:=by
 obtain⟨f1,f2,f3⟩:=zcS h.fits
 have hl:=zaC S ch
 unfold zal
 rw[zaB,hl]
 refine zfb (fun y hy=>?_)
 obtain⟨q,rfl,hq,_,j,_,hup⟩:=zbL h.wf h.hch (h.wf.deep_all h.hch) y hy
 rw[Int.toNat_natCast,zcZ _ f2 (by rw[hl];exact hq),if_neg,zmW h.wf h.hch hq]
 ·intro e
  obtain⟨p0,e0,hp0,_,hin,_⟩:=h.wf.parent_place h.hch (by omega)
  have:p0=q:=by omega
  subst this
  obtain⟨k,ek,_,_,_,hr⟩:=h.wf.kid hp0 hin
  have:k=ch:=by omega
  subst this
  exact h.wf.ringless h.hch (j:=1+j) (by omega) ((WF.up_one hp0 hr).trans hup)
 ·rintro rfl
  cases j with
  | zero=>exact f2 hup
  | succ j =>
   rw[zgY hq (by omega) (by have:=h.wf.up_short hq hup;omega) hup] at f3
   cases f3
theorem zpR{ks:List Int}{v:Int}(h:v ∈ ks):∃ k:Nat,idx ks v=k∧k<ks.length∧ks.getD k 0=v:=by
 refine⟨ks.idxOf v,by unfold idx;rw[if_pos h],List.idxOf_lt_length_of_mem h,?_⟩
 rw[zad ks 0 (List.idxOf_lt_length_of_mem h)]
 exact List.getElem_idxOf (List.idxOf_lt_length_of_mem h)
theorem Puts.kids{S:List Nd}{pa ch:Nat}(h:Puts S pa ch)(at' : Nat):(nd (zaJ (leaveG S ch) pa ch at') pa).ks=ins (nd (leaveG S ch) pa).ks at' ch∧(ch:Int) ∉ (nd (leaveG S ch) pa).ks:=by
 obtain⟨f1,f2,f3⟩:=zcS h.fits
 have hl:=zaC S ch
 refine⟨by rw[zcZ _ f2 (by rw[hl];exact h.hpa),if_pos rfl],(h.wf.leaveG h.hch).not_kid (by rw[zdU S h.hch,if_pos rfl]) (by rw[hl];exact h.hpa)⟩
theorem Puts.ahead{S:List Nd}{pa ch q:Nat}(h:Puts S pa ch)(hq:q<S.length)(hqp:(nd S q).p=pa)(hqc:q≠ch):∃ at' : Nat,idx (nd (leaveG S ch) pa).ks q=at' ∧ at' < (nd (leaveG S ch) pa).ks.length∧(nd (leaveG S ch) pa).ks.getD at' 0=q:=by
 have hl:=zaC S ch
 have:=(h.wf.leaveG h.hch).in_kids (k:=q) (y:=pa) (by rw[hl];exact hq) (by rw[zdU S hq,if_neg hqc];exact hqp)
 exact zpR this.2
theorem WF.kids_small{S:List Nd}(h:WF S){i:Nat}(hi:i<S.length):(nd S i).ks.length≤24:=by
 have h1:=h.kids_nodup hi
 have:=h1.length_le_of_subset (l₂:=(List.range S.length).map (fun k:Nat=>(k:Int))) (fun x hx=>by
  obtain⟨k,rfl,hk,_⟩:=h.kid hi hx
  exact List.mem_map.2 ⟨k,List.mem_range.2 hk,rfl⟩)
 rw[List.length_map,List.length_range] at this
 exact Nat.le_trans this h.small
theorem WF.big{S:List Nd}(h:WF S):Big S:=fun _ hi=>Nat.le_trans (h.kids_small hi) (by omega)
theorem zgd{S:List Nd}{k:Nat}{u:Int}(hk:k<S.length)(hu:(nd S k).u=true)(hn:(nd S k).n=u)(h:WF S):zbV S k u=0:=by
 have h1:=(zaV (h.node k hk)).1
 have h2:=(zaV (h.node k hk)).2.2
 unfold formB at h2
 rw[if_pos hu] at h2
 unfold zbF at h1
 simp only[Bool.and_eq_true,decide_eq_true_eq] at h1
 have h3:(nd S k).n≠0:=fun e=>by rw[if_pos e] at h2;cases h2
 unfold zbV
 rw[if_pos (show isPl S.length (k:Int)=true from decide_eq_true ⟨by omega,by omega⟩),Int.toNat_natCast]
 unfold holdX
 rw[if_pos (decide_eq_true ⟨by omega,by omega⟩),if_pos hu,if_pos hn]
theorem zil{S:List Nd}{k:Nat}{u:Int}(hk:k<S.length)(hu:(nd S k).u=true)(hn:(nd S k).n=u)(h:WF S):zao S [((k:Int),u)]=0:=by
 unfold zao
 rw[if_pos ((zcK S).2 h),zhD]
 exact zgd hk hu hn h
end Go.Proofs.YtojlkdekdbdpoaaGreat

namespace Go.Proofs.YtojlkdekdbdpoaaGreat
open Go.RowKit
def zbY(x:Nd):Nd:=⟨false,x.n,0,0,-1,[],-1,false⟩
def zdk(S:List Nd)(k:Nat):Prop:=zae (nd S k) = -1∧(nd S k).ks=[]∧hostB S k=false
theorem WF.like{S A:List Nd}(h:WF S)(hl:A.length=S.length)(hn:∀ i,i<S.length→nodeE S.length (nd A i)=0)
  (hs:∀ i,i<S.length→(nd A i).p=(nd S i).p∧(nd A i).ks=(nd S i).ks∧(nd A i).h=(nd S i).h)
  (hu:∀ i,i<S.length→(nd S i).u=true→(nd A i).u=true∨∀ j,j<S.length→(i:Int) ∉ (nd S j).ks∧(nd S j).h≠i):WF A:=by
 refine⟨by rw[hl];exact h.small,fun i hi=>by rw[hl] at hi ⊢;exact hn i hi,zdt (fun i hi=>?_) (fun i hi x hx=>?_) (fun j hj hjp=>?_),fun i hi=>?_,fun i hi=>?_⟩
 ·rw[hl] at hi
  rw[(hs i hi).2.1]
  exact h.kids_nodup hi
 ·rw[hl] at hi ⊢
  rw[(hs i hi).2.1] at hx
  obtain⟨k,rfl,k1,k2,k3,_⟩:=h.kid hi hx
  refine⟨k,rfl,k1,?_,by rw[(hs k k1).1];exact k3⟩
  rcases hu k k1 k2 with g|g
  ·exact g
  ·exact absurd hx (g i hi).1
 ·rw[hl] at hj ⊢
  rw[(hs j hj).1] at hjp
  obtain⟨i,i1,i2,_,i3,_⟩:=h.parent_place hj hjp
  exact⟨i,i2,by rw[(hs i i2).2.1];exact i3⟩
 ·rw[hl] at hi
  intro hh
  rw[(hs i hi).2.2] at hh ⊢
  obtain⟨g1,g2⟩:=h.hosts i hi hh
  have hb:=(zdO (zdZ (h.node i hi))).2.1
  obtain⟨q,hq⟩:∃ q:Nat,(nd S i).h=(q:Int):=⟨(nd S i).h.toNat,by omega⟩
  refine⟨?_,fun i' hi' => by rw[(hs i' (by omega)).2.2];exact g2 i' hi'⟩
  rw[hq,Int.toNat_natCast] at g1 ⊢
  rcases hu q (by omega) g1 with g|g
  ·exact g
  ·exact absurd hq (g i hi).2
 ·rw[hl] at hi
  cases hb:zbd A i i with
  | false=>rfl
  | true =>
   obtain⟨j,j1,j2,j3⟩:=zdf (by rw[hl];exact hi) hb
   rw[hl] at j2
   exact absurd (zgG hl (fun y hy z e=>by unfold zae at e ⊢;rw[(hs y hy).1,(hs y hy).2.2] at e;exact e) hi j3) (h.no_ring hi j1 j2)
theorem WF.unused{S:List Nd}(h:WF S){k:Nat}(hk:k<S.length)(hu:(nd S k).u=false):(nd S k).t=0∧(nd S k).m=0∧(nd S k).p = -1∧(nd S k).ks=[]∧(nd S k).h = -1∧(nd S k).c=false:=by
 have hf:=(zaV (h.node k hk)).2.2
 unfold formB at hf
 rw[hu] at hf
 exact of_decide_eq_true hf
theorem WF.uses{S:List Nd}(h:WF S){k:Nat}(hk:k<S.length):0≤(nd S k).n∧(nd S k).n≤1000000∧((nd S k).u=true→1≤(nd S k).n):=by
 obtain⟨h1,_,h3⟩:=zaV (h.node k hk)
 unfold zbF at h1
 simp only[Bool.and_eq_true,decide_eq_true_eq] at h1
 refine⟨h1.1.1,h1.1.2,fun hu=>?_⟩
 unfold formB at h3
 rw[if_pos hu] at h3
 by_cases e:(nd S k).n=0
 ·rw[if_pos e] at h3
  cases h3
 ·have:=h1.1.1
  omega
theorem zdQ{x:Nd}(h:freeB x=true):x.u=false∧x.n<1000000:=by
 unfold freeB at h
 simpa using h
theorem WF.make{S:List Nd}(h:WF S){k:Nat}{t:Int}(hk:k<S.length)(hf:freeB (nd S k)=true)(ht0:0≤t)(ht1:t≤99):WF (S.set k (zbg (nd S k) t)):=by
 obtain⟨hu,hn⟩:=zdQ hf
 obtain⟨q1,q2,q3,q4,q5,q6⟩:=h.unused hk hu
 obtain⟨n0,n1,_⟩:=h.uses hk
 refine h.like (by simp) (fun i hi=>?_) (fun i hi=>?_) (fun i hi hiu=>?_)
 ·rw[zav S k i _ hk]
  split
  ·rename_i e
   subst e
   obtain⟨r1,r2,r3⟩:=zaV (h.node i hi)
   obtain⟨m1,m2,m3⟩:=zbO r2
   refine zdA ?_ (zcE m1 m2 m3) ?_
   ·unfold zbF zbg
    simp only[Bool.and_eq_true,decide_eq_true_eq]
    exact⟨⟨by omega,by omega⟩,⟨ht0,ht1⟩,by rw[q2];omega,by rw[q2];omega⟩
   ·unfold formB zbg
    simp only[if_true]
    rw[if_neg (by omega),if_pos q5,q6]
    rfl
  ·exact h.node i hi
 ·rw[zav S k i _ hk]
  split
  ·rename_i e
   subst e
   exact⟨rfl,rfl,rfl⟩
  ·exact⟨rfl,rfl,rfl⟩
 ·rw[zav S k i _ hk]
  split
  ·exact Or.inl rfl
  ·exact Or.inl hiu
theorem ziU{S:List Nd}{k:Nat}(h:zdk S k):(nd S k).p = -1∧(nd S k).h = -1∧(nd S k).ks=[]∧∀ j,j<S.length→(nd S j).h≠k:=by
 obtain⟨h1,h2,h3⟩:=h
 unfold zae at h1
 by_cases e:(nd S k).h = -1
 ·rw[if_pos e] at h1
  exact⟨h1,e,h2,zbP.1 h3⟩
 ·rw[if_neg e] at h1
  exact absurd h1 e
theorem WF.free{S:List Nd}(h:WF S){k:Nat}(hk:k<S.length)(hL:zdk S k):WF (S.set k (zbY (nd S k))):=by
 obtain⟨hp,hh,hks,hH⟩:=ziU hL
 obtain⟨n0,n1,_⟩:=h.uses hk
 refine h.like (by simp) (fun i hi=>?_) (fun i hi=>?_) (fun i hi hiu=>?_)
 ·rw[zav S k i _ hk]
  split
  ·rename_i e
   subst e
   refine zdA ?_ (zcE ?_ ?_ (fun y hy=>absurd hy (by simp[zbY]))) ?_
   ·unfold zbF zbY
    simp only[Bool.and_eq_true,decide_eq_true_eq]
    exact⟨⟨n0,n1⟩,by omega,by omega⟩
   ·unfold zbY okPl
    exact decide_eq_true ⟨by dsimp only;omega,by dsimp only;omega⟩
   ·unfold zbY okPl
    exact decide_eq_true ⟨by dsimp only;omega,by dsimp only;omega⟩
   ·unfold formB zbY
    simp
  ·exact h.node i hi
 ·rw[zav S k i _ hk]
  split
  ·rename_i e
   subst e
   exact⟨hp.symm,hks.symm,hh.symm⟩
  ·exact⟨rfl,rfl,rfl⟩
 ·by_cases e:i=k
  ·subst e
   exact Or.inr (fun j hj=>⟨h.not_kid hp hj,hH j hj⟩)
  ·rw[zav S k i _ hk,if_neg e]
   exact Or.inl hiu
theorem zpS(n:Nat)(hn:n≤24):WF (List.replicate n zaM):=by
 have hnd:∀ i,i<n→nd (List.replicate n zaM) i=zaM:=fun i hi=>zff n i _ hi
 have hl:(List.replicate n zaM).length=n:=by simp
 refine⟨by rw[hl];exact hn,fun i hi=>?_,zdt (fun i hi=>?_) (fun i hi x hx=>?_) (fun j hj hjp=>?_),fun i hi=>?_,fun i hi=>?_⟩
 ·rw[hl] at hi ⊢
  rw[hnd i hi]
  refine zdA (by decide) (zcE ?_ ?_ (fun y hy=>absurd hy (by simp[zaM]))) (by decide)
  ·unfold zaM okPl
   exact decide_eq_true ⟨by dsimp only;omega,by dsimp only;omega⟩
  ·unfold zaM okPl
   exact decide_eq_true ⟨by dsimp only;omega,by dsimp only;omega⟩
 ·rw[hl] at hi
  rw[hnd i hi]
  exact List.nodup_nil
 ·rw[hl] at hi
  rw[hnd i hi] at hx
  cases hx
 ·rw[hl] at hj
  rw[hnd j hj] at hjp
  exact absurd rfl hjp
 ·rw[hl] at hi
  intro hh
  rw[hnd i hi] at hh
  exact absurd rfl hh
 ·cases hb:zbd (List.replicate n zaM) i i with
  | false=>rfl
  | true =>
   obtain⟨j,j1,j2,j3⟩:=zdf hi hb
   obtain⟨j', rfl⟩:∃ j', j=j' + 1:=⟨j-1,by omega⟩
   obtain⟨z,_,hz,_⟩:=j3
   rw[hl] at hi
   rw[hnd i hi] at hz
   have:(-1:Int)=(z:Int):=hz
   omega
end Go.Proofs.YtojlkdekdbdpoaaGreat

namespace Go.Proofs.YtojlkdekdbdpoaaGreat
open Go.RowKit
def lineF(S:List Nd):Nat→Int→List Int
 | 0,_=>[]
 | f+1,x=>if isPl S.length x then x :: lineF S f (zae (nd S x.toNat)) else []
def pathF(S:List Nd)(k:Nat):List Int:=(k:Int) :: lineF S S.length (zae (nd S k))
theorem zjT(S:List Nd):∀ (f:Nat) (x:Int),(lineF S f x).length≤f
 | 0,_=>by simp[lineF]
 | f+1,x=>by
  simp only[lineF]
  split
  ·have:=zjT S f (zae (nd S x.toNat))
   simp;omega
  ·simp
theorem zfm(S:List Nd)(k:Nat):(pathF S k).length≤S.length+1:=by
 have:=zjT S S.length (zae (nd S k))
 unfold pathF
 simp;omega
theorem zcF{N k:Nat}:isPl N (k:Int)=true↔k<N:=by
 unfold isPl
 rw[decide_eq_true_eq]
 omega
theorem zjz{S:List Nd}:∀ {f:Nat} {x y:Int},y ∈ lineF S f x→∃ q j x' : Nat,y=q∧q<S.length∧x=x' ∧ x' < S.length∧j<f∧Up S j x' q
 | 0,_,_,h=>by simp[lineF] at h
 | f+1,x,y,h=>by
  simp only[lineF] at h
  split at h
  ·rename_i hx
   have hx2:0≤x∧x≤(S.length:Int)-1:=of_decide_eq_true hx
   obtain⟨x', rfl⟩:∃ x' : Nat,x=x' :=⟨x.toNat,by omega⟩
   rcases List.mem_cons.1 h with rfl|h
   ·exact⟨x', 0,x', rfl,by omega,rfl,by omega,by omega,rfl⟩
   ·rw[Int.toNat_natCast] at h
    obtain⟨q,j,z,e1,e2,e3,e4,e5,e6⟩:=zjz h
    exact⟨q,j+1,x', e1,e2,rfl,by omega,by omega,⟨z,e4,e3,e6⟩⟩
  ·cases h
theorem znF{S:List Nd}{k:Nat}(hk:k<S.length){y:Int}(h:y ∈ pathF S k):∃ q j:Nat,y=q∧q<S.length∧Up S j k q:=by
 unfold pathF at h
 rcases List.mem_cons.1 h with rfl|h
 ·exact⟨k,0,rfl,hk,rfl⟩
 ·obtain⟨q,j,x', e1,e2,e3,e4,_,e6⟩:=zjz h
  exact⟨q,j+1,e1,e2,⟨x', e4,e3,e6⟩⟩
theorem zhC{S:List Nd}:∀ {f:Nat} {x:Int},(∀ (x' j z:Nat),x=x' → x' < S.length→Up S j x' z→j<f)→lineF S (f+1) x=lineF S f x
 | 0,x,h=>by
  simp only[lineF]
  split
  ·rename_i hx
   have hx2:0≤x∧x≤(S.length:Int)-1:=of_decide_eq_true hx
   obtain⟨x', rfl⟩:∃ x' : Nat,x=x' :=⟨x.toNat,by omega⟩
   exact absurd (h x' 0 x' rfl (by omega) rfl) (by omega)
  ·rfl
 | f+1,x,h=>by
  rw[lineF]
  conv=>rhs;rw[lineF]
  split
  ·rename_i hx
   have hx2:0≤x∧x≤(S.length:Int)-1:=of_decide_eq_true hx
   obtain⟨x', rfl⟩:∃ x' : Nat,x=x' :=⟨x.toNat,by omega⟩
   rw[Int.toNat_natCast]
   rw[zhC (fun y' j z e hy hu=>?_)]
   have:=h x' (j+1) z rfl (by omega) ⟨y', hy,e,hu⟩
   omega
  ·rfl
theorem WF.path_up{S:List Nd}(h:WF S){k q:Nat}(hk:k<S.length)(hq:q<S.length)(hr:zae (nd S k)=q):pathF S k=(k:Int) :: pathF S q:=by
 unfold pathF
 rw[hr]
 congr 1
 obtain⟨N,hN⟩:∃ N,S.length=N+1:=⟨S.length-1,by omega⟩
 have e1:lineF S S.length (q:Int)=(q:Int) :: lineF S N (zae (nd S q)):=by
  rw[hN,lineF,hN,if_pos (zcF.2 (by omega)),Int.toNat_natCast]
 rw[e1,hN]
 congr 1
 rw[zhC]
 intro x' j z e hx hu
 have:=h.up_short hk (j:=j+2) (z:=z) ⟨q,hq,hr,⟨x', hx,e,hu⟩⟩
 omega
end Go.Proofs.YtojlkdekdbdpoaaGreat

namespace Go.Proofs.YtojlkdekdbdpoaaGreat
open Go.RowKit
theorem zhE{W:World}{B:Nat}{v:Value}{p pu x xu q qu:Int}(h:W.ownsRow B 60 2 v 3 ([.int .i64 p,.int .i64 pu,.int .i64 x,.int .i64 xu] ++ [.int .i64 q,.int .i64 qu])):∃ ha hc,v=.slice ha 3 hc∧zak W ha [(p,pu),(x,xu),(q,qu)]:=by
 obtain⟨_,h⟩:=h
 rcases h with ⟨_,h⟩ |⟨g,cap,cur,rfl,_,hg,h1,h2,h3,h4⟩
 ·omega
 ·refine⟨_,_,rfl,fun i hi=>?_⟩
  have hc:∀ j u,([.int .i64 p,.int .i64 pu,.int .i64 x,.int .i64 xu,.int .i64 q,.int .i64 qu]:List Value)[j]?=some u→j<6→W.cell? ⟨g,j,none⟩=some u:=fun j u hj hl=>by
   have h5:(cur.toList.take (3*2))[j]?=some u:=by rw[h4];simpa using hj
   rw[List.getElem?_take,if_pos (by omega)] at h5
   simp only[World.cell?,hg]
   simpa using h5
  match i,hi with
  | 0,_=>exact⟨g,0,rfl,hc 0 _ rfl (by omega),hc 1 _ rfl (by omega)⟩
  | 1,_=>exact⟨g,0,rfl,hc 2 _ rfl (by omega),hc 3 _ rfl (by omega)⟩
  | 2,_=>exact⟨g,0,rfl,hc 4 _ rfl (by omega),hc 5 _ rfl (by omega)⟩
end Go.Proofs.YtojlkdekdbdpoaaGreat

namespace Go.Proofs.YtojlkdekdbdpoaaGreat
open Go.RowKit
def SK:Nat→List Nd
 | 0=>List.replicate 6 zaM
 | k+1=>(SK k).set k (zbg (nd (SK k) k) k)
def S4:List Nd:=zaJ (SK 3) 0 1 0
def S5:List Nd:=zaJ S4 0 2 0
end Go.Proofs.YtojlkdekdbdpoaaGreat

namespace Go.Proofs.YtojlkdekdbdpoaaGreat
open Go.RowKit
def FamI(W2:World)(b3 bh:Nat)(k:Nat)(wr:World):Prop :=
 Off (fun b=>b=b3∨b=bh) W2 wr∧(∃ g,wr.cell? ⟨b3,0,none⟩=some (.slice (some ⟨g,0,none⟩) 6 6)∧NdsAt wr (some ⟨g,0,none⟩) (SK k)) ∧
 (∀ i,i<3→wr.cell? ⟨bh,i*2,none⟩=some (.int .i64 (if i<k then (i:Int) else 0))∧wr.cell? ⟨bh,i*2+1,none⟩=some (.int .i64 (if i<k then 1 else 0))) ∧
 (∀ o,wr.frozen? ⟨b3,o,none⟩=false)∧(∀ o,wr.frozen? ⟨bh,o,none⟩=false)
theorem zcW{b b' o o' : Nat}(h:b≠b'):(⟨b,o,none⟩:Addr)≠⟨b', o', none⟩:=fun e=>h (congrArg Addr.block e)
theorem zfn{b b' o o' : Nat}(h:o≠o'):(⟨b,o,none⟩:Addr)≠⟨b', o', none⟩:=fun e=>h (congrArg Addr.off e)
theorem FamI.step{W2 wr w4:World}{b3 bh k g' : Nat}(h:FamI W2 b3 bh k wr)(hne:b3≠bh)(hk:k<3)(h3:b3<wr.heap.size)(hbh:bh<wr.heap.size)(hb:Below wr.heap.size wr w4)(hg:wr.heap.size≤g')(hS:∀ w3:World,(∀ b,g' ≤ b→w3.heap[b]?=w4.heap[b]?)→NdsAt w3 (some ⟨g', 0,none⟩) (SK (k+1))) :
  FamI W2 b3 bh (k+1) (((w4.setCell ⟨b3,0,none⟩ (.slice (some ⟨g', 0,none⟩) 6 6)).setCell ⟨bh,k*2,none⟩ (.int .i64 k)).setCell ⟨bh,k*2+1,none⟩ (.int .i64 1)):=by
 obtain⟨hoff,⟨g,c3,_⟩,hh,f3,fh⟩:=h
 have c34:=(hb.cell (p:=⟨b3,0,none⟩) h3).trans c3
 refine⟨?_,⟨g', ?_,?_⟩,fun i hi=>?_,fun o=>?_,fun o=>?_⟩
 ·exact(((hoff.trans (Off.of_below hb)).trans (zaE _ (Or.inl rfl) _)).trans (zaE _ (Or.inr rfl) _)).trans (zaE _ (Or.inr rfl) _)
 ·rw[World.cell?_setCell_other _ _ _ _ (zcW (Ne.symm hne)),World.cell?_setCell_other _ _ _ _ (zcW (Ne.symm hne))]
  exact World.cell?_setCell_same _ _ _ c34
 ·refine hS _ (fun b hbg=>?_)
  rw[Below.heap_setCell _ _ _ _ (by show b≠bh;omega),Below.heap_setCell _ _ _ _ (by show b≠bh;omega),Below.heap_setCell _ _ _ _ (by show b≠b3;omega)]
 ·obtain⟨x0,x1⟩:=hh i hi
  have y0:=(hb.cell (p:=⟨bh,i*2,none⟩) hbh).trans x0
  have y1:=(hb.cell (p:=⟨bh,i*2+1,none⟩) hbh).trans x1
  have z0:(w4.setCell ⟨b3,0,none⟩ (.slice (some ⟨g', 0,none⟩) 6 6)).cell? ⟨bh,i*2,none⟩=_:=(World.cell?_setCell_other _ _ _ _ (zcW hne)).trans y0
  have z1:(w4.setCell ⟨b3,0,none⟩ (.slice (some ⟨g', 0,none⟩) 6 6)).cell? ⟨bh,i*2+1,none⟩=_:=(World.cell?_setCell_other _ _ _ _ (zcW hne)).trans y1
  by_cases e:i=k
  ·subst e
   rw[if_pos (by omega),if_pos (by omega)]
   constructor
   ·rw[World.cell?_setCell_other _ _ _ _ (by simp)]
    exact World.cell?_setCell_same _ _ _ z0
   ·refine World.cell?_setCell_same _ _ _ (u:=.int .i64 (if i<i then 1 else 0)) ?_
    rw[World.cell?_setCell_other _ _ _ _ (by simp)]
    exact z1
  ·have e1:(if i<k+1 then (i:Int) else 0)=if i<k then (i:Int) else 0:=by
    by_cases h:i<k
    ·rw[if_pos h,if_pos (by omega)]
    ·rw[if_neg h,if_neg (by omega)]
   have e2:(if i<k+1 then (1:Int) else 0)=if i<k then (1:Int) else 0:=by
    by_cases h:i<k
    ·rw[if_pos h,if_pos (by omega)]
    ·rw[if_neg h,if_neg (by omega)]
   rw[e1,e2]
   constructor
   ·rw[World.cell?_setCell_other _ _ _ _ (zfn (by omega)),World.cell?_setCell_other _ _ _ _ (zfn (by omega))]
    exact z0
   ·rw[World.cell?_setCell_other _ _ _ _ (zfn (by omega)),World.cell?_setCell_other _ _ _ _ (zfn (by omega))]
    exact z1
 ·rw[World.frozen?_setCell,World.frozen?_setCell,World.frozen?_setCell]
  exact(hb.frozen (p:=⟨b3,o,none⟩) h3).trans (f3 o)
 ·rw[World.frozen?_setCell,World.frozen?_setCell,World.frozen?_setCell]
  exact(hb.frozen (p:=⟨bh,o,none⟩) hbh).trans (fh o)
theorem heap_drew(X:World):X.drew.heap=X.heap:=rfl
end Go.Proofs.YtojlkdekdbdpoaaGreat

namespace Go.Proofs.YtojlkdekdbdpoaaGreat
set_option maxRecDepth 100000
set_option maxHeartbeats 4000000
open Go.RowKit
def OwnR(w:World)(g:Nat)(S:List Nd):Prop :=
 ∃ F,w.rowIs g 44 (S.length*8) F∧∀ i,i<S.length→∃ kb kc,NdR w F (i*8) (nd S i) kb kc∧g<kb
theorem OwnR.nds{w:World}{g:Nat}{S:List Nd}(h:OwnR w g S):NdsAt w (some ⟨g,0,none⟩) S:=fun i hi=>by
 obtain⟨F,hF,hN⟩:=h
 obtain⟨kb,kc,⟨e0,e1,e2,e3,e4,e5,e6,e7,e8,e8b,G,hG,e9⟩,_⟩:=hN i hi
 refine⟨g,0,rfl,?_⟩
 rw[Nat.zero_add]
 refine⟨?_,?_,?_,?_,?_,⟨some ⟨kb,0,none⟩,kc,?_,fun j hj=>⟨kb,0,rfl,?_⟩⟩,?_,?_⟩
 ·rw[hF.cell (by omega),e0]
 ·rw[hF.cell (by omega),e1]
 ·rw[hF.cell (by omega),e2]
 ·rw[hF.cell (by omega),e3]
 ·rw[hF.cell (by omega),e4]
 ·rw[hF.cell (by omega),e5]
 ·rw[Nat.zero_add,hG.cell (by omega),e9 j hj]
 ·rw[hF.cell (by omega),e6]
 ·rw[hF.cell (by omega),e7]
theorem OwnR.up{w w3:World}{g:Nat}{S:List Nd}(h:OwnR w g S)(hup:∀ b,g≤b→b<w.heap.size→w3.heap[b]?=w.heap[b]?):OwnR w3 g S:=by
 obtain⟨F,hF,hN⟩:=h
 refine⟨F,hF.of_block (hup g (Nat.le_refl _) hF.lt),fun i hi=>?_⟩
 obtain⟨kb,kc,⟨e0,e1,e2,e3,e4,e5,e6,e7,e8,e8b,G,hG,e9⟩,hk⟩:=hN i hi
 exact⟨kb,kc,⟨e0,e1,e2,e3,e4,e5,e6,e7,e8,e8b,G,hG.of_block (hup kb (Nat.le_of_lt hk) hG.lt),e9⟩,hk⟩
theorem OwnR.root{w:World}{g:Nat}{S:List Nd}{k:Nat}(h:OwnR w g S)(hk:k<S.length)(hh:Int)(cc:Bool) :
  OwnR ((w.setCell ⟨g,k*8+6,none⟩ (.int .i64 hh)).setCell ⟨g,k*8+7,none⟩ (.bool cc)) g (S.set k { nd S k with h:=hh,c:=cc }):=by
 obtain⟨F,hF,hN⟩:=h
 refine⟨_,by rw[List.length_set];exact(hF.set (k*8+6) (.int .i64 hh)).set (k*8+7) (.bool cc),fun i hi=>?_⟩
 rw[List.length_set] at hi
 obtain⟨kb,kc,⟨e0,e1,e2,e3,e4,e5,e6,e7,e8,e8b,G,hG,e9⟩,hkb⟩:=hN i hi
 have hG2:=(hG.setOther (a:=⟨g,k*8+6,none⟩) (by simp;omega) (.int .i64 hh)).setOther (a:=⟨g,k*8+7,none⟩) (by simp;omega) (.bool cc)
 refine⟨kb,kc,?_,hkb⟩
 rw[zav S k i _ hk]
 by_cases e:i=k
 ·subst e
  rw[if_pos rfl]
  refine⟨?_,?_,?_,?_,?_,?_,?_,?_,e8,e8b,G,hG2,e9⟩
  all_goals dsimp only
  ·rw[if_neg (by omega),if_neg (by omega),e0]
  ·rw[if_neg (by omega),if_neg (by omega),e1]
  ·rw[if_neg (by omega),if_neg (by omega),e2]
  ·rw[if_neg (by omega),if_neg (by omega),e3]
  ·rw[if_neg (by omega),if_neg (by omega),e4]
  ·rw[if_neg (by omega),if_neg (by omega),e5]
  ·rw[if_neg (by omega),if_pos rfl]
  ·rw[if_pos rfl]
 ·rw[if_neg e]
  refine⟨?_,?_,?_,?_,?_,?_,?_,?_,e8,e8b,G,hG2,e9⟩
  all_goals
   dsimp only
   rw[if_neg (by omega),if_neg (by omega)]
   assumption
theorem zjR(a:Option Addr)(c:Nat)(S:List Nd)(t:Int)(w:World)(hN:S.length≤24)(hK:∀ i,i<S.length→(nd S i).ks.length≤1000)(hS:NdsAt w a S)(hC:zaA S=0)(ht0:0≤t)(ht1:t≤99)(k:Nat)(hk:k<S.length)(hfr:freeB (nd S k)=true)(h0:0≤(nd S k).n)(hall:∀ i,i<k→freeB (nd S i)=false) :
  Calls Tryz.prog 85 #[.agg #[.slice a S.length c],.int .i64 t] w fun e w' => ∃ g,e=.returned (.tuple #[.agg #[.slice (some ⟨g,0,none⟩) S.length S.length],.agg #[.int .i64 k,.int .i64 ((nd S k).n+1)],.int .i64 0])∧Below w.heap.size w w' ∧ w.heap.size≤g∧OwnR w' g (S.set k (zbg (nd S k) t)):=by
 have h2:(nd S k).n<1000000:=by
  unfold freeB at hfr
  simp at hfr
  exact hfr.2
 have HS:Hid (NdsAt w a S):=hS
 have df:=fun(W:World) (hW:NdsAt W a S)=>zhZ a c S W (by omega) hW k hk hfr hall
 have DF:Hid _:=df
 have dc:=fun(W:World) (hW:NdsAt W a S)=>copy_any a c S W hN hK hW
 have DC:Hid _:=dc
 have d0:=fun W hW=>zcO a c S W (by omega) (fun i hi=>Nat.le_trans (hK i hi) (by omega)) hW
 rw[hC] at d0
 have D0:Hid _:=d0
 have TU:Hid (∀ (w w' : World) (B g:Nat) (kb kc:Nat→Nat) (h:Own w B g S kb kc S.length) (F' : Nat→Value) (hF:w'.rowIs g 44 (S.length*8) F')
  (hN:∀ F,w.rowIs g 44 (S.length*8) F→(∀ i,i<S.length→NdR w F (i*8) (nd S i) (kb i) (kc i))→(∀ i,i<S.length→g<kb i)→∀ i,i<S.length→∃ kb' kc', NdR w' F' (i*8) (nd (S.set k (zbg (nd S k) t)) i) kb' kc' ∧ g<kb'),OwnR w' g (S.set k (zbg (nd S k) t))):=fun w w' B g kb kc h F' hF hN=>by
  obtain⟨_,F,hF0,hN0,hg0,_⟩:=h
  exact⟨F', by rw[List.length_set];exact hF,fun i hi=>hN F hF0 hN0 hg0 i (by rw[List.length_set] at hi;exact hi)⟩
 have SET:Hid (∀ i,nd (S.set k (zbg (nd S k) t)) i=if i=k then zbg (nd S k) t else nd S i):=fun i=>zav S k i _ hk
 have OC:Hid (∀ (wr:World) (B g:Nat) (kb kc:Nat→Nat),Own wr B g S kb kc S.length→(g<wr.heap.size∧(∀ o,wr.frozen? ⟨g,o,none⟩=false)∧(∃ F:Nat→Value,wr.rowIs g 44 (S.length*8) F)∧wr.cell? ⟨g,k*8,none⟩=some (.bool (nd S k).u)∧wr.cell? ⟨g,k*8+1,none⟩=some (.int .i64 (nd S k).n)∧wr.cell? ⟨g,k*8+2,none⟩=some (.int .i64 (nd S k).t))):=fun wr B g kb kc h=>by
  obtain⟨_,F,hF,hNd,_⟩:=h
  obtain⟨e0,e1,e2,_⟩:=hNd k hk
  exact⟨hF.lt,hF.frozen,⟨F,hF⟩,by rw[hF.cell (by omega),e0],by rw[hF.cell (by omega),e1],by rw[hF.cell (by omega),e2]⟩
 clear hS hall df dc d0 hC hK hfr
 generalize hn:S.length=n at *
 generalize hnk:(nd S k).n=nk at *
 have hk2:(k:Int)<(n:Int):=by omega
 have hk3:decide ((k:Int)<0)=false:=decide_eq_false (by omega)
 clear hn
 have HNK:Hid _:=hnk
 clear hnk
 go_enter Tryz.func85,Tryz.ntmps85
 go_wp2_with (go_at_call 19;refine(D0.out _ (HS.out.below (zaj _ _ _ _))).mono ?_;rintro e w0 ⟨rfl,hb0⟩;simp only[World.size_alloc] at hb0;obtain⟨l0,l1,l2,l3,z1,z2,z3⟩:=zbD hb0;have hB0:Below w.heap.size w w0:=(zaj _ _ _ _).trans (hb0.mono (by omega)))
 go_wp2_with (go_at_call 39;refine(zcT _ _ _ _ (by omega) (by omega)).mono ?_;rintro e w' ⟨rfl,rfl⟩)
 refine(DF.out _ (HS.out.below hB0)).mono ?_
 rintro e w1 ⟨rfl,hb1'⟩
 have hs0:=hb0.size
 simp only[World.size_alloc] at hs0
 have hb1:=hb0.trans (hb1'.mono hs0)
 have hB1:Below w.heap.size w w1:=(zaj _ _ _ _).trans (hb1.mono (by omega))
 clear l0 l1 l2 l3 z1 z2 z3 hb0 hb1' hB0
 obtain⟨l0,l1,l2,l3,z1,z2,z3⟩:=zbD hb1
 go_wp2_with fail
 refine(DC.out _ (HS.out.below hB1)).mono ?_
 rintro e w2 ⟨g,kb,kc,rfl,hb2,hO2⟩
 have hs1:=hb1.size
 simp only[World.size_alloc] at hs1
 have hb12:=hb1.trans (hb2.mono hs1)
 obtain⟨m0,m1,m2,m3,y1,y2,y3⟩:=zbD hb12
 obtain⟨hgl,hfz,⟨F,hF⟩,d0,d1,d2⟩:=OC.out _ _ _ _ _ hO2
 have hgge:w1.heap.size≤g:=hO2.1
 have hgge2:w.heap.size+1+1<g:=by omega
 have HO2:Hid (Own w2 w1.heap.size g S kb kc n):=hO2
 have HB:Hid (Below (w.heap.size+1+1+1) (((w.alloc (.cells #[.slice a n c] 24)).alloc (.cells #[.slice none 0 0] 24)).alloc (.cells #[.int .i64 0,.int .i64 0] 60)) w2):=hb12
 have HF:Hid (w2.rowIs g 44 (n*8) F):=hF
 clear hO2 hF l0 l1 l2 l3 z1 z2 z3 hb1 hb2 hb12
 go_wp2
 obtain⟨W3,hW3⟩:∃ W3,W3=(((w2.setCell ⟨g,k*8,none⟩ (Value.bool true)).setCell ⟨g,k*8+1,none⟩ (Value.int IntKind.i64 (nk+1))).setCell ⟨g,k*8+2,none⟩ (Value.int IntKind.i64 t)).alloc (Obj.cells #[Value.slice (some ⟨g,0,none⟩) n n] 24):=⟨_,rfl⟩
 rw[← hW3]
 have q8:W3.cell? ⟨w2.heap.size,0,none⟩=some (.slice (some ⟨g,0,none⟩) n n):=by rw[hW3];go_simp
 have q1:W3.cell? ⟨g,k*8+1,none⟩=some (.int .i64 (nk+1)):=by rw[hW3];go_simp
 have hsz:W3.heap.size=w2.heap.size+1:=by rw[hW3];simp
 have hb3:Below (w.heap.size+1+1+1) (((w.alloc (.cells #[.slice a n c] 24)).alloc (.cells #[.slice none 0 0] 24)).alloc (.cells #[.int .i64 0,.int .i64 0] 60)) W3:=by
  rw[hW3]
  exact(((HB.out.setCell (by simp;omega) _).setCell (by simp;omega) _).setCell (by simp;omega) _).alloc (by simp;omega) _
 clear m0 m1 m2 m3 y1 y2 y3 d0 d1 d2 hfz
 obtain⟨m0,m1,m2,m3,y1,y2,y3⟩:=zbD hb3
 have HB3:Hid (Below (w.heap.size+1+1+1) (((w.alloc (.cells #[.slice a n c] 24)).alloc (.cells #[.slice none 0 0] 24)).alloc (.cells #[.int .i64 0,.int .i64 0] 60)) W3):=hb3
 have HW3:Hid (W3=(((w2.setCell ⟨g,k*8,none⟩ (Value.bool true)).setCell ⟨g,k*8+1,none⟩ (Value.int IntKind.i64 (nk+1))).setCell ⟨g,k*8+2,none⟩ (Value.int IntKind.i64 t)).alloc (Obj.cells #[Value.slice (some ⟨g,0,none⟩) n n] 24)):=hW3
 have HSZ:Hid (W3.heap.size=w2.heap.size+1):=hsz
 clear hb3 hW3 HB hsz
 go_region
 all_goals (try go_wp2)
 refine bodyPost_ret (v:=.tuple #[.agg #[.slice (some ⟨g,0,none⟩) n n],.agg #[.int .i64 k,.int .i64 (nk+1)],.int .i64 0]) (by simp[results,Tryz.results85,go_sem,m1,m2,m3]) rfl ⟨g,rfl,?_,by omega,?_⟩
 ·have hbo:Below w.heap.size w W3:=(zaj _ _ _ _).trans (HB3.out.mono (by omega))
  exact(((hbo.setCell (by simp) _).setCell (by simp;omega) _).setCell (by simp;omega) _).drew
 ·have hr3:=(((HF.out.set (k*8) (.bool true)).set (k*8+1) (.int .i64 (nk+1))).set (k*8+2) (.int .i64 t)).alloc (Obj.cells #[Value.slice (some ⟨g,0,none⟩) n n] 24)
  rw[← HW3.out] at hr3
  have hr4:=(((hr3.setOther (a:=⟨w.heap.size+1,0,none⟩) (by simp;omega) (.slice (some ⟨g,0,none⟩) n n)).setOther (a:=⟨w.heap.size+1+1,0,none⟩) (by simp;omega) (.int .i64 k)).setOther (a:=⟨w.heap.size+1+1,1,none⟩) (by simp;omega) (.int .i64 (nk+1))).drew
  refine TU.out w2 _ _ g kb kc HO2.out _ hr4 (fun F0 hF0 hN0 hg0 i hi=>⟨kb i,kc i,?_,hg0 i hi⟩)
  have hFF:∀ j,j<n*8→F j=F0 j:=fun j hj=>by
   have h1:=HF.out.cell hj
   rw[hF0.cell hj] at h1
   exact(Option.some.inj h1).symm
  have hgi:=hg0 i hi
  obtain⟨e0,e1,e2,e3,e4,e5,e6,e7,e8,e8b,G,hG,e9⟩:=hN0 i hi
  have hG3:=(((hG.setOther (a:=⟨g,k*8,none⟩) (by simp;omega) (.bool true)).setOther (a:=⟨g,k*8+1,none⟩) (by simp;omega) (.int .i64 (nk+1))).setOther (a:=⟨g,k*8+2,none⟩) (by simp;omega) (.int .i64 t)).alloc (Obj.cells #[Value.slice (some ⟨g,0,none⟩) n n] 24)
  rw[← HW3.out] at hG3
  have hG4:=(((hG3.setOther (a:=⟨w.heap.size+1,0,none⟩) (by simp;omega) (.slice (some ⟨g,0,none⟩) n n)).setOther (a:=⟨w.heap.size+1+1,0,none⟩) (by simp;omega) (.int .i64 k)).setOther (a:=⟨w.heap.size+1+1,1,none⟩) (by simp;omega) (.int .i64 (nk+1))).drew
  rw[SET.out i]
  by_cases e:i=k
  ·subst e
   rw[if_pos rfl]
   unfold zbg
   refine⟨?_,?_,?_,?_,?_,?_,?_,?_,e8,e8b,G,hG4,e9⟩
   all_goals dsimp only
   ·rw[if_neg (by omega),if_neg (by omega),if_pos rfl]
   ·rw[if_neg (by omega),if_pos rfl,HNK.out]
   ·rw[if_pos rfl]
   ·rw[if_neg (by omega),if_neg (by omega),if_neg (by omega),hFF _ (by omega),e3]
   ·rw[if_neg (by omega),if_neg (by omega),if_neg (by omega),hFF _ (by omega),e4]
   ·rw[if_neg (by omega),if_neg (by omega),if_neg (by omega),hFF _ (by omega),e5]
   ·rw[if_neg (by omega),if_neg (by omega),if_neg (by omega),hFF _ (by omega),e6]
   ·rw[if_neg (by omega),if_neg (by omega),if_neg (by omega),hFF _ (by omega),e7]
  ·rw[if_neg e]
   refine⟨?_,?_,?_,?_,?_,?_,?_,?_,e8,e8b,G,hG4,e9⟩
   all_goals
    dsimp only
    rw[if_neg (by omega),if_neg (by omega),if_neg (by omega),hFF _ (by omega)]
    assumption
def zbq(x:Nd)(k:Nat)(cl:Bool):Nd:={ zbg x 0 with h:=(k:Int),c:=cl }
theorem WF.no_under{S:List Nd}(h:WF S){f:Nat}(hf:f<S.length)(hu:(nd S f).u=false){i a:Nat}(hi:i<S.length)(ha:Up S a i f):a=0:=by
 obtain⟨t0,m0,p0,k0,h0,c0⟩:=h.unused hf hu
 cases a with
 | zero=>rfl
 | succ a =>
  exfalso
  have key:∀ (a i:Nat),i<S.length→Up S (a+1) i f→False:=by
   intro a
   induction a with
   | zero =>
    rintro i hi ⟨z,hz,hr,e⟩
    have e' : z=f:=e
    subst e'
    unfold zae at hr
    by_cases e1:(nd S i).h = -1
    ·rw[if_pos e1] at hr
     have hp:(nd S i).p≠-1:=by omega
     obtain⟨pa,e2,_,_,_,e3⟩:=h.parent_place hi hp
     have:pa=z:=by omega
     rw[this,hu] at e3
     cases e3
    ·rw[if_neg e1] at hr
     have:=(h.hosts i hi e1).1
     rw[hr,Int.toNat_natCast,hu] at this
     cases this
   | succ a ih =>
    rintro i hi ⟨z,hz,hr,e⟩
    exact ih z hz e
  exact key a i hi ha
theorem WF.attach{S:List Nd}(h:WF S){f k:Nat}(cl:Bool)(hf:f<S.length)(hfr:freeB (nd S f)=true)(hk:k<S.length)(hku:(nd S k).u=true)(hH:hostB S k=false):WF (S.set f (zbq (nd S f) k cl)):=by
 obtain⟨hu,hn⟩:=zdQ hfr
 obtain⟨t0,m0,p0,k0,h0,c0⟩:=h.unused hf hu
 obtain⟨n0,n1,_⟩:=h.uses hf
 have hkf:k≠f:=fun e=>by rw[e,hu] at hku;cases hku
 have hHk:=zbP.1 hH
 have hl:(S.set f (zbq (nd S f) k cl)).length=S.length:=by simp
 have hnd:∀ i,nd (S.set f (zbq (nd S f) k cl)) i=if i=f then zbq (nd S f) k cl else nd S i:=fun i=>zav S f i _ hf
 refine⟨by rw[hl];exact h.small,fun i hi=>?_,zdt (fun i hi=>?_) (fun i hi x hx=>?_) (fun j hj hjp=>?_),fun i hi=>?_,fun i hi=>?_⟩
 ·rw[hl] at hi ⊢
  rw[hnd]
  split
  ·refine zdA ?_ (zcE ?_ ?_ (fun y hy=>absurd hy (by unfold zbq zbg;dsimp only;rw[k0];simp))) ?_
   ·unfold zbF zbq zbg
    simp only[Bool.and_eq_true,decide_eq_true_eq]
    exact⟨⟨by omega,by omega⟩,⟨by omega,by omega⟩,by rw[m0];omega,by rw[m0];omega⟩
   ·unfold zbq zbg okPl
    exact decide_eq_true ⟨by dsimp only;omega,by dsimp only;omega⟩
   ·unfold zbq zbg okPl
    exact decide_eq_true ⟨by dsimp only;omega,by dsimp only;omega⟩
   ·unfold formB zbq zbg
    simp only[if_true]
    rw[if_neg (by omega),if_neg (by omega)]
    exact decide_eq_true p0
  ·exact h.node i hi
 ·rw[hl] at hi
  rw[hnd]
  split
  ·unfold zbq zbg
   dsimp only
   rw[k0]
   exact List.nodup_nil
  ·exact h.kids_nodup hi
 ·rw[hl] at hi ⊢
  rw[hnd] at hx
  split at hx
  ·unfold zbq zbg at hx
   dsimp only at hx
   rw[k0] at hx
   cases hx
  ·obtain⟨y,rfl,y1,y2,y3,_⟩:=h.kid hi hx
   have hyf:y≠f:=fun e=>by rw[e,hu] at y2;cases y2
   exact⟨y,rfl,y1,by rw[hnd,if_neg hyf];exact y2,by rw[hnd,if_neg hyf];exact y3⟩
 ·rw[hl] at hj ⊢
  rw[hnd] at hjp
  split at hjp
  ·exact absurd (show (zbq (nd S f) k cl).p = -1 from p0) hjp
  ·obtain⟨i,i1,i2,_,i3,_⟩:=h.parent_place hj hjp
   refine⟨i,i2,?_⟩
   rw[hnd]
   split
   ·rename_i e
    subst e
    rw[k0] at i3
    cases i3
   ·exact i3
 ·rw[hl] at hi
  intro hh
  by_cases e:i=f
  ·subst e
   have hii:(nd (S.set i (zbq (nd S i) k cl)) i).h=(k:Int):=by rw[hnd,if_pos rfl];rfl
   rw[hii,Int.toNat_natCast]
   refine⟨by rw[hnd,if_neg hkf];exact hku,fun i' hi' => ?_⟩
   rw[hnd,if_neg (by omega)]
   exact hHk i' (by omega)
  ·have hii:nd (S.set f (zbq (nd S f) k cl)) i=nd S i:=by rw[hnd,if_neg e]
   rw[hii] at hh ⊢
   obtain⟨g1,g2⟩:=h.hosts i hi hh
   refine⟨?_,fun i' hi' => ?_⟩
   ·rw[hnd]
    split
    ·rfl
    ·exact g1
   ·rw[hnd]
    split
    ·exact fun e2=>hHk i hi e2.symm
    ·exact g2 i' hi'
 ·rw[hl] at hi
  have hr:∀ y,y<S.length→y≠f→zae (nd (S.set f (zbq (nd S f) k cl)) y)=zae (nd S y):=fun y _ e=>by rw[hnd,if_neg e]
  have hrf:zae (nd (S.set f (zbq (nd S f) k cl)) f)=k:=by
   rw[hnd,if_pos rfl]
   unfold zae zbq zbg
   dsimp only
   rw[if_neg (by omega)]
  have noto:∀ (j x:Nat),x<S.length→x≠f→¬ Up (S.set f (zbq (nd S f) k cl)) j x f:=fun j x hx hxf hu2=>by
   rcases zeE hl hr hx hu2 with g |⟨a,m,_,g,_⟩
   ·have:=h.no_under hf hu hx g
    subst this
    exact hxf g
   ·have:=h.no_under hf hu hx g
    subst this
    exact hxf g
  cases hb:zbd (S.set f (zbq (nd S f) k cl)) i i with
  | false=>rfl
  | true =>
   obtain⟨j,j1,j2,j3⟩:=zdf (by rw[hl];exact hi) hb
   rw[hl] at j2
   by_cases e:i=f
   ·subst e
    obtain⟨j', rfl⟩:∃ j', j=j' + 1:=⟨j-1,by omega⟩
    obtain⟨z,hz,hrz,hz2⟩:=j3
    rw[hrf] at hrz
    have:z=k:=by omega
    subst this
    exact absurd hz2 (noto j' z hk hkf)
   ·rcases zeE hl hr hi j3 with g |⟨a,m,_,g,_⟩
    ·exact absurd g (h.no_ring hi j1 j2)
    ·have:=h.no_under hf hu hi g
     subst this
     exact absurd g e
end Go.Proofs.YtojlkdekdbdpoaaGreat
