/-
  x
-/
import Derived.Test.YtcbcpomacdngmaaGreatA9
import Derived.BigRegion
namespace Go.Proofs.YtcbcpomacdngmaaGreat
set_option maxRecDepth 100000
set_option maxHeartbeats 4000000
set_option linter.unusedVariables false
open Go.RowKit Tryz
variable{S:List Nd}{k p i B c q m N y n r:Nat}{G:List Cl}{g:Nat->List Int}{T ps ks:List Int}{v:Value}{x:Int}{w:Wd}{near:Bool}
def lY(x:Nd):Nd:=⟨false,x.n,0,0,-1,[],-1,false⟩
def nP(S:List Nd)(k:Nat):Prop:=bA (nd S k) = -1/\(nd S k).ks=[]/\iD S k=false
theorem WF.like{A:List Nd}(h:WF S)(hl:A.length=S.length)(hn:∀ i,i<S.length->iP S.length (nd A i)=0)
  (hs:∀ i,i<S.length->(nd A i).p=(nd S i).p/\(nd A i).ks=(nd S i).ks/\(nd A i).h=(nd S i).h)
  (O:∀ i,i<S.length->(nd S i).u=true->(nd A i).u=true\/∀ j,j<S.length->(i:Int) ∉ (nd S j).ks/\(nd S j).h≠i):WF A:=by
 refine⟨by rw[hl];exact h.small,fun i hi=>by rw[hl] at hi |-;exact hn i hi,xE (fun i hi=>?_) (fun i hi x I=>?_) (fun j F D=>?_),fun i hi=>?_,fun i hi=>?_⟩
 ·rw[hl] at hi;rw[(hs i hi).2.1];exact h.kids_nodup hi
 ·rw[hl] at hi |-;rw[(hs i hi).2.1] at I;obtain⟨k,rfl,J,k2,k3,_⟩:=h.kid hi I;refine⟨k,rfl,J,?_,by rw[(hs k J).1];exact k3⟩;rcases O k J k2 with g|g
  ·exact g
  ·exact absurd I (g i hi).1
 ·rw[hl] at F |-;rw[(hs j F).1] at D;obtain⟨i,i1,Z,_,i3,_⟩:=h.parent_place F D;exact⟨i,Z,by rw[(hs i Z).2.1];exact i3⟩
 ·rw[hl] at hi;intro hh;rw[(hs i hi).2.2] at hh |-;obtain⟨g1,g2⟩:=h.hosts i hi hh;have hb:=(wU (wT (h.node i hi))).2.1;obtain⟨q,M⟩:∃ q:Nat,(nd S i).h=(q:Int):=⟨(nd S i).h.toNat,by omega⟩;refine⟨?_,fun U E=>by rw[(hs U (by omega)).2.2];exact g2 U E⟩;rw[M,yk] at g1 |-;rcases O q (by omega) g1 with g|g
  ·exact g
  ·exact absurd M (g i hi).2
 ·rw[hl] at hi
  cases hb:dF A i i with
  | false=>rfl
  | true =>
   obtain⟨j,j1,j2,j3⟩:=uE (by rw[hl];exact hi) hb;rw[hl] at j2;exact absurd (AZ hl (fun y T z e=>by unfold bA at e |-;rw[(hs y T).1,(hs y T).2.2] at e;exact e) hi j3) (h.no_ring hi j1 j2)
theorem WF.unused(h:WF S)(E:k<S.length)(F:(nd S k).u=false):(nd S k).t=0/\(nd S k).m=0/\(nd S k).p = -1/\(nd S k).ks=[]/\(nd S k).h = -1/\(nd S k).c=false:=by
 have D:=(jY (h.node k E)).2.2;unfold gV at D;rw[F] at D;exact of_decide_eq_true D
theorem WF.uses(h:WF S)(E:k<S.length):0<=(nd S k).n/\(nd S k).n<=1000000/\((nd S k).u=true->1<=(nd S k).n):=by
 obtain⟨h1,_,D⟩:=jY (h.node k E);unfold iO at h1;simp only[Bool.and_eq_true,decide_eq_true_eq] at h1;refine⟨h1.1.1,h1.1.2,fun F=>?_⟩;unfold gV at D;rw[ye F] at D;by_cases e:(nd S k).n=0
 ·rw[ye e] at D;cases D
 ·have:=h1.1.1;omega
theorem BI{x:Nd}(h:dI x=true):x.u=false/\x.n<1000000:=by
 unfold dI at h;simpa using h
theorem WF.make(h:WF S){t:Int}(D:k<S.length)(M:dI (nd S k)=true)(F:0<=t)(I:t<=99):WF (S.set k (fI (nd S k) t)):=by
 obtain⟨O,hn⟩:=BI M;obtain⟨q1,J,q3,q4,q5,q6⟩:=h.unused D O;obtain⟨n0,n1,_⟩:=h.uses D;refine h.like (by simp) (fun i hi=>?_) (fun i hi=>?_) (fun i hi E=>?_)
 ·rw[iQ S k i _ D];split
  ·rename_i e;subst e;obtain⟨r1,r2,r3⟩:=jY (h.node i hi);obtain⟨T,U,Z⟩:=BA r2;refine rG ?_ (rM T U Z) ?_
   ·unfold iO fI;simp only[Bool.and_eq_true,decide_eq_true_eq];exact⟨⟨by omega,by omega⟩,⟨F,I⟩,by rw[J];omega,by rw[J];omega⟩
   ·unfold gV fI;simp only[if_true];rw[yd (by omega),ye q5,q6];rfl
  ·exact h.node i hi
 ·rw[iQ S k i _ D];split
  ·rename_i e;subst e;exact⟨rfl,rfl,rfl⟩
  ·exact⟨rfl,rfl,rfl⟩
 ·rw[iQ S k i _ D];split
  ·exact Or.inl rfl
  ·exact Or.inl E
theorem Dw(h:nP S k):(nd S k).p = -1/\(nd S k).h = -1/\(nd S k).ks=[]/\∀ j,j<S.length->(nd S j).h≠k:=by
 obtain⟨h1,D,E⟩:=h;unfold bA at h1;by_cases e:(nd S k).h = -1
 ·rw[ye e] at h1;exact⟨h1,e,D,IX.1 E⟩
 ·rw[yd e] at h1;exact absurd h1 e
theorem WF.free(h:WF S)(D:k<S.length)(O:nP S k):WF (S.set k (lY (nd S k))):=by
 obtain⟨J,hh,F,M⟩:=Dw O;obtain⟨U,Z,_⟩:=h.uses D;refine h.like (by simp) (fun i hi=>?_) (fun i hi=>?_) (fun i hi E=>?_)
 ·rw[iQ S k i _ D];split
  ·rename_i e;subst e;refine rG ?_ (rM ?_ ?_ (fun y T=>absurd T (by simp[lY]))) ?_
   ·unfold iO lY;simp only[Bool.and_eq_true,decide_eq_true_eq];exact⟨⟨U,Z⟩,by omega,by omega⟩
   ·unfold lY fA;exact yI ⟨by dsimp only;omega,by dsimp only;omega⟩
   ·unfold lY fA;exact yI ⟨by dsimp only;omega,by dsimp only;omega⟩
   ·unfold gV lY;simp
  ·exact h.node i hi
 ·rw[iQ S k i _ D];split
  ·rename_i e;subst e;exact⟨J.symm,F.symm,hh.symm⟩
  ·exact⟨rfl,rfl,rfl⟩
 ·by_cases e:i=k
  ·subst e;exact Or.inr (fun j I=>⟨h.not_kid J I,M j I⟩)
  ·rw[iQ S k i _ D,yd e];exact Or.inl E
theorem Dx(n:Nat)(hn:n<=24):WF (List.replicate n fH):=by
 have D:∀ i,i<n->nd (List.replicate n fH) i=fH:=fun i hi=>IL n i _ hi;have hl:(List.replicate n fH).length=n:=by simp
 refine⟨by rw[hl];exact hn,fun i hi=>?_,xE (fun i hi=>?_) (fun i hi x I=>?_) (fun j F E=>?_),fun i hi=>?_,fun i hi=>?_⟩
 ·rw[hl] at hi |-;rw[D i hi];refine rG (by decide) (rM ?_ ?_ (fun y O=>absurd O (by simp[fH]))) (by decide)
  ·unfold fH fA;exact yI ⟨by dsimp only;omega,by dsimp only;omega⟩
  ·unfold fH fA;exact yI ⟨by dsimp only;omega,by dsimp only;omega⟩
 ·rw[hl] at hi;rw[D i hi];exact List.nodup_nil
 ·rw[hl] at hi;rw[D i hi] at I;cases I
 ·rw[hl] at F;rw[D j F] at E;exact absurd rfl E
 ·rw[hl] at hi;intro hh;rw[D i hi] at hh;exact absurd rfl hh
 ·cases hb:dF (List.replicate n fH) i i with
  | false=>rfl
  | true =>
   obtain⟨j,U,Z,T⟩:=uE hi hb;obtain⟨M,rfl⟩:∃ M,j=M+1:=⟨j-1,by omega⟩;obtain⟨z,_,J,_⟩:=T;rw[hl] at hi;rw[D i hi] at J;have:(-1:Int)=(z:Int):=J;omega
def kX(S:List Nd):Nat->Int->List Int
 | 0,_=>[]
 | f+1,x=>if dZ S.length x then x :: kX S f (bA (nd S x.toNat)) else []
def iE(S:List Nd)(k:Nat):List Int:=(k:Int) :: kX S S.length (bA (nd S k))
theorem RB(S:List Nd):∀ (f:Nat) (x:Int),(kX S f x).length<=f
 | 0,_=>by simp[kX]
 | f+1,x=>by
  simp only[kX];split
  ·have:=RB S f (bA (nd S x.toNat));simp;omega
  ·simp
theorem RD(S:List Nd)(k:Nat):(iE S k).length<=S.length+1:=by
 have:=RB S S.length (bA (nd S k));unfold iE;simp;omega
theorem Dy:dZ N (k:Int)=true↔k<N:=by
 unfold dZ;rw[decide_eq_true_eq];omega
theorem RH:∀ {f:Nat} {x:Int},(∀ (D j z:Nat),x=D->D<S.length->Up S j D z->j<f)->kX S (f+1) x=kX S f x
 | 0,x,h=>by
  simp only[kX];split
  ·rename_i E;have F:0<=x/\x<=(S.length:Int)-1:=of_decide_eq_true E;obtain⟨D,rfl⟩:∃ D:Nat,x=D:=⟨x.toNat,by omega⟩;exact absurd (h D 0 D rfl (by omega) rfl) (by omega)
  ·rfl
 | f+1,x,h=>by
  rw[kX]
  conv=>rhs;rw[kX]
  split
  ·rename_i E;have F:0<=x/\x<=(S.length:Int)-1:=of_decide_eq_true E;obtain⟨D,rfl⟩:∃ D:Nat,x=D:=⟨x.toNat,by omega⟩;rw[yk];rw[RH (fun M j z e J I=>?_)];have:=h D (j+1) z rfl (by omega) ⟨M,J,e,I⟩;omega
  ·rfl
theorem WF.path_up(h:WF S)(I:k<S.length)(J:q<S.length)(E:bA (nd S k)=q):iE S k=(k:Int) :: iE S q:=by
 unfold iE;rw[E]
 congr 1
 obtain⟨N,D⟩:∃ N,S.length=N+1:=⟨S.length-1,by omega⟩
 have F:kX S S.length (q:Int)=(q:Int) :: kX S N (bA (nd S q)):=by
  rw[D,kX,D,ye (Dy.2 (by omega)),yk]
 rw[F,D]
 congr 1
 rw[RH];intro T j z e O M;have:=h.up_short I (j:=j+2) (z:=z) ⟨q,J,E,⟨T,O,e,M⟩⟩;omega
theorem Dz{W:Wd}{p E F q qu:Int}(h:W.ownsRow B 61 2 v 3 ([.int .i64 p,.int .i64 E,.int .i64 x,.int .i64 F] ++ [.int .i64 q,.int .i64 qu])):∃ ha hc,v=.slice ha 3 hc/\aZ W ha [(p,E),(x,F),(q,qu)]:=by
 obtain⟨_,h⟩:=h;rcases h with ⟨_,h⟩ |⟨g,cap,D,rfl,_,hg,h1,M,O,I⟩
 ·omega
 ·refine⟨_,_,rfl,fun i hi=>?_⟩
  have hc:∀ j u,([.int .i64 p,.int .i64 E,.int .i64 x,.int .i64 F,.int .i64 q,.int .i64 qu]:List Value)[j]?=some u->j<6->W.cell? ⟨g,j,none⟩=some u:=fun j u J hl=>by
   have h5:(D.toList.take (3*2))[j]?=some u:=(by rw[I];simpa using J);rw[List.getElem?_take,ye (by omega)] at h5;simp only[World.cell?,hg];simpa using h5
  match i,hi with
  | 0,_=>exact⟨g,0,rfl,hc 0 _ rfl (by omega),hc 1 _ rfl (by omega)⟩
  | 1,_=>exact⟨g,0,rfl,hc 2 _ rfl (by omega),hc 3 _ rfl (by omega)⟩
  | 2,_=>exact⟨g,0,rfl,hc 4 _ rfl (by omega),hc 5 _ rfl (by omega)⟩
def SK:Nat->List Nd
 | 0=>List.replicate 6 fH
 | k+1=>(SK k).set k (fI (nd (SK k) k) k)
def S4:List Nd:=dD (SK 3) 0 1 0
theorem heap_drew(X:Wd):X.drew.heap=X.heap:=rfl
structure Tst where
 t:Int
 m:Int
 near:Bool
def rP(T M:Int)(x:Nd):Bool:=(decide (T = -1000001) || decide (T=x.t)) && (decide (M = -1000001) || decide (M=x.m))
def jJ(near:Bool):(Nat->Bool) × List Int->Int->((Nat->Bool) × List Int) × Bool:=fun st x =>
 if st.1 x.toNat then (st,false) else ((fun j=>if j=x.toNat then true else st.1 j,st.2++[x]),!near)
theorem JB{st:(Nat->Bool) × List Int}(h:st.1 y=true):jJ near st (y:Int)=(st,false):=by
 unfold jJ;rw[yk,ye h]
theorem JC{st:(Nat->Bool) × List Int}(h:st.1 y=false):jJ near st (y:Int)=((fun j=>if j=y then true else st.1 j,st.2++[(y:Int)]),!near):=by
 unfold jJ;rw[yk,yd (by rw[h];exact Bool.false_ne_true)]
def oO(S:List Nd)(near:Bool)(st:(Nat->Bool) × List Int)(place:Int):(Nat->Bool) × List Int :=
 if dZ S.length place then eB S Nd.p (jJ near) S.length (nd S place.toNat).p st else st
def nQ(S:List Nd)(near:Bool)(places:List Int):(Nat->Bool) × List Int:=places.foldl (oO S near) (fun _=>false,[])
def iT(S:List Nd)(near:Bool)(places:List Int):List Int:=(nQ S near places).2
theorem Ea(S:List Nd)(near:Bool)(places:List Int)(k:Nat)(h:k<places.length):nQ S near (places.take (k+1))=oO S near (nQ S near (places.take k)) (places.getD k 0):=by
 unfold nQ;rw[List.take_add_one,List.foldl_append,List.getElem?_eq_getElem h,aJ places 0 h];rfl
def jK(S:List Nd)(te:Tst)(ps:List Int):List Int:=flt (fun x=>!zyq te.t te.m (nd S x.toNat)) ps
def kY(S:List Nd):List Tst->List Int->List Int
 | [],ps=>ps
 | [te],ps=>jK S te ps
 | te :: D :: r,ps=>kY S (D :: r) (iT S te.near (jK S te ps))
def gY(S:List Nd)(place:Int)(q:List Tst):Bool:=decide (0<(kY S q.reverse [place]).length)
def PUp(S:List Nd):Nat->Nat->Nat->Prop
 | 0,x,p=>x=p
 | j+1,x,p=>∃ y:Nat,y<S.length/\(nd S x).p=y/\PUp S j y p
theorem PUp.up(h:WF S):∀ {j x y:Nat},x<S.length->PUp S j x y->Up S j x y
 | 0,_,_,_,F=>F
 | j+1,x,y,I,⟨z,h1,D,E⟩=>by
  refine⟨z,h1,?_,PUp.up h h1 E⟩;unfold bA;rw[ye (h.host_of_parent I (by omega)).1];exact D
structure Con (S:List Nd) (st:(Nat->Bool) × List Int):Prop where
 mem:∀ x ∈ st.2,∃ k:Nat,x=k/\k<S.length/\st.1 k=true
 all:∀ k,st.1 k=true->k<S.length/\(k:Int) ∈ st.2
theorem Con.iff{st:(Nat->Bool) × List Int}(h:Con S st)(k:Nat):(k:Int) ∈ st.2↔st.1 k=true:=by
 constructor
 ·intro D;obtain⟨k', e,_,hs⟩:=h.mem _ D;have:k' = k:=by omega
  rw[<- this];exact hs
 ·intro hs;exact(h.all k hs).2
theorem Con.add{st:(Nat->Bool) × List Int}(h:Con S st)(I:k<S.length):Con S (fun j=>if j=k then true else st.1 j,st.2++[(k:Int)]):=by
 refine⟨fun x D=>?_,fun j F=>?_⟩
 ·rcases List.mem_append.1 D with D|D
  ·obtain⟨i,e,h1,E⟩:=h.mem x D;refine⟨i,e,h1,?_⟩;dsimp only;split
   ·rfl
   ·exact E
  ·exact⟨k,by simpa using D,I,ye rfl⟩
 ·dsimp only at F
  split at F
  ·rename_i e;subst e;exact⟨I,by simp⟩
  ·obtain⟨h1,E⟩:=h.all j F;exact⟨h1,List.mem_append.2 (Or.inl E)⟩
def ClU(S:List Nd)(st:(Nat->Bool) × List Int)(y:Int):Prop:=∀ a,st.1 a=true->∀ b:Nat,(nd S a).p=b->b<S.length->st.1 b=true\/(b:Int)=y
theorem ClU.up{st:(Nat->Bool) × List Int}(h:∀ a,st.1 a=true->∀ b:Nat,(nd S a).p=b->b<S.length->st.1 b=true):∀ {j x z:Nat},st.1 x=true->PUp S j x z->st.1 z=true
 | 0,_,_,D,I=>by cases I;exact D
 | _+1,_,_,D,⟨y,h1,E,F⟩=>ClU.up h (h _ D y E h1) F
theorem RN:∀ (f:Nat) (y:Int) (st:(Nat->Bool) × List Int),Con S st->ClU S st y->(∀ D:Nat,y=D->D<S.length->∀ j z,PUp S j D z->j<f) ->
  Con S (eB S Nd.p (jJ false) f y st)/\(∀ a,(eB S Nd.p (jJ false) f y st).1 a=true->∀ b:Nat,(nd S a).p=b->b<S.length->(eB S Nd.p (jJ false) f y st).1 b=true) /\
  ∀ z,(eB S Nd.p (jJ false) f y st).1 z=true↔st.1 z=true\/∃ (D j:Nat),y=D/\D<S.length/\PUp S j D z
 | 0,y,st,hc,F,hf=>by
  have hn:∀ D:Nat,y=D->¬ D<S.length:=fun D e U=>by have:=hf D e U 0 D rfl;omega
  refine⟨hc,fun a ha b hb E=>?_,fun z=>⟨Or.inl,fun h=>?_⟩⟩
  ·rcases F a ha b hb E with h|h
   ·exact h
   ·exact absurd E (hn b h.symm)
  ·rcases h with h |⟨D,j,e,U,_⟩
   ·exact h
   ·exact absurd U (hn D e)
 | f+1,y,st,hc,F,hf=>by
  simp only[eB];by_cases Z:dZ S.length y=true
  ·have hq:0<=y/\y<=(S.length:Int)-1:=of_decide_eq_true Z;obtain⟨D,rfl⟩:∃ k:Nat,y=(k:Int):=⟨y.toNat,by omega⟩;have I:D<S.length:=(by omega);rw[ye Z]
   cases hs:st.1 D with
   | true =>
    rw[JB hs];simp only[Bool.false_eq_true,if_false]
    have J:∀ a,st.1 a=true->∀ b:Nat,(nd S a).p=b->b<S.length->st.1 b=true:=fun a ha b hb E=>by
     rcases F a ha b hb E with h|h
     ·exact h
     ·have:b=D:=(by omega);rw[this];exact hs
    refine⟨hc,J,fun z=>⟨Or.inl,fun h=>?_⟩⟩;rcases h with h |⟨T,j,e,_,M⟩
    ·exact h
    ·have:T=D:=(by omega);subst this;exact ClU.up J hs M
   | false =>
    rw[JC hs];simp only[Bool.not_false,if_true,yk]
    obtain⟨g1,g2,g3⟩:=RN f (nd S D).p (fun j=>if j=D then true else st.1 j,st.2++[(D:Int)]) (hc.add I) (fun a ha b hb E=>by
     dsimp only at ha |-;by_cases e:a=D
     ·subst e;exact Or.inr hb.symm
     ·rw[yd e] at ha;rcases F a ha b hb E with h|h
      ·left;split
       ·rfl
       ·exact h
      ·left;rw[ye (by omega)]) (fun T e O j z M=>by
     have:=hf D rfl I (j+1) z ⟨T,O,e,M⟩
     omega)
    refine⟨g1,g2,fun z=>?_⟩;rw[g3 z];dsimp only;constructor
    ·rintro(h |⟨T,j,e,O,M⟩)
     ·by_cases ez:z=D
      ·exact Or.inr ⟨D,0,rfl,I,ez.symm⟩
      ·rw[yd ez] at h;exact Or.inl h
     ·exact Or.inr ⟨D,j+1,rfl,I,⟨T,O,e,M⟩⟩
    ·rintro(h |⟨T,j,e,_,M⟩)
     ·left;split
      ·rfl
      ·exact h
     ·have:T=D:=(by omega);subst this
      cases j with
      | zero=>left;rw[ye M.symm]
      | succ j =>
       obtain⟨y2,h1,h2,h3⟩:=M;exact Or.inr ⟨y2,j,h2,h1,h3⟩
  ·rw[yd Z];have hn:∀ D:Nat,y=D->¬ D<S.length:=fun D e U=>Z (yI ⟨by omega,by omega⟩);refine⟨hc,fun a ha b hb E=>?_,fun z=>⟨Or.inl,fun h=>?_⟩⟩
   ·rcases F a ha b hb E with h|h
    ·exact h
    ·exact absurd E (hn b h.symm)
   ·rcases h with h |⟨D,j,e,U,_⟩
    ·exact h
    ·exact absurd U (hn D e)
theorem Eb{f:Nat}(J:0<f)(y:Int)(st:(Nat->Bool) × List Int)(hc:Con S st) :
  Con S (eB S Nd.p (jJ true) f y st)/\∀ z,(eB S Nd.p (jJ true) f y st).1 z=true↔st.1 z=true\/(y=z/\z<S.length):=by
 obtain⟨f,rfl⟩:∃ g,f=g+1:=⟨f-1,by omega⟩;simp only[eB];by_cases D:dZ S.length y=true
 ·have M:0<=y/\y<=(S.length:Int)-1:=of_decide_eq_true D;obtain⟨E,rfl⟩:∃ k:Nat,y=(k:Int):=⟨y.toNat,by omega⟩;have F:E<S.length:=by omega
  rw[ye D]
  cases hs:st.1 E with
  | true =>
   rw[JB hs];simp only[Bool.false_eq_true,if_false];refine⟨hc,fun z=>⟨Or.inl,fun h=>?_⟩⟩;rcases h with h |⟨e,_⟩
   ·exact h
   ·have:z=E:=(by omega);rw[this];exact hs
  | false =>
   rw[JC hs];simp only[Bool.not_true,Bool.false_eq_true,if_false];refine⟨hc.add F,fun z=>?_⟩;constructor
   ·intro h;by_cases I:z=E
    ·exact Or.inr ⟨by rw[I],by omega⟩
    ·rw[yd I] at h;exact Or.inl h
   ·rintro(h |⟨e,_⟩)
    ·split
     ·rfl
     ·exact h
    ·rw[ye (by omega)]
 ·rw[yd D];refine⟨hc,fun z=>⟨Or.inl,fun h=>?_⟩⟩;rcases h with h |⟨e,O⟩
  ·exact h
  ·exact absurd (yI ⟨by omega,by omega⟩) D
def Abv(S:List Nd)(near:Bool)(k x:Nat):Prop:=if near then (nd S k).p=x/\x<S.length else ∃ (D j:Nat),(nd S k).p=D/\D<S.length/\PUp S j D x
theorem JD(h:WF S)(near:Bool):∀ (ps:List Int) (st:(Nat->Bool) × List Int),(∀ x ∈ ps,∃ k:Nat,x=k/\k<S.length)->Con S st->(near=false->∀ a,st.1 a=true->∀ b:Nat,(nd S a).p=b->b<S.length->st.1 b=true) ->
  Con S (ps.foldl (oO S near) st)/\∀ z,(ps.foldl (oO S near) st).1 z=true↔st.1 z=true\/∃ k:Nat,(k:Int) ∈ ps/\Abv S near k z
 | [],st,_,hc,_=>⟨hc,fun z=>⟨Or.inl,fun h=>by
   rcases h with h |⟨k,hk,_⟩
   ·exact h
   ·cases hk⟩⟩
 | x :: ps,st,F,hc,O=>by
  obtain⟨k,rfl,hk⟩:=F x (by simp);have T:dZ S.length (k:Int)=true:=yI ⟨by omega,by omega⟩;simp only[List.foldl_cons]
  have e:oO S near st (k:Int)=eB S Nd.p (jJ near) S.length (nd S k).p st:=by
   unfold oO;rw[ye T,yk]
  rw[e]
  cases near with
  | true =>
   obtain⟨g1,g2⟩:=Eb (f:=S.length) (by omega) (nd S k).p st hc;obtain⟨i1,i2⟩:=JD h true ps _ (fun x U=>F x (by simp[U])) g1 (fun e=>by cases e);refine⟨i1,fun z=>?_⟩;rw[i2 z,g2 z];constructor
   ·rintro((h|h) |⟨k', D,h⟩)
    ·exact Or.inl h
    ·exact Or.inr ⟨k,by simp,h⟩
    ·exact Or.inr ⟨k', by simp[D],h⟩
   ·rintro(h |⟨k', D,h⟩)
    ·exact Or.inl (Or.inl h)
    ·rcases List.mem_cons.1 D with e|D
     ·have:k' = k:=(by omega);subst this;exact Or.inl (Or.inr h)
     ·exact Or.inr ⟨k', D,h⟩
  | false =>
   obtain⟨g1,g2,g3⟩:=RN S.length (nd S k).p st hc (fun a ha b hb M=>Or.inl (O rfl a ha b hb M)) (fun E e J j z I=>by
    have:=h.up_short J (I.up h J)
    omega)
   obtain⟨i1,i2⟩:=JD h false ps _ (fun x U=>F x (by simp[U])) g1 (fun _=>g2);refine⟨i1,fun z=>?_⟩;rw[i2 z,g3 z];constructor
   ·rintro((h |⟨E,j,e,Z,I⟩) |⟨k', D,h⟩)
    ·exact Or.inl h
    ·exact Or.inr ⟨k,by simp,(show ∃ (E j:Nat),_ from ⟨E,j,e,Z,I⟩)⟩
    ·exact Or.inr ⟨k', by simp[D],h⟩
   ·rintro(h |⟨k', D,h⟩)
    ·exact Or.inl (Or.inl h)
    ·rcases List.mem_cons.1 D with e|D
     ·have:k' = k:=(by omega);subst this;obtain⟨E,j,e,Z,I⟩:∃ (E j:Nat),(nd S k').p=E/\E<S.length/\PUp S j E z:=h;exact Or.inl (Or.inr ⟨E,j,e,Z,I⟩)
     ·exact Or.inr ⟨k', D,h⟩
def jL(S:List Nd)(ps:List Int):Prop:=∀ x ∈ ps,∃ k:Nat,x=k/\k<S.length
theorem Ed(h:WF S)(near:Bool)(E:jL S ps):jL S (iT S near ps)/\∀ z:Nat,(z:Int) ∈ iT S near ps↔∃ k:Nat,(k:Int) ∈ ps/\Abv S near k z:=by
 obtain⟨h1,I⟩:=JD h near ps (fun _=>false,[]) E ⟨fun x F=>(by cases F),fun k D=>(by cases D)⟩ (fun _ a ha=>by cases ha);refine⟨fun x F=>?_,fun z=>?_⟩
 ·obtain⟨k,e,D,_⟩:=h1.mem x F;exact⟨k,e,D⟩
 ·rw[show iT S near ps=(ps.foldl (oO S near) (fun _=>false,[])).2 from rfl,h1.iff z,I z];constructor
  ·rintro(h|h)
   ·cases h
   ·exact h
  ·exact Or.inr
theorem Ee{te:Tst}:x ∈ jK S te ps↔x ∈ ps/\rP te.t te.m (nd S x.toNat)=true:=by
 unfold jK;rw[BD];simp
theorem jL.sift{te:Tst}(h:jL S ps):jL S (jK S te ps):=fun x D=>h x (Ee.1 D).1
theorem JE{B' e size:Nat}{F:List Value}(h:w.ownsRow B e size v n F)(M:B' <= B):w.ownsRow B' e size v n F:=by
 obtain⟨h1,E⟩:=h;refine⟨h1,?_⟩;rcases E with E |⟨g,cap,D,I,J,h5⟩
 ·exact Or.inl E
 ·exact Or.inr ⟨g,cap,D,I,yJ M J,h5⟩
theorem El:(prog.info? 4).map (fun i=>(i.zero,i.size,i.bytes))=some (some (.bool false),1,1):=by kernel_rfl
theorem Eo(n:Nat)(hn:n<=24)(w:Wd):(Instr.makeSlice 259 (.int .i64 (n:Int)) (.int .i64 (n:Int))).run prog w=.ok (.slice (some ⟨w.heap.size,0,none⟩) n n) (w.alloc (.cells (madeCells #[.bool false] n) 4)) :=
 run_make_row' (P:=prog) 259 4 (.bool false) 1 underlying259 El rfl .i64 .i64 n (by omega) (by omega) w
theorem RQ{g cap:Nat}(h:w.ownsRow B 3 1 (.slice (some ⟨g,0,none⟩) n cap) n (ks.map (Value.int .i64))):B<=g/\n<=cap/\cap<=maxLen/\ks.length=n/\∃ G,w.rowIs g 3 cap G/\∀ j,j<n->G j=.int .i64 (ks.getD j 0):=by
 obtain⟨hl,h⟩:=h;rw[List.length_map,Nat.mul_one] at hl;rcases h with ⟨h,_⟩ |⟨U,E,D,e,h1,J,M,O,h5,F⟩
 ·cases h
 ·cases e;rw[Nat.mul_one] at h5 F;refine⟨h1,M,O,hl,fun j=>D[j]?.getD undef,⟨D,J,h5,fun i hi=>?_⟩,fun j T=>?_⟩
  ·show D[i]?=some (D[i]?.getD undef);rw[Array.getElem?_eq_getElem (by omega)];rfl
  ·have I:(D.toList.take n)[j]?=(ks.map (Value.int .i64))[j]?:=(by rw[F]);rw[List.getElem?_take,ye T,List.getElem?_map,List.getElem?_eq_getElem (l:=ks) (by omega)] at I;show D[j]?.getD undef=_;rw[<- Array.getElem?_toList,I,aJ ks 0 (by omega)];rfl
theorem uI(h:w.ownsRow B 3 1 v ks.length (ks.map (Value.int .i64))):∃ pa pc,v=.slice pa ks.length pc/\aG w pa ks/\(∀ k,v.ownBlock=some k->B<=k/\k<w.heap.size):=by
 have D:=h.lt;rcases h.2 with ⟨e,I⟩ |⟨g,cap,F,e,_⟩
 ·have O:ks=[]:=List.length_eq_zero_iff.1 I;subst O;exact⟨none,0,e,fun i hi=>absurd hi (yB _),D⟩
 ·subst e;obtain⟨_,J,_,_,G,M,E⟩:=RQ h;exact⟨some ⟨g,0,none⟩,cap,rfl,qB M J E,D⟩
def jZ(n:Nd):Nat:=if n.h = -1 then 2 else 1
def rQ(S:List Nd)(L:Nat):List Int->Nat
 | []=>0
 | x :: r=>rQ S L r+jZ (nd S x.toNat)*3 ^ (L-(r.length+1))
def vF(S:List Nd)(k:Nat):Nat:=rQ S (S.length+2) (iE S k)
def eF(S:List Nd)(k:Nat):Nat:=vF S k+3 ^ (S.length+2-(iE S k).length)
theorem RU(n:Nd):1<=jZ n/\jZ n<=2:=by unfold jZ;split <;> omega
theorem WF.v_up(h:WF S)(E:k<S.length)(F:q<S.length)(I:bA (nd S k)=q) :
  ∃ P,0<P/\vF S k=vF S q+jZ (nd S k)*P/\eF S k=vF S q+jZ (nd S k)*P+P/\eF S q=vF S q+3*P/\P=3 ^ (S.length+1-(iE S q).length):=by
 have D:=h.path_up E F I;have hl:=RD S q;refine⟨3 ^ (S.length+1-(iE S q).length),Nat.pow_pos (by omega),?_,?_,?_,rfl⟩
 ·unfold vF;rw[D,rQ,yk,show S.length+2-((iE S q).length+1)=S.length+1-(iE S q).length by omega]
 ·unfold eF vF;rw[D,rQ,yk,List.length_cons,show S.length+2-((iE S q).length+1)=S.length+1-(iE S q).length by omega]
 ·unfold eF;rw[show S.length+2-(iE S q).length=(S.length+1-(iE S q).length)+1 by omega,Nat.pow_succ,Nat.mul_comm]
theorem WF.v_step(h:WF S)(E:k<S.length)(F:q<S.length)(I:bA (nd S k)=q):vF S q<vF S k/\eF S k<=eF S q:=by
 obtain⟨P,h0,h1,D,J,_⟩:=h.v_up E F I;have hd:=RU (nd S k);rcases(show jZ (nd S k)=1\/jZ (nd S k)=2 by omega) with e|e <;> rw[e] at h1 D <;> omega
theorem WF.v_Up(h:WF S):∀ {j x y:Nat},x<S.length->Up S j x y->vF S y<=vF S x/\eF S x<=eF S y
 | 0,_,_,_,e=>by cases e;omega
 | j+1,x,y,I,⟨z,D,E,F⟩=>by
  have h1:=h.v_step I D E;have J:=h.v_Up D F;omega
theorem v_e(S:List Nd)(k:Nat):vF S k<eF S k:=by
 unfold eF;have:0<3 ^ (S.length+2-(iE S k).length):=Nat.pow_pos (by omega);omega
theorem WF.v_given(h:WF S){H j:Nat}(O:H<S.length)(hr:r<S.length)(hc:c<S.length)(hp:p<S.length)(hh:(nd S r).h=H)(hu:Up S j p r)(F:bA (nd S c)=H)(hch:(nd S c).h = -1):vF S p<vF S c:=by
 have J:bA (nd S r)=H:=by unfold bA;rw[yd (by omega)];exact hh
 obtain⟨P,h0,h1,U,h3,e⟩:=h.v_up hr O J;obtain⟨P', T,D,E,Z,M⟩:=h.v_up hc O F;rw[<- e] at M;subst M;have hd:jZ (nd S r)=1:=by unfold jZ;rw[yd (by omega)]
 have I:jZ (nd S c)=2:=by unfold jZ;rw[ye hch]
 rw[hd] at h1 U;rw[I] at D E;have hv:=(h.v_Up hp hu).2;have:=v_e S p;omega
theorem rR(S:List Nd)(x:Int)(h:dA S x≠-1):∃ r:Nat,r<S.length/\dA S x=r/\(nd S r).h=x/\x≠-1:=by
 unfold dA at *;by_cases D:x = -1
 ·rw[ye D] at h;exact absurd rfl h
 ·rw[yd D] at *
  cases hf:S.findIdx? fun n=>decide (n.h=x) with
  | none=>rw[hf] at h;exact absurd rfl h
  | some k =>
   obtain⟨h1,E,_⟩:=List.findIdx?_eq_some_iff_getElem.1 hf;exact⟨k,h1,rfl,by rw[eQ h1];exact of_decide_eq_true E,D⟩
theorem RV(D:x≠-1)(h:dA S x = -1)(i:Nat)(hi:i<S.length):(nd S i).h≠x:=fun e=>by
 unfold dA at h;rw[yd D] at h
 cases hf:S.findIdx? fun n=>decide (n.h=x) with
 | none =>
  have:=List.findIdx?_eq_none_iff.1 hf S[i] (List.getElem_mem hi);rw[<- eQ hi] at this;exact of_decide_eq_false this e
 | some k=>rw[hf] at h;simp at h
def dB(S:List Nd)(g:Nat->List Int)(p:Nat):List Int:=if dA S p≠-1 then (nd S (dA S p).toNat).ks else if g p≠[] then g p else (nd S p).ks
structure kZ (S:List Nd) (g:Nat->List Int):Prop where
 some:∀ p,p<S.length->∀ c ∈ g p,∃ H r j:Nat,H<S.length/\r<S.length/\(nd S r).h=H/\Up S j p r/\c ∈ (nd S H).ks
 one:∀ p p' c,p<S.length->p' < S.length->c ∈ g p->c ∈ g p' -> p=p'
 nodup:∀ p,p<S.length->(g p).Nodup
theorem BJ(h:WF S)(G:kZ S g)(T:p<S.length){c:Int}(hc:c ∈ dB S g p) :
  ∃ k q:Nat,c=k/\k<S.length/\q<S.length/\(nd S k).u=true/\(nd S k).h = -1/\(nd S k).p=q/\bA (nd S k)=q /\
   ((nd S q).h=p\/(dA S p = -1/\c ∈ g p/\∃ r j:Nat,r<S.length/\(nd S r).h=q/\Up S j p r)\/(dA S p = -1/\q=p)):=by
 unfold dB at hc
 split at hc
 ·rename_i U;obtain⟨r,h1,M,O,_⟩:=rR S p U;rw[M,yk] at hc;obtain⟨k,e,D,F,I,J⟩:=h.kid h1 hc;exact⟨k,r,e,D,h1,F,(h.host_of_parent D (by omega)).1,I,J,Or.inl O⟩
 ·rename_i U;have E:dA S p = -1:=Decidable.not_not.1 U
  split at hc
  ·obtain⟨H,r,j,h1,M,O,Z,h5⟩:=G.some p T c hc;obtain⟨k,e,D,F,I,J⟩:=h.kid h1 h5;exact⟨k,H,e,D,h1,F,(h.host_of_parent D (by omega)).1,I,J,Or.inr (Or.inl ⟨E,hc,r,j,M,O,Z⟩)⟩
  ·obtain⟨k,e,D,F,I,J⟩:=h.kid T hc;exact⟨k,p,e,D,T,F,(h.host_of_parent D (by omega)).1,I,J,Or.inr (Or.inr ⟨E,rfl⟩)⟩
theorem qF(h:WF S)(G:kZ S g)(I:p<S.length){c:Int}(hc:c ∈ dB S g p) :
  ∃ k:Nat,c=k/\k<S.length/\(nd S k).u=true/\(nd S k).h = -1/\vF S p<vF S k:=by
 obtain⟨k,q,e,E,F,U,hh,O,D,hw⟩:=BJ h G I hc;refine⟨k,e,E,U,hh,?_⟩;rcases hw with hw |⟨_,_,r,j,T,J,M⟩ |⟨_,rfl⟩
 ·have h1:=(h.v_step E F D).1;have Z:=(h.v_step F I (by unfold bA;rw[yd (by omega)];exact hw)).1;omega
 ·exact h.v_given F T E I J M D hh
 ·exact(h.v_step E F D).1
def ShR(ks:Nat->List Int)(c:Nat):Nat->Nat->Prop
 | 0,z=>z=c
 | j+1,z=>∃ y,ShR ks c j y/\(z:Int) ∈ ks y
theorem ShR.front{ks:Nat->List Int}(hc:(c:Int) ∈ ks p):∀ {j z:Nat},ShR ks c j z->ShR ks p (j+1) z
 | 0,z,e=>by cases e;exact⟨p,rfl,hc⟩
 | j+1,z,⟨y,D,E⟩=>⟨y,ShR.front hc D,E⟩
theorem ShR.trans{ks:Nat->List Int}(h:ShR ks p i c):∀ {j z:Nat},ShR ks c j z->ShR ks p (i+j) z
 | 0,z,e=>by cases e;exact h
 | j+1,z,⟨y,D,E⟩=>⟨y,ShR.trans h D,E⟩
theorem ShR.facts(h:WF S)(G:kZ S g)(D:k<S.length):∀ {j z:Nat},ShR (dB S g) k j z->z<S.length/\vF S k<=vF S z/\(z=k\/(nd S z).h = -1)/\(z=k\/(nd S z).u=true)/\(1<=j->vF S k<vF S z/\(nd S z).h = -1/\(nd S z).u=true)
 | 0,z,e=>by cases e;exact⟨D,yr _,Or.inl rfl,Or.inl rfl,fun h=>by omega⟩
 | j+1,z,⟨y,I,J⟩=>by
  obtain⟨h1,O,_⟩:=ShR.facts h G D I;obtain⟨k', e,M,F,E,T⟩:=qF h G h1 J;have:z=k' := by omega
  subst this;exact⟨M,by omega,Or.inr E,Or.inr F,fun _=>⟨by omega,E,F⟩⟩
theorem ShR.inner(h:WF S)(G:kZ S g){J:Nat}(O:k<S.length)(hr:r<S.length)(I:J<S.length)(hh:(nd S J).h=r)(D:(nd S r).h≠-1):∀ {j z i:Nat},ShR (dB S g) k j z->Up S i z J->k=r\/∃ i,Up S i k J
 | 0,z,i,e,T=>by cases e;exact Or.inr ⟨i,T⟩
 | j+1,z,i,⟨y,U,hz⟩,T=>by
  obtain⟨y1,y2,y3,_⟩:=ShR.facts h G O U;obtain⟨k', q,e,a8,hq,b0,a9,b1,b4,hw⟩:=BJ h G y1 hz;have:z=k' := by omega
  subst this
  cases i with
  | zero =>
   have:z=J:=T;subst this;omega
  | succ i =>
   obtain⟨q', Z,a7,E⟩:=T;have:q' = q:=(by omega);subst this;rcases hw with hw |⟨_,_,r2,j2,b3,M,a6⟩ |⟨_,rfl⟩
   ·by_cases e:q' = J
    ·subst e;have:y=r:=(by omega);subst this;exact Or.inl (y3.resolve_right D).symm
    ·cases i with
     | zero=>exact absurd E e
     | succ i =>
      obtain⟨q2,b2,F,a5⟩:=E;have:q2=y:=(by unfold bA at F;rw[yd (by omega)] at F;omega);subst this;exact ShR.inner h G O hr I hh D U a5
   ·have h3:Up S 1 r2 q' := WF.up_one Z (by unfold bA;rw[yd (by omega)];exact M);exact ShR.inner h G O hr I hh D U (a6.trans (h3.trans E))
   ·exact ShR.inner h G O hr I hh D U E
theorem ShR.one(h:WF S)(G:kZ S g){i' p':Nat}(M:k<S.length)(h1:ShR (dB S g) k i p)(h2:ShR (dB S g) k i' p'){c:Int}(hc:c ∈ dB S g p)(U:c ∈ dB S g p'):p=p' := by
 obtain⟨O,p2,p3,_⟩:=ShR.facts h G M h1;obtain⟨T,q2,q3,_⟩:=ShR.facts h G M h2;obtain⟨z,q,e,hz,Z,b7,b4,b5,b6,hw⟩:=BJ h G O hc;obtain⟨z', J,e', b3,b1,b0,a7,a8,a9,D⟩:=BJ h G T U;have:z' = z:=by omega
 subst this;have:J=q:=by omega
 subst this;have up:∀ {a:Nat},a<S.length->(nd S J).h=a->vF S a<vF S J:=fun ha e=>(h.v_step Z ha (by unfold bA;rw[yd (by omega)];exact e)).1
 have inn:∀ {a b r j i:Nat},a<S.length->ShR (dB S g) k i b->vF S k<=vF S a->(nd S J).h=a->r<S.length->(nd S r).h=J->Up S j b r->False:=fun {a b r j i} ha hb hv a5 E I hu=>by
  have b2:=up ha a5;rcases ShR.inner h G M Z E I (by omega) hb hu with e |⟨i,hi⟩
  ·subst e;omega
  ·have h3:=(h.v_Up M hi).1;have h4:=(h.v_step E Z (by unfold bA;rw[yd (by omega)];exact I)).1;omega
 rcases hw with hw |⟨n1,m1,r,j,E,F,a6⟩ |⟨n1,e1⟩ <;> rcases D with D |⟨n2,m2,r2,j2,hr2,hrh2,hup2⟩ |⟨n2,e2⟩
 ·omega
 ·exact(inn O h2 p2 hw hr2 hrh2 hup2).elim
 ·subst e2;have:=up O hw;rcases q3 with e|e
  ·subst e;omega
  ·omega
 ·exact(inn T h1 q2 D E F a6).elim
 ·exact G.one _ _ c O T m1 m2
 ·subst e2;exact absurd F (RV (by omega) n2 r E)
 ·subst e1;have:=up T D;rcases p3 with e|e
  ·subst e;omega
  ·omega
 ·subst e1;exact absurd hrh2 (RV (by omega) n1 r2 hr2)
 ·omega
theorem ShR.apart(h:WF S)(G:kZ S g){T:Nat}(hk:k<S.length)(F:ShR (dB S g) k i p)(hc:(c:Int) ∈ dB S g p)(D:(T:Int) ∈ dB S g p)(E:c≠T) :
  ∀ {j O z:Nat},ShR (dB S g) c j z->ShR (dB S g) T O z->False:=by
 have hP:=(ShR.facts h G hk F).1
 have first:∀ {a b j:Nat},(a:Int) ∈ dB S g p->(b:Int) ∈ dB S g p->a≠b->ShR (dB S g) b j a->False:=fun {a b j} ha hb Z hs=>by
  cases j with
  | zero=>exact Z hs
  | succ j =>
   obtain⟨y,I,a5⟩:=hs;have e:=ShR.one h G hk F (F.trans (ShR.front hb I)) ha a5;subst e;obtain⟨b', e,b1,_,_,b2⟩:=qF h G hP hb;have:b' = b:=(by omega);subst this;have:=(ShR.facts h G b1 I).2.1;omega
 intro j
 induction j with
 | zero =>
  intro O z h1 U;have:z=c:=h1;subst this;exact first hc D E U
 | succ j ih =>
  intro O z h1 U
  cases O with
  | zero =>
   have:z=T:=U;subst this;exact first D hc (Ne.symm E) h1
  | succ O =>
   obtain⟨y,I,a6⟩:=h1;obtain⟨y', J,M⟩:=U;have e:=ShR.one h G hk (F.trans (ShR.front hc I)) (F.trans (ShR.front D J)) a6 M;subst e;exact ih I J
theorem xI(h:WF S)(G:kZ S g):∀ {f p:Nat},p<S.length->∀ x ∈ fQ (dB S g) f p,∃ j q:Nat,x=q/\ShR (dB S g) p j q
 | 0,p,_,x,D=>⟨0,p,by simpa [fQ] using D,rfl⟩
 | f+1,p,F,x,D=>by
  simp only[fQ,List.mem_cons,List.mem_flatMap] at D;rcases D with rfl |⟨c,hc,D⟩
  ·exact⟨0,p,rfl,rfl⟩
  ·obtain⟨k,rfl,E,_⟩:=qF h G F hc;rw[yk] at D;obtain⟨j,q,e,I⟩:=xI h G E x D;exact⟨j+1,q,e,ShR.front hc I⟩
theorem Fv(h:WF S)(G:kZ S g)(D:p<S.length):(dB S g p).Nodup:=by
 unfold dB;split
 ·rename_i F;obtain⟨r,h1,E,_⟩:=rR S p F;rw[E,yk];exact h.kids_nodup h1
 ·split
  ·exact G.nodup p D
  ·exact h.kids_nodup D
theorem RX(h:WF S)(G:kZ S g)(M:k<S.length):∀ {f i p:Nat},ShR (dB S g) k i p->(fQ (dB S g) f p).Nodup
 | 0,_,p,_=>by simp[fQ]
 | f+1,i,p,hs=>by
  have E:=(ShR.facts h G M hs).1;simp only[fQ];rw[List.nodup_cons];refine⟨fun I=>?_,IY _ _ (Fv h G E) (fun x D=>?_) (fun x D y Z O z hz F=>?_)⟩
  ·obtain⟨x,D,I⟩:=List.mem_flatMap.1 I;obtain⟨c,rfl,hc,_,_,hv⟩:=qF h G E D;rw[yk] at I;obtain⟨j,q,e,T⟩:=xI h G hc _ I;have:q=p:=(by omega);subst this;have:=(ShR.facts h G hc T).2.1;omega
  ·obtain⟨c,rfl,hc,_⟩:=qF h G E D;rw[yk];exact RX h G M (i:=i+1) ⟨p,hs,D⟩
  ·obtain⟨c,rfl,hc,_⟩:=qF h G E D;obtain⟨c', rfl,J,_⟩:=qF h G E Z;rw[yk] at hz F;obtain⟨j,q,e,T⟩:=xI h G hc _ hz;obtain⟨j', q', e', U⟩:=xI h G J _ F;have:q=q' := by omega
   subst this;exact ShR.apart h G M hs D Z (fun e=>O (by rw[e])) T U
theorem Fw(h:WF S)(G:kZ S g)(D:k<S.length)(f:Nat):(fQ (dB S g) f k).length<=S.length:=by
 have h1:=RX h G D (f:=f) (i:=0) (p:=k) rfl
 have:=h1.length_le_of_subset (l₂:=(List.range S.length).map (fun i:Nat=>(i:Int))) (fun x F=>by
  obtain⟨j,q,rfl,E⟩:=xI h G D x F;exact List.mem_map.2 ⟨q,List.mem_range.2 (ShR.facts h G D E).1,rfl⟩)
 simpa using this
theorem SA(S:List Nd)(L:Nat):∀ l:List Int,l.length<=L->rQ S L l+3 ^ (L-l.length)<=3 ^ L
 | [],_=>by simp[rQ]
 | x :: r,hl=>by
  rw[List.length_cons] at hl;have D:=SA S L r (by omega);have hd:=RU (nd S x.toNat);rw[rQ,List.length_cons];rw[show L-r.length=(L-(r.length+1))+1 by omega,Nat.pow_succ] at D;rcases(show jZ (nd S x.toNat)=1\/jZ (nd S x.toNat)=2 by omega) with e|e <;> rw[e] <;> omega
theorem Fx(S:List Nd)(k:Nat):vF S k<3 ^ (S.length+2):=by
 have h1:=SA S (S.length+2) (iE S k) (by have:=RD S k;omega);have:0<3 ^ (S.length+2-(iE S k).length):=Nat.pow_pos (by omega);unfold vF;omega
theorem SB(h:WF S)(G:kZ S g):∀ {f p:Nat},p<S.length->3 ^ (S.length+2)<=vF S p+f->tY (dB S g) S.length f p
 | 0,p,_,hv=>by have:=Fx S p;omega
 | f+1,p,E,hv=>fun c hc=>by
  obtain⟨k,rfl,D,_,_,h1⟩:=qF h G E hc;rw[yk];exact⟨⟨by omega,by omega⟩,SB h G D (by omega)⟩
def xJ(S:List Nd):Nat:=3 ^ (S.length+2)
theorem Fy(h:WF S)(G:kZ S g)(D:p<S.length):tY (dB S g) S.length (xJ S) p:=SB h G D (by unfold xJ;omega)
def mD(S:List Nd)(mk:Int)(x:Int):Bool:=!decide ((nd S x.toNat).m=mk)
def iZ(S:List Nd)(H:Nat)(mk:Int):List Int:=flt (mD S mk) (nd S H).ks
theorem Fz(a:OA)(c:Nat)(S:List Nd)(H:Nat)(mk:Int)(w:Wd)(hH:H<S.length)(hl:(nd S H).ks.length<=1000)(hp:∀ y ∈ (nd S H).ks,∃ x:Nat,y=x/\x<S.length)(hS:aD w a S) :
  yO 223 #[.agg #[.slice a S.length c],.int .i64 (H:Int),.int .i64 mk] w fun e w' => ∃ v,e=.returned v/\Below w.heap.size w w' /\ w'.ownsRow w.heap.size 3 1 v (iZ S H mk).length ((iZ S H mk).map (Value.int .i64)):=by
 obtain⟨i0,b2,b8,b9,c6⟩:=info_parts info3;have HS:Hid (aD w a S):=hS;have R0:Hid (iZ S H mk=flt (mD S mk) (nd S H).ks):=(rfl:iZ S H mk=_);have PL:Hid (∀ y ∈ (nd S H).ks,∃ x:Nat,y=x/\x<S.length):=hp;obtain⟨a8,c7,b1,_,_,_,_,_,⟨ka,kc,c5,a6⟩,_,_⟩:=hS H hH;subst b1;have HI:Hid (aG w ka (nd S H).ks):=a6;clear hS hp a6;generalize iZ S H mk=a5 at *;generalize (nd S H).ks=P at *;obtain⟨m,hm⟩:∃ m,P.length=m:=⟨_,rfl⟩;have HM:Hid (P.length=m):=hm;rw[hm] at hl c5;obtain⟨n,hn⟩:∃ n,S.length=n:=⟨_,rfl⟩;have HN:Hid (S.length=n):=hn;rw[hn] at hH PL |-;have c9:(H:Int)<(n:Int):=by omega
 have d7:a8<w.heap.size:=yi _ _ c5;clear hn hm
 go_enter func223,ntmps223
 go_wp2_with fail
 go_loopg [7,17] m (fun g s7 s17 wr=>∃ (i:Nat) (l:List Int),i<=m/\m-i<=g/\s17=.int .i64 i/\l.length<=i/\Hid (Bl w wr)/\wr.cell? ⟨w.heap.size,0,none⟩=some (.slice (some ⟨a8,c7,none⟩) n c)/\w.heap.size+1<=wr.heap.size/\Hid (wr.ownsRow (w.heap.size+1) 3 1 s7 l.length (l.map (Value.int .i64)))/\Hid (l=flt (mD S mk) (P.take i)))
 case atStart=>exact⟨0,[],by omega,by omega,rfl,by simp,(yv _ _).alloc (yr _) _,by go_simp,by simp,World.ownsRow_nil _ _ _ _,(by simp[flt]:([]:List Int)=flt (mD S mk) (P.take 0))⟩
 case round =>
  obtain⟨i,l,hi,hg,rfl,b4,Z,cs,a7,I,HE⟩:=hrel;obtain⟨qa,qc,hv,_⟩:=uI I.o;subst hv;obtain⟨ln,T⟩:∃ y,l.length=y:=⟨_,rfl⟩;have D:Hid (l.length=ln):=T;rw[T] at I b4 |-;clear T;by_cases U:i<m
  ·obtain⟨y,hy,b7⟩:=PL.o (P.getD i 0) (by rw[aJ P 0 (by rw[HM.o];exact U)];exact List.getElem_mem _);obtain⟨pb,po,ep,b5⟩:=(HI.below Z) i (by rw[HM.o];exact U);subst ep;rw[hy] at b5;obtain⟨nb,no,ea,_,_,_,c3,_,_,_,_⟩:=(HS.below Z) y (by rw[HN.o];exact b7);cases ea;have d8:(y:Int)<(n:Int):=(by omega);have d6:(i:Int)<(m:Int):=by omega
   have NX:Hid (flt (mD S mk) (P.take (i+1))=l++(if (nd S y).m=mk then [(y:Int)] else [])):=by
    have e:=xB (mD S mk) P i (by rw[HM.o];exact U);rw[hy] at e;show flt _ _=_;rw[e,<- HE.o];unfold mD;rw[yk];by_cases h:(nd S y).m=mk <;> simp[h]
   clear HE hy c5;generalize (nd S y).m=hh at *;by_cases M:hh=mk
   ·subst M;have E2:Hid (l++[(y:Int)]=flt (mD S hh) (P.take (i+1))):=(by rw[NX.o,ye rfl]:l++[(y:Int)]=flt (mD S hh) (P.take (i+1)));have OB:Hid (∀ k,(Value.slice qa ln qc).ownBlock=some k->w.heap.size+1<=k):=fun k hk=>(I.lt k hk).1;have c8:ln<=1000:=(by omega);clear NX
    go_wp2_with (at_builtin;refine wpList_append_own _ rfl _ _ 48 rfl (w.heap.size+1) 3 i0 (.int .i64 0) 1 8 underlying48 b2 b8 b9 c6 rfl (by decide) _ _ _ rfl (I.alloc _) ⟨wr.heap.size,0,none⟩ 1 1 [.int .i64 (y:Int)] rfl rfl ?c1 ?c2 ?c3 ?c4 ?c5 ?_)
    case c2=>first|rfl|(intro u hu;simp at hu;subst hu;rfl)|simp
    case c3=>unfold maxLen;omega
    case c4=>omega
    case c5=>first|omega|(simp;omega)
    case c1=>first|(go_simp;done)|(intro j u hj;match j,hj with|0,hj=>(cases hj;go_simp)|(j+1),hj=>simp at hj)
    intro v' w2 F E _;have J:Below (w.heap.size+1) wr w2:=((yv _ wr).alloc (by omega) _).grown E (by simp;omega) (fun k hk=>OB.o k hk);have a9:Hid (Bl w w2):=Z.trans (J.mono (by omega));have b0:=(J.cell (p:=⟨w.heap.size,0,none⟩) (by show w.heap.size < _;omega)).trans cs
    have O:Hid (w2.ownsRow (w.heap.size+1) 3 1 v' (l++[(y:Int)]).length ((l++[(y:Int)]).map (Value.int .i64))):=by
     have h2:=F;rw[show (l++[(y:Int)]).length=ln+1 by simp[D.o],List.map_append];exact h2
    have b6:w.heap.size+1<=w2.heap.size:=yJ a7 J.size;clear F E J cs I
    go_wp2_with fail
    go_roundg (m-(i+1))
    case measure=>omega
    case rel=>exact⟨i+1,l++[(y:Int)],by omega,by omega,by go_num,by simp[D.o];omega,a9,b0,b6,O,E2⟩
   ·have d4:(hh == mk)=false:=beq_eq_false_iff_ne.2 M;have d5:decide (hh=mk)=false:=yH M;have E2:Hid (l=flt (mD S mk) (P.take (i+1))):=(by rw[NX.o,yd M];simp:l=flt (mD S mk) (P.take (i+1)));have O:Hid (wr.ownsRow (w.heap.size+1) 3 1 (.slice qa ln qc) l.length (l.map (Value.int .i64))):=(by rw[D.o];exact I.o:wr.ownsRow (w.heap.size+1) 3 1 (.slice qa ln qc) l.length (l.map (Value.int .i64)));clear NX I
    go_wp2
    go_roundg (m-(i+1))
    case measure=>omega
    case rel=>exact⟨i+1,l,by omega,by omega,by go_num,by rw[D.o];omega,Z,cs,a7,O,E2⟩
  ·have b3:i=m:=(by omega);subst b3;have e:=HE.o;rw[List.take_of_length_le (by rw[HM.o];omega),<- R0.o] at e
   have OW:Hid (wr.ownsRow w.heap.size 3 1 (.slice qa ln qc) a5.length (a5.map (Value.int .i64))):=by
    have h2:=JE I.o (show w.heap.size<=w.heap.size+1 by omega);rw[<- D.o,e] at h2;rw[<- D.o,e];exact h2
   clear HE e I
   go_wp2
   go_ret;exact⟨_,rfl,Z.o,OW.o⟩
theorem Ho{l:List Nat}(h:l.Nodup)(hl:∀ y ∈ l,y<N):l.length<=N:=by
 have:=h.length_le_of_subset (l₂:=List.range N) (fun y D=>List.mem_range.2 (hl y D));simpa using this
structure Cl where
 n:Int
 ks:List Int
 deriving DecidableEq
def TC:Cl:=⟨0,[]⟩
def cl(G:List Cl)(i:Nat):Cl:=G.getD i TC
theorem kC(h:i<G.length):cl G i=G[i]:=aJ G TC h
theorem Hq{H:List Cl}(hl:G.length=H.length)(h:∀ i,i<G.length->cl G i=cl H i):G=H:=by
 apply List.ext_getElem hl;intro i h1 D;have:=h i h1
 rwa [kC h1,kC D] at this
def iF(m:Nat)(x:Cl):Int:=if x.n < -1000000\/1000000<x.n then 2 else if 8<x.ks.length then 1 else if x.ks.any (fun k=>!decide (0<=k/\k<=(m:Int)-1)) then 4 else 0
def cellsE(m:Nat):List Cl->Int
 | []=>0
 | x :: l=>if iF m x=0 then cellsE m l else iF m x
def bring(T:List Int)(k:Int):List Int:=if k ∈ T then T else T++[k]
def brings(T ks:List Int):List Int:=ks.foldl bring T
def bfs(G:List Cl):Nat->List Int
 | 0=>[0]
 | i+1=>if i<(bfs G i).length then brings (bfs G i) (cl G ((bfs G i).getD i 0).toNat).ks else bfs G i
def at1(T:List Int)(k:Int):Int:=(T.idxOf k:Int)
def uL(G:List Cl)(T:List Int)(k:Int):Cl:=⟨(cl G k.toNat).n,(cl G k.toNat).ks.map (at1 T)⟩
def reach(G:List Cl):List Int:=bfs G G.length
def bL(G:List Cl):List Cl:=if G.length=0 then [] else (reach G).map (uL G (reach G))
def kD(G:List Cl):Prop:=∀ i,i<G.length->∀ k ∈ (cl G i).ks,∃ q:Nat,k=q/\q<G.length
def rU(m:Nat)(T:List Int):Prop:=T.Nodup/\∀ k ∈ T,∃ q:Nat,k=q/\q<m
theorem TE(T:List Int)(k:Int):∃ r,bring T k=T++r:=by
 unfold bring;split
 ·exact⟨[],by simp⟩
 ·exact⟨[k],rfl⟩
theorem TF:∀ (ks T:List Int),∃ r,brings T ks=T++r
 | [],T=>⟨[],by simp[brings]⟩
 | k :: ks,T=>by
  obtain⟨r1,h1⟩:=TE T k;obtain⟨r2,D⟩:=TF ks (bring T k);exact⟨r1++r2,by show brings (bring T k) ks=_;rw[D,h1,List.append_assoc]⟩
theorem Hr(T ks:List Int)(k:Int):brings T (ks++[k])=bring (brings T ks) k:=by simp[brings]
theorem Ht{k:Int}(h:rU m T)(D:∃ q:Nat,k=q/\q<m):rU m (bring T k):=by
 unfold bring;split
 ·exact h
 ·rename_i hn;refine⟨?_,fun x E=>?_⟩
  ·rw[List.nodup_append];exact⟨h.1,by simp,fun a ha b hb e=>by simp at hb;subst hb;subst e;exact hn ha⟩
  ·rcases List.mem_append.1 E with h1|h1
   ·exact h.2 x h1
   ·simp at h1;subst h1;exact D
theorem TG:∀ (ks:List Int) {T:List Int},rU m T->(∀ k ∈ ks,∃ q:Nat,k=q/\q<m)->rU m (brings T ks)
 | [],_,h,_=>h
 | k :: ks,T,h,D=>TG ks (Ht h (D k (by simp))) (fun x E=>D x (by simp[E]))
theorem BO:∀ (ks:List Int) (T:List Int) (x:Int),x ∈ brings T ks↔x ∈ T\/x ∈ ks
 | [],T,x=>by simp[brings]
 | k :: ks,T,x=>by
  show x ∈ brings (bring T k) ks↔_;rw[BO ks]
  have:x ∈ bring T k↔x ∈ T\/x=k:=by
   unfold bring;split
   ·rename_i h;exact⟨Or.inl,fun h1=>h1.elim id (fun e=>by rw[e];exact h)⟩
   ·simp
  rw[this];simp[or_assoc]
theorem JK{r:List Int}{k:Int}(h:k ∈ T):at1 (T++r) k=at1 T k:=by
 unfold at1;rw[List.idxOf_append,ye h]
theorem TH{k:Int}(h:k ∉ T):at1 (T++[k]) k=T.length:=by
 unfold at1;rw[List.idxOf_append,yd h];simp
theorem Hu{k:Int}(h:k ∈ T):(at1 T k).toNat<T.length/\T.getD (at1 T k).toNat 0=k:=by
 unfold at1;have h1:=List.idxOf_lt_length_of_mem h;rw[yk];exact⟨h1,by rw[aJ _ _ h1];exact List.getElem_idxOf h1⟩
theorem BQ(h:rU m T):T.length<=m:=by
 have h1:(T.map Int.toNat).Nodup:=by
  rw[List.nodup_iff_pairwise_ne,List.pairwise_map];refine(List.nodup_iff_pairwise_ne.1 h.1).imp_of_mem (fun {a b} ha hb D e=>D ?_);obtain⟨q,J,_⟩:=h.2 a ha;obtain⟨U,M,_⟩:=h.2 b hb;omega
 have E:=Ho (N:=m) h1 (fun y I=>by
  obtain⟨x,F,rfl⟩:=List.mem_map.1 I;obtain⟨q,e,O⟩:=h.2 x F
  omega)
 rwa [List.length_map] at E
theorem TI(G:List Cl)(i:Nat):∃ r,bfs G (i+1)=bfs G i++r:=by
 rw[bfs];split
 ·exact TF _ _
 ·exact⟨[],by simp⟩
theorem TJ(G:List Cl)(i:Nat):∀ j,∃ r,bfs G (i+j)=bfs G i++r
 | 0=>⟨[],by simp⟩
 | j+1=>by
  obtain⟨r,h⟩:=TJ G i j;obtain⟨E,D⟩:=TI G (i+j);exact⟨r++E,by rw[show i+(j+1)=i+j+1 by omega,D,h,List.append_assoc]⟩
theorem uM(E:kD G)(h0:0<G.length):∀ i,rU G.length (bfs G i)
 | 0=>⟨by simp[bfs],fun k F=>⟨0,by simpa [bfs] using F,h0⟩⟩
 | i+1=>by
  have D:=uM E h0 i;rw[bfs];split
  ·rename_i hi;refine TG _ D ?_;obtain⟨q,e,I⟩:=D.2 ((bfs G i).getD i 0) (by rw[aJ _ _ hi];exact List.getElem_mem hi);rw[e,yk];exact E q I
  ·exact D
theorem BU(h:¬ i<(bfs G i).length):∀ j,bfs G (i+j)=bfs G i
 | 0=>rfl
 | j+1=>by
  have D:=BU h j;rw[show i+(j+1)=i+j+1 by omega,bfs,D,yd (by omega)]
theorem TM(E:kD G)(h0:0<G.length)(h:¬ i<(bfs G i).length):bfs G i=reach G:=by
 unfold reach;rcases Nat.le_total i G.length with h1|h1
 ·have:=BU h (G.length-i);rw[show i+(G.length-i)=G.length by omega] at this;exact this.symm
 ·have D:¬ G.length<(bfs G G.length).length:=by have:=BQ (uM E h0 G.length);omega
  have:=BU D (i-G.length);rw[show G.length+(i-G.length)=i by omega] at this;exact this
theorem TS(D:kD G)(h0:0<G.length):rU G.length (reach G):=uM D h0 _
theorem Hw(D:kD G)(h0:0<G.length):(reach G).length<=G.length:=BQ (TS D h0)
theorem BX(E:kD G)(h0:0<G.length)(i:Nat):∃ r,reach G=bfs G i++r:=by
 rcases Nat.le_total i G.length with h1|h1
 ·have:=TJ G i (G.length-i);rw[show i+(G.length-i)=G.length by omega] at this;exact this
 ·have D:¬ G.length<(bfs G G.length).length:=by have:=BQ (uM E h0 G.length);omega
  have:=BU D (i-G.length);rw[show G.length+(i-G.length)=i by omega] at this;exact⟨[],by rw[this];simp[reach]⟩
theorem Hy(D:kD G)(h0:0<G.length)(i:Nat):(bfs G i).length<=G.length:=BQ (uM D h0 i)
theorem Hz(E:kD G)(h0:0<G.length)(hi:i<(reach G).length){k:Int}(I:k ∈ (cl G ((reach G).getD i 0).toNat).ks):k ∈ reach G:=by
 obtain⟨r,J⟩:=BX E h0 i;obtain⟨M,F⟩:=BX E h0 (i+1)
 have D:i<(bfs G i).length:=by
  by_cases h:i<(bfs G i).length
  ·exact h
  ·have:=TM E h0 h;rw[this] at h;exact absurd hi h
 have e:(reach G).getD i 0=(bfs G i).getD i 0:=by
  rw[J,aJ _ _ (by simp;omega),aJ _ _ D,List.getElem_append_left D]
 rw[F,bfs,ye D];refine List.mem_append_left _ ?_;rw[BO];rw[e] at I;exact Or.inr I
theorem xK(h0:0<G.length):(bL G).length=(reach G).length:=by
 unfold bL;rw[yd (by omega),List.length_map]
theorem JL(h0:0<G.length)(hi:i<(reach G).length):cl (bL G) i=uL G (reach G) ((reach G).getD i 0):=by
 rw[kC (by rw[xK h0];exact hi),aJ _ _ hi];unfold bL;simp[show ¬ G.length=0 by omega]
theorem JM(h0:G.length=0):bL G=[]:=by unfold bL;rw[ye h0]
theorem Ia(E:kD G):kD (bL G):=by
 by_cases h0:G.length=0
 ·rw[JM h0];intro i hi;cases hi
 ·have h0:0<G.length:=by omega
  intro i hi k D;rw[xK h0] at hi |-;rw[JL h0 hi] at D;obtain⟨x,F,rfl⟩:=List.mem_map.1 D;have:=Hu (Hz E h0 hi F);refine⟨(at1 (reach G) x).toNat,?_,this.1⟩;unfold at1;simp
