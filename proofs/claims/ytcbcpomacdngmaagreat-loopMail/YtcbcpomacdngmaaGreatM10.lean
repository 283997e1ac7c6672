/-
  x
-/
import Derived.Test.YtcbcpomacdngmaaGreatM9
import Derived.BigRegion
namespace Go.Proofs.YtcbcpomacdngmaaGreat
set_option maxRecDepth 100000
set_option maxHeartbeats 4000000
set_option linter.unusedVariables false
open Go.RowKit
def zcV(x:Nd):Nd:=⟨false,x.n,0,0,-1,[],-1,false⟩
def zfX(S:List Nd)(k:Nat):Prop:=zak (nd S k) = -1/\(nd S k).ks=[]/\zfj S k=false
theorem WF.like{S A:List Nd}(h:WF S)(hl:A.length=S.length)(hn:∀ i,i<S.length->zfp S.length (nd A i)=0)
  (hs:∀ i,i<S.length->(nd A i).p=(nd S i).p/\(nd A i).ks=(nd S i).ks/\(nd A i).h=(nd S i).h)
  (T:∀ i,i<S.length->(nd S i).u=true->(nd A i).u=true\/∀ j,j<S.length->(i:Int) ∉ (nd S j).ks/\(nd S j).h≠i):WF A:=by
 refine⟨by rw[hl];exact h.small,fun i hi=>by rw[hl] at hi |-;exact hn i hi,zfk (fun i hi=>?_) (fun i hi x I=>?_) (fun j F D=>?_),fun i hi=>?_,fun i hi=>?_⟩
 ·rw[hl] at hi;rw[(hs i hi).2.1];exact h.kids_nodup hi
 ·rw[hl] at hi |-;rw[(hs i hi).2.1] at I;obtain⟨k,rfl,J,k2,k3,_⟩:=h.kid hi I;refine⟨k,rfl,J,?_,by rw[(hs k J).1];exact k3⟩;rcases T k J k2 with g|g
  ·exact g
  ·exact absurd I (g i hi).1
 ·rw[hl] at F |-;rw[(hs j F).1] at D;obtain⟨i,i1,i2,_,i3,_⟩:=h.parent_place F D;exact⟨i,i2,by rw[(hs i i2).2.1];exact i3⟩
 ·rw[hl] at hi;intro hh;rw[(hs i hi).2.2] at hh |-;obtain⟨g1,g2⟩:=h.hosts i hi hh;have M:=(zha (zhb (h.node i hi))).2.1;obtain⟨q,O⟩:∃ q:Nat,(nd S i).h=(q:Int):=⟨(nd S i).h.toNat,by omega⟩;refine⟨?_,fun Z E=>by rw[(hs Z (by omega)).2.2];exact g2 Z E⟩;rw[O,yi] at g1 |-;rcases T q (by omega) g1 with g|g
  ·exact g
  ·exact absurd O (g i hi).2
 ·rw[hl] at hi
  cases M:zbv A i i with
  | false=>rfl
  | true =>
   obtain⟨j,j1,j2,j3⟩:=zfQ (by rw[hl];exact hi) M;rw[hl] at j2;exact absurd (zlZ hl (fun y U z e=>by unfold zak at e |-;rw[(hs y U).1,(hs y U).2.2] at e;exact e) hi j3) (h.no_ring hi j1 j2)
theorem WF.unused{S:List Nd}(h:WF S){k:Nat}(E:k<S.length)(F:(nd S k).u=false):(nd S k).t=0/\(nd S k).m=0/\(nd S k).p = -1/\(nd S k).ks=[]/\(nd S k).h = -1/\(nd S k).c=false:=by
 have D:=(zbj (h.node k E)).2.2;unfold zec at D;rw[F] at D;exact of_decide_eq_true D
theorem WF.uses{S:List Nd}(h:WF S){k:Nat}(E:k<S.length):0<=(nd S k).n/\(nd S k).n<=1000000/\((nd S k).u=true->1<=(nd S k).n):=by
 obtain⟨h1,_,D⟩:=zbj (h.node k E);unfold zcT at h1;simp only[Bool.and_eq_true,decide_eq_true_eq] at h1;refine⟨h1.1.1,h1.1.2,fun F=>?_⟩;unfold zec at D;rw[yb F] at D;by_cases e:(nd S k).n=0
 ·rw[yb e] at D;cases D
 ·have:=h1.1.1;omega
theorem zfG{x:Nd}(h:zcn x=true):x.u=false/\x.n<1000000:=by
 unfold zcn at h;simpa using h
theorem WF.make{S:List Nd}(h:WF S){k:Nat}{t:Int}(D:k<S.length)(M:zcn (nd S k)=true)(F:0<=t)(I:t<=99):WF (S.set k (zbQ (nd S k) t)):=by
 obtain⟨O,hn⟩:=zfG M;obtain⟨q1,J,q3,q4,q5,q6⟩:=h.unused D O;obtain⟨n0,n1,_⟩:=h.uses D;refine h.like (by simp) (fun i hi=>?_) (fun i hi=>?_) (fun i hi E=>?_)
 ·rw[zcR S k i _ D];split
  ·rename_i e;subst e;obtain⟨r1,r2,r3⟩:=zbj (h.node i hi);obtain⟨T,U,Z⟩:=zeI r2;refine zgt ?_ (zeH T U Z) ?_
   ·unfold zcT zbQ;simp only[Bool.and_eq_true,decide_eq_true_eq];exact⟨⟨by omega,by omega⟩,⟨F,I⟩,by rw[J];omega,by rw[J];omega⟩
   ·unfold zec zbQ;simp only[if_true];rw[ya (by omega),yb q5,q6];rfl
  ·exact h.node i hi
 ·rw[zcR S k i _ D];split
  ·rename_i e;subst e;exact⟨rfl,rfl,rfl⟩
  ·exact⟨rfl,rfl,rfl⟩
 ·rw[zcR S k i _ D];split
  ·exact Or.inl rfl
  ·exact Or.inl E
theorem zou{S:List Nd}{k:Nat}(h:zfX S k):(nd S k).p = -1/\(nd S k).h = -1/\(nd S k).ks=[]/\∀ j,j<S.length->(nd S j).h≠k:=by
 obtain⟨h1,D,E⟩:=h;unfold zak at h1;by_cases e:(nd S k).h = -1
 ·rw[yb e] at h1;exact⟨h1,e,D,zgn.1 E⟩
 ·rw[ya e] at h1;exact absurd h1 e
theorem WF.free{S:List Nd}(h:WF S){k:Nat}(D:k<S.length)(O:zfX S k):WF (S.set k (zcV (nd S k))):=by
 obtain⟨J,hh,F,M⟩:=zou O;obtain⟨U,Z,_⟩:=h.uses D;refine h.like (by simp) (fun i hi=>?_) (fun i hi=>?_) (fun i hi E=>?_)
 ·rw[zcR S k i _ D];split
  ·rename_i e;subst e;refine zgt ?_ (zeH ?_ ?_ (fun y T=>absurd T (by simp[zcV]))) ?_
   ·unfold zcT zcV;simp only[Bool.and_eq_true,decide_eq_true_eq];exact⟨⟨U,Z⟩,by omega,by omega⟩
   ·unfold zcV zlJ;exact yF ⟨by dsimp only;omega,by dsimp only;omega⟩
   ·unfold zcV zlJ;exact yF ⟨by dsimp only;omega,by dsimp only;omega⟩
   ·unfold zec zcV;simp
  ·exact h.node i hi
 ·rw[zcR S k i _ D];split
  ·rename_i e;subst e;exact⟨J.symm,F.symm,hh.symm⟩
  ·exact⟨rfl,rfl,rfl⟩
 ·by_cases e:i=k
  ·subst e;exact Or.inr (fun j I=>⟨h.not_kid J I,M j I⟩)
  ·rw[zcR S k i _ D,ya e];exact Or.inl E
theorem zAj(n:Nat)(hn:n<=24):WF (List.replicate n zbe):=by
 have D:∀ i,i<n->nd (List.replicate n zbe) i=zbe:=fun i hi=>zfo n i _ hi;have hl:(List.replicate n zbe).length=n:=by simp
 refine⟨by rw[hl];exact hn,fun i hi=>?_,zfk (fun i hi=>?_) (fun i hi x I=>?_) (fun j F E=>?_),fun i hi=>?_,fun i hi=>?_⟩
 ·rw[hl] at hi |-;rw[D i hi];refine zgt (by decide) (zeH ?_ ?_ (fun y O=>absurd O (by simp[zbe]))) (by decide)
  ·unfold zbe zlJ;exact yF ⟨by dsimp only;omega,by dsimp only;omega⟩
  ·unfold zbe zlJ;exact yF ⟨by dsimp only;omega,by dsimp only;omega⟩
 ·rw[hl] at hi;rw[D i hi];exact List.nodup_nil
 ·rw[hl] at hi;rw[D i hi] at I;cases I
 ·rw[hl] at F;rw[D j F] at E;exact absurd rfl E
 ·rw[hl] at hi;intro hh;rw[D i hi] at hh;exact absurd rfl hh
 ·cases hb:zbv (List.replicate n zbe) i i with
  | false=>rfl
  | true =>
   obtain⟨j,U,Z,T⟩:=zfQ hi hb;obtain⟨M,rfl⟩:∃ M,j=M+1:=⟨j-1,by omega⟩;obtain⟨z,_,J,_⟩:=T;rw[hl] at hi;rw[D i hi] at J;have:(-1:Int)=(z:Int):=J;omega
def zhC(S:List Nd):Nat->Int->List Int
 | 0,_=>[]
 | f+1,x=>if zie S.length x then x :: zhC S f (zak (nd S x.toNat)) else []
def zeY(S:List Nd)(k:Nat):List Int:=(k:Int) :: zhC S S.length (zak (nd S k))
theorem zpp(S:List Nd):∀ (f:Nat) (x:Int),(zhC S f x).length<=f
 | 0,_=>by simp[zhC]
 | f+1,x=>by
  simp only[zhC];split
  ·have:=zpp S f (zak (nd S x.toNat));simp;omega
  ·simp
theorem zpA(S:List Nd)(k:Nat):(zeY S k).length<=S.length+1:=by
 have:=zpp S S.length (zak (nd S k));unfold zeY;simp;omega
theorem zvZ{N k:Nat}:zie N (k:Int)=true↔k<N:=by
 unfold zie;rw[decide_eq_true_eq];omega
theorem zmU{S:List Nd}:∀ {f:Nat} {x:Int},(∀ (D j z:Nat),x=D->D<S.length->Up S j D z->j<f)->zhC S (f+1) x=zhC S f x
 | 0,x,h=>by
  simp only[zhC];split
  ·rename_i E;have F:0<=x/\x<=(S.length:Int)-1:=of_decide_eq_true E;obtain⟨D,rfl⟩:∃ D:Nat,x=D:=⟨x.toNat,by omega⟩;exact absurd (h D 0 D rfl (by omega) rfl) (by omega)
  ·rfl
 | f+1,x,h=>by
  rw[zhC]
  conv=>rhs;rw[zhC]
  split
  ·rename_i E;have F:0<=x/\x<=(S.length:Int)-1:=of_decide_eq_true E;obtain⟨D,rfl⟩:∃ D:Nat,x=D:=⟨x.toNat,by omega⟩;rw[yi];rw[zmU (fun M j z e J I=>?_)];have:=h D (j+1) z rfl (by omega) ⟨M,J,e,I⟩;omega
  ·rfl
theorem WF.path_up{S:List Nd}(h:WF S){k q:Nat}(I:k<S.length)(J:q<S.length)(E:zak (nd S k)=q):zeY S k=(k:Int) :: zeY S q:=by
 unfold zeY;rw[E]
 congr 1
 obtain⟨N,D⟩:∃ N,S.length=N+1:=⟨S.length-1,by omega⟩
 have F:zhC S S.length (q:Int)=(q:Int) :: zhC S N (zak (nd S q)):=by
  rw[D,zhC,D,yb (zvZ.2 (by omega)),yi]
 rw[F,D]
 congr 1
 rw[zmU];intro T j z e O M;have:=h.up_short I (j:=j+2) (z:=z) ⟨q,J,E,⟨T,O,e,M⟩⟩;omega
theorem zta{W:World}{B:Nat}{v:Value}{p E x F q qu:Int}(h:W.ownsRow B 61 2 v 3 ([.int .i64 p,.int .i64 E,.int .i64 x,.int .i64 F] ++ [.int .i64 q,.int .i64 qu])):∃ ha hc,v=.slice ha 3 hc/\zaw W ha [(p,E),(x,F),(q,qu)]:=by
 obtain⟨_,h⟩:=h;rcases h with ⟨_,h⟩ |⟨g,cap,D,rfl,_,hg,h1,M,O,I⟩
 ·omega
 ·refine⟨_,_,rfl,fun i hi=>?_⟩
  have hc:∀ j u,([.int .i64 p,.int .i64 E,.int .i64 x,.int .i64 F,.int .i64 q,.int .i64 qu]:List Value)[j]?=some u->j<6->W.cell? ⟨g,j,none⟩=some u:=fun j u J hl=>by
   have h5:(D.toList.take (3*2))[j]?=some u:=(by rw[I];simpa using J);rw[List.getElem?_take,yb (by omega)] at h5;simp only[World.cell?,hg];simpa using h5
  match i,hi with
  | 0,_=>exact⟨g,0,rfl,hc 0 _ rfl (by omega),hc 1 _ rfl (by omega)⟩
  | 1,_=>exact⟨g,0,rfl,hc 2 _ rfl (by omega),hc 3 _ rfl (by omega)⟩
  | 2,_=>exact⟨g,0,rfl,hc 4 _ rfl (by omega),hc 5 _ rfl (by omega)⟩
def SK:Nat->List Nd
 | 0=>List.replicate 6 zbe
 | k+1=>(SK k).set k (zbQ (nd (SK k) k) k)
def S4:List Nd:=zbo (SK 3) 0 1 0
theorem heap_drew(X:World):X.drew.heap=X.heap:=rfl
structure Tst where
 t:Int
 m:Int
 near:Bool
def zwX(T M:Int)(x:Nd):Bool:=(decide (T = -1000001) || decide (T=x.t)) && (decide (M = -1000001) || decide (M=x.m))
def zbn(near:Bool):(Nat->Bool) × List Int->Int->((Nat->Bool) × List Int) × Bool:=fun st x =>
 if st.1 x.toNat then (st,false) else ((fun j=>if j=x.toNat then true else st.1 j,st.2++[x]),!near)
theorem zdP{near:Bool}{st:(Nat->Bool) × List Int}{y:Nat}(h:st.1 y=true):zbn near st (y:Int)=(st,false):=by
 unfold zbn;rw[yi,yb h]
theorem zev{near:Bool}{st:(Nat->Bool) × List Int}{y:Nat}(h:st.1 y=false):zbn near st (y:Int)=((fun j=>if j=y then true else st.1 j,st.2++[(y:Int)]),!near):=by
 unfold zbn;rw[yi,ya (by rw[h];exact Bool.false_ne_true)]
def zgK(S:List Nd)(near:Bool)(st:(Nat->Bool) × List Int)(place:Int):(Nat->Bool) × List Int :=
 if zie S.length place then zbF S Nd.p (zbn near) S.length (nd S place.toNat).p st else st
def zdO(S:List Nd)(near:Bool)(places:List Int):(Nat->Bool) × List Int:=places.foldl (zgK S near) (fun _=>false,[])
def zcP(S:List Nd)(near:Bool)(places:List Int):List Int:=(zdO S near places).2
theorem zml(S:List Nd)(near:Bool)(places:List Int)(k:Nat)(h:k<places.length):zdO S near (places.take (k+1))=zgK S near (zdO S near (places.take k)) (places.getD k 0):=by
 unfold zdO;rw[List.take_add_one,List.foldl_append,List.getElem?_eq_getElem h,zae places 0 h];rfl
def zgA(S:List Nd)(te:Tst)(ps:List Int):List Int:=flt (fun x=>!zwX te.t te.m (nd S x.toNat)) ps
def zrC(S:List Nd):List Tst->List Int->List Int
 | [],ps=>ps
 | [te],ps=>zgA S te ps
 | te :: D :: r,ps=>zrC S (D :: r) (zcP S te.near (zgA S te ps))
def zeE(S:List Nd)(place:Int)(q:List Tst):Bool:=decide (0<(zrC S q.reverse [place]).length)
def PUp(S:List Nd):Nat->Nat->Nat->Prop
 | 0,x,p=>x=p
 | j+1,x,p=>∃ y:Nat,y<S.length/\(nd S x).p=y/\PUp S j y p
theorem PUp.up{S:List Nd}(h:WF S):∀ {j x y:Nat},x<S.length->PUp S j x y->Up S j x y
 | 0,_,_,_,F=>F
 | j+1,x,y,I,⟨z,h1,D,E⟩=>by
  refine⟨z,h1,?_,PUp.up h h1 E⟩;unfold zak;rw[yb (h.host_of_parent I (by omega)).1];exact D
structure Con (S:List Nd) (st:(Nat->Bool) × List Int):Prop where
 mem:∀ x ∈ st.2,∃ k:Nat,x=k/\k<S.length/\st.1 k=true
 all:∀ k,st.1 k=true->k<S.length/\(k:Int) ∈ st.2
theorem Con.iff{S:List Nd}{st:(Nat->Bool) × List Int}(h:Con S st)(k:Nat):(k:Int) ∈ st.2↔st.1 k=true:=by
 constructor
 ·intro D;obtain⟨k', e,_,hs⟩:=h.mem _ D;have:k' = k:=by omega
  rw[<- this];exact hs
 ·intro hs;exact(h.all k hs).2
theorem Con.add{S:List Nd}{st:(Nat->Bool) × List Int}(h:Con S st){k:Nat}(I:k<S.length):Con S (fun j=>if j=k then true else st.1 j,st.2++[(k:Int)]):=by
 refine⟨fun x D=>?_,fun j F=>?_⟩
 ·rcases List.mem_append.1 D with D|D
  ·obtain⟨i,e,h1,E⟩:=h.mem x D;refine⟨i,e,h1,?_⟩;dsimp only;split
   ·rfl
   ·exact E
  ·exact⟨k,by simpa using D,I,yb rfl⟩
 ·dsimp only at F
  split at F
  ·rename_i e;subst e;exact⟨I,by simp⟩
  ·obtain⟨h1,E⟩:=h.all j F;exact⟨h1,List.mem_append.2 (Or.inl E)⟩
def ClU(S:List Nd)(st:(Nat->Bool) × List Int)(y:Int):Prop:=∀ a,st.1 a=true->∀ b:Nat,(nd S a).p=b->b<S.length->st.1 b=true\/(b:Int)=y
theorem ClU.up{S:List Nd}{st:(Nat->Bool) × List Int}(h:∀ a,st.1 a=true->∀ b:Nat,(nd S a).p=b->b<S.length->st.1 b=true):∀ {j x z:Nat},st.1 x=true->PUp S j x z->st.1 z=true
 | 0,_,_,D,I=>by cases I;exact D
 | _+1,_,_,D,⟨y,h1,E,F⟩=>ClU.up h (h _ D y E h1) F
theorem zmu{S:List Nd}:∀ (f:Nat) (y:Int) (st:(Nat->Bool) × List Int),Con S st->ClU S st y->(∀ D:Nat,y=D->D<S.length->∀ j z,PUp S j D z->j<f) ->
  Con S (zbF S Nd.p (zbn false) f y st)/\(∀ a,(zbF S Nd.p (zbn false) f y st).1 a=true->∀ b:Nat,(nd S a).p=b->b<S.length->(zbF S Nd.p (zbn false) f y st).1 b=true) /\
  ∀ z,(zbF S Nd.p (zbn false) f y st).1 z=true↔st.1 z=true\/∃ (D j:Nat),y=D/\D<S.length/\PUp S j D z
 | 0,y,st,hc,F,hf=>by
  have hn:∀ D:Nat,y=D->¬ D<S.length:=fun D e Z=>by have:=hf D e Z 0 D rfl;omega
  refine⟨hc,fun a ha b J E=>?_,fun z=>⟨Or.inl,fun h=>?_⟩⟩
  ·rcases F a ha b J E with h|h
   ·exact h
   ·exact absurd E (hn b h.symm)
  ·rcases h with h |⟨D,j,e,Z,_⟩
   ·exact h
   ·exact absurd Z (hn D e)
 | f+1,y,st,hc,F,hf=>by
  simp only[zbF];by_cases hp:zie S.length y=true
  ·have hq:0<=y/\y<=(S.length:Int)-1:=of_decide_eq_true hp;obtain⟨D,rfl⟩:∃ k:Nat,y=(k:Int):=⟨y.toNat,by omega⟩;have I:D<S.length:=(by omega);rw[yb hp]
   cases hs:st.1 D with
   | true =>
    rw[zdP hs];simp only[Bool.false_eq_true,if_false]
    have M:∀ a,st.1 a=true->∀ b:Nat,(nd S a).p=b->b<S.length->st.1 b=true:=fun a ha b J E=>by
     rcases F a ha b J E with h|h
     ·exact h
     ·have:b=D:=(by omega);rw[this];exact hs
    refine⟨hc,M,fun z=>⟨Or.inl,fun h=>?_⟩⟩;rcases h with h |⟨U,j,e,_,O⟩
    ·exact h
    ·have:U=D:=(by omega);subst this;exact ClU.up M hs O
   | false =>
    rw[zev hs];simp only[Bool.not_false,if_true,yi]
    obtain⟨g1,g2,g3⟩:=zmu f (nd S D).p (fun j=>if j=D then true else st.1 j,st.2++[(D:Int)]) (hc.add I) (fun a ha b J E=>by
     dsimp only at ha |-;by_cases e:a=D
     ·subst e;exact Or.inr J.symm
     ·rw[ya e] at ha;rcases F a ha b J E with h|h
      ·left;split
       ·rfl
       ·exact h
      ·left;rw[yb (by omega)]) (fun U e T j z O=>by
     have:=hf D rfl I (j+1) z ⟨U,T,e,O⟩
     omega)
    refine⟨g1,g2,fun z=>?_⟩;rw[g3 z];dsimp only;constructor
    ·rintro(h |⟨U,j,e,T,O⟩)
     ·by_cases ez:z=D
      ·exact Or.inr ⟨D,0,rfl,I,ez.symm⟩
      ·rw[ya ez] at h;exact Or.inl h
     ·exact Or.inr ⟨D,j+1,rfl,I,⟨U,T,e,O⟩⟩
    ·rintro(h |⟨U,j,e,_,O⟩)
     ·left;split
      ·rfl
      ·exact h
     ·have:U=D:=(by omega);subst this
      cases j with
      | zero=>left;rw[yb O.symm]
      | succ j =>
       obtain⟨y2,h1,h2,h3⟩:=O;exact Or.inr ⟨y2,j,h2,h1,h3⟩
  ·rw[ya hp];have hn:∀ D:Nat,y=D->¬ D<S.length:=fun D e Z=>hp (yF ⟨by omega,by omega⟩);refine⟨hc,fun a ha b J E=>?_,fun z=>⟨Or.inl,fun h=>?_⟩⟩
   ·rcases F a ha b J E with h|h
    ·exact h
    ·exact absurd E (hn b h.symm)
   ·rcases h with h |⟨D,j,e,Z,_⟩
    ·exact h
    ·exact absurd Z (hn D e)
theorem zqh{S:List Nd}{f:Nat}(J:0<f)(y:Int)(st:(Nat->Bool) × List Int)(hc:Con S st) :
  Con S (zbF S Nd.p (zbn true) f y st)/\∀ z,(zbF S Nd.p (zbn true) f y st).1 z=true↔st.1 z=true\/(y=z/\z<S.length):=by
 obtain⟨f,rfl⟩:∃ g,f=g+1:=⟨f-1,by omega⟩;simp only[zbF];by_cases D:zie S.length y=true
 ·have M:0<=y/\y<=(S.length:Int)-1:=of_decide_eq_true D;obtain⟨E,rfl⟩:∃ k:Nat,y=(k:Int):=⟨y.toNat,by omega⟩;have F:E<S.length:=by omega
  rw[yb D]
  cases hs:st.1 E with
  | true =>
   rw[zdP hs];simp only[Bool.false_eq_true,if_false];refine⟨hc,fun z=>⟨Or.inl,fun h=>?_⟩⟩;rcases h with h |⟨e,_⟩
   ·exact h
   ·have:z=E:=(by omega);rw[this];exact hs
  | false =>
   rw[zev hs];simp only[Bool.not_true,Bool.false_eq_true,if_false];refine⟨hc.add F,fun z=>?_⟩;constructor
   ·intro h;by_cases I:z=E
    ·exact Or.inr ⟨by rw[I],by omega⟩
    ·rw[ya I] at h;exact Or.inl h
   ·rintro(h |⟨e,_⟩)
    ·split
     ·rfl
     ·exact h
    ·rw[yb (by omega)]
 ·rw[ya D];refine⟨hc,fun z=>⟨Or.inl,fun h=>?_⟩⟩;rcases h with h |⟨e,O⟩
  ·exact h
  ·exact absurd (yF ⟨by omega,by omega⟩) D
def Abv(S:List Nd)(near:Bool)(k x:Nat):Prop:=if near then (nd S k).p=x/\x<S.length else ∃ (D j:Nat),(nd S k).p=D/\D<S.length/\PUp S j D x
theorem zgd{S:List Nd}(h:WF S)(near:Bool):∀ (ps:List Int) (st:(Nat->Bool) × List Int),(∀ x ∈ ps,∃ k:Nat,x=k/\k<S.length)->Con S st->(near=false->∀ a,st.1 a=true->∀ b:Nat,(nd S a).p=b->b<S.length->st.1 b=true) ->
  Con S (ps.foldl (zgK S near) st)/\∀ z,(ps.foldl (zgK S near) st).1 z=true↔st.1 z=true\/∃ k:Nat,(k:Int) ∈ ps/\Abv S near k z
 | [],st,_,hc,_=>⟨hc,fun z=>⟨Or.inl,fun h=>by
   rcases h with h |⟨k,hk,_⟩
   ·exact h
   ·cases hk⟩⟩
 | x :: ps,st,F,hc,O=>by
  obtain⟨k,rfl,hk⟩:=F x (by simp);have T:zie S.length (k:Int)=true:=yF ⟨by omega,by omega⟩;simp only[List.foldl_cons]
  have e:zgK S near st (k:Int)=zbF S Nd.p (zbn near) S.length (nd S k).p st:=by
   unfold zgK;rw[yb T,yi]
  rw[e]
  cases near with
  | true =>
   obtain⟨g1,g2⟩:=zqh (f:=S.length) (by omega) (nd S k).p st hc;obtain⟨i1,i2⟩:=zgd h true ps _ (fun x U=>F x (by simp[U])) g1 (fun e=>by cases e);refine⟨i1,fun z=>?_⟩;rw[i2 z,g2 z];constructor
   ·rintro((h|h) |⟨k', D,h⟩)
    ·exact Or.inl h
    ·exact Or.inr ⟨k,by simp,h⟩
    ·exact Or.inr ⟨k', by simp[D],h⟩
   ·rintro(h |⟨k', D,h⟩)
    ·exact Or.inl (Or.inl h)
    ·rcases List.mem_cons.1 D with e|D
     ·have:k' = k:=(by omega);subst this;exact Or.inl (Or.inr h)
     ·exact Or.inr ⟨k', D,h⟩
  | false =>
   obtain⟨g1,g2,g3⟩:=zmu S.length (nd S k).p st hc (fun a ha b hb M=>Or.inl (O rfl a ha b hb M)) (fun E e J j z I=>by
    have:=h.up_short J (I.up h J)
    omega)
   obtain⟨i1,i2⟩:=zgd h false ps _ (fun x U=>F x (by simp[U])) g1 (fun _=>g2);refine⟨i1,fun z=>?_⟩;rw[i2 z,g3 z];constructor
   ·rintro((h |⟨E,j,e,Z,I⟩) |⟨k', D,h⟩)
    ·exact Or.inl h
    ·exact Or.inr ⟨k,by simp,(show ∃ (E j:Nat),_ from ⟨E,j,e,Z,I⟩)⟩
    ·exact Or.inr ⟨k', by simp[D],h⟩
   ·rintro(h |⟨k', D,h⟩)
    ·exact Or.inl (Or.inl h)
    ·rcases List.mem_cons.1 D with e|D
     ·have:k' = k:=(by omega);subst this;obtain⟨E,j,e,Z,I⟩:∃ (E j:Nat),(nd S k').p=E/\E<S.length/\PUp S j E z:=h;exact Or.inl (Or.inr ⟨E,j,e,Z,I⟩)
     ·exact Or.inr ⟨k', D,h⟩
def zch(S:List Nd)(ps:List Int):Prop:=∀ x ∈ ps,∃ k:Nat,x=k/\k<S.length
theorem ztA{S:List Nd}(h:WF S)(near:Bool){ps:List Int}(E:zch S ps):zch S (zcP S near ps)/\∀ z:Nat,(z:Int) ∈ zcP S near ps↔∃ k:Nat,(k:Int) ∈ ps/\Abv S near k z:=by
 obtain⟨h1,I⟩:=zgd h near ps (fun _=>false,[]) E ⟨fun x F=>(by cases F),fun k D=>(by cases D)⟩ (fun _ a ha=>by cases ha);refine⟨fun x F=>?_,fun z=>?_⟩
 ·obtain⟨k,e,D,_⟩:=h1.mem x F;exact⟨k,e,D⟩
 ·rw[show zcP S near ps=(ps.foldl (zgK S near) (fun _=>false,[])).2 from rfl,h1.iff z,I z];constructor
  ·rintro(h|h)
   ·cases h
   ·exact h
  ·exact Or.inr
theorem zws{S:List Nd}{te:Tst}{ps:List Int}{x:Int}:x ∈ zgA S te ps↔x ∈ ps/\zwX te.t te.m (nd S x.toNat)=true:=by
 unfold zgA;rw[zlG];simp
theorem zch.sift{S:List Nd}{te:Tst}{ps:List Int}(h:zch S ps):zch S (zgA S te ps):=fun x D=>h x (zws.1 D).1
theorem zfs{w:World}{B B' e size n:Nat}{v:Value}{F:List Value}(h:w.ownsRow B e size v n F)(M:B' <= B):w.ownsRow B' e size v n F:=by
 obtain⟨h1,E⟩:=h;refine⟨h1,?_⟩;rcases E with E |⟨g,cap,D,I,J,h5⟩
 ·exact Or.inl E
 ·exact Or.inr ⟨g,cap,D,I,yG M J,h5⟩
theorem zvS:(Tryz.prog.info? 4).map (fun i=>(i.zero,i.size,i.bytes))=some (some (.bool false),1,1):=by kernel_rfl
theorem ztt(n:Nat)(hn:n<=24)(w:World):(Instr.makeSlice 259 (.int .i64 (n:Int)) (.int .i64 (n:Int))).run Tryz.prog w=.ok (.slice (some ⟨w.heap.size,0,none⟩) n n) (w.alloc (.cells (madeCells #[.bool false] n) 4)) :=
 run_make_row' (P:=Tryz.prog) 259 4 (.bool false) 1 Tryz.underlying259 zvS rfl .i64 .i64 n (by omega) (by omega) w
theorem zkV{w:World}{B g n cap:Nat}{ks:List Int}(h:w.ownsRow B 3 1 (.slice (some ⟨g,0,none⟩) n cap) n (ks.map (Value.int .i64))):B<=g/\n<=cap/\cap<=maxLen/\ks.length=n/\∃ G,w.rowIs g 3 cap G/\∀ j,j<n->G j=.int .i64 (ks.getD j 0):=by
 obtain⟨hl,h⟩:=h;rw[List.length_map,Nat.mul_one] at hl;rcases h with ⟨h,_⟩ |⟨U,E,D,e,h1,J,M,O,h5,F⟩
 ·cases h
 ·cases e;rw[Nat.mul_one] at h5 F;refine⟨h1,M,O,hl,fun j=>D[j]?.getD undef,⟨D,J,h5,fun i hi=>?_⟩,fun j T=>?_⟩
  ·show D[i]?=some (D[i]?.getD undef);rw[Array.getElem?_eq_getElem (by omega)];rfl
  ·have I:(D.toList.take n)[j]?=(ks.map (Value.int .i64))[j]?:=(by rw[F]);rw[List.getElem?_take,yb T,List.getElem?_map,List.getElem?_eq_getElem (l:=ks) (by omega)] at I;show D[j]?.getD undef=_;rw[<- Array.getElem?_toList,I,zae ks 0 (by omega)];rfl
theorem zeh{w:World}{B:Nat}{v:Value}{ks:List Int}(h:w.ownsRow B 3 1 v ks.length (ks.map (Value.int .i64))):∃ pa pc,v=.slice pa ks.length pc/\zal w pa ks/\(∀ k,v.ownBlock=some k->B<=k/\k<w.heap.size):=by
 have D:=h.lt;rcases h.2 with ⟨e,I⟩ |⟨g,cap,F,e,_⟩
 ·have O:ks=[]:=List.length_eq_zero_iff.1 I;subst O;exact⟨none,0,e,fun i hi=>absurd hi (yw _),D⟩
 ·subst e;obtain⟨_,J,_,_,G,M,E⟩:=zkV h;exact⟨some ⟨g,0,none⟩,cap,rfl,zbP M J E,D⟩
end Go.Proofs.YtcbcpomacdngmaaGreat
