/-
  x
-/
import Derived.Test.YtgjfmepbphfjoaaGreatQ11
namespace Go.Proofs.YtgjfmepbphfjoaaGreat
set_option maxRecDepth 100000
set_option maxHeartbeats 4000000
set_option linter.unusedVariables false
open Go.RowKit
def zaT(S:List Nd):Nat->Int->List Int
 | 0,_=>[]
 | f+1,x=>if zeY S.length x then x :: zaT S f (zah (nd S x.toNat)) else []
def zbj(S:List Nd)(k:Nat):List Int:=(k:Int) :: zaT S S.length (zah (nd S k))
theorem zld(S:List Nd):∀ (f:Nat) (x:Int),(zaT S f x).length<=f
 | 0,_=>by simp[zaT]
 | f+1,x=>by
  simp only[zaT];split
  ·have:=zld S f (zah (nd S x.toNat));simp;omega
  ·simp
theorem zgj(S:List Nd)(k:Nat):(zbj S k).length<=S.length+1:=by
 have:=zld S S.length (zah (nd S k));unfold zbj;simp;omega
theorem zcZ{N k:Nat}:zeY N (k:Int)=true↔k<N:=by
 unfold zeY;rw[decide_eq_true_eq];omega
theorem zli{S:List Nd}:∀ {f:Nat} {x y:Int},y ∈ zaT S f x->∃ q j w:Nat,y=q/\q<S.length/\x=w/\w<S.length/\j<f/\Up S j w q
 | 0,_,_,h=>by simp[zaT] at h
 | f+1,x,y,h=>by
  simp only[zaT] at h
  split at h
  ·rename_i hx;have hx2:0<=x/\x<=(S.length:Int)-1:=of_decide_eq_true hx;obtain⟨w,rfl⟩:∃ w:Nat,x=w:=⟨x.toNat,by omega⟩;rcases List.mem_cons.1 h with rfl|h
   ·exact⟨w,0,w,rfl,by omega,rfl,by omega,by omega,rfl⟩
   ·rw[yg] at h;obtain⟨q,j,z,e1,e2,e3,e4,e5,A⟩:=zli h;exact⟨q,j+1,w,e1,e2,rfl,by omega,by omega,⟨z,e4,e3,A⟩⟩
  ·cases h
theorem zqj{S:List Nd}{k:Nat}(A:k<S.length){y:Int}(h:y ∈ zbj S k):∃ q j:Nat,y=q/\q<S.length/\Up S j k q:=by
 unfold zbj at h;rcases List.mem_cons.1 h with rfl|h
 ·exact⟨k,0,rfl,A,rfl⟩
 ·obtain⟨q,j,D,e1,e2,e3,e4,_,w⟩:=zli h;exact⟨q,j+1,e1,e2,⟨D,e4,e3,w⟩⟩
theorem ziV{S:List Nd}:∀ {f:Nat} {x:Int},(∀ (w j z:Nat),x=w->w<S.length->Up S j w z->j<f)->zaT S (f+1) x=zaT S f x
 | 0,x,h=>by
  simp only[zaT];split
  ·rename_i hx;have hx2:0<=x/\x<=(S.length:Int)-1:=of_decide_eq_true hx;obtain⟨w,rfl⟩:∃ w:Nat,x=w:=⟨x.toNat,by omega⟩;exact absurd (h w 0 w rfl (by omega) rfl) (by omega)
  ·rfl
 | f+1,x,h=>by
  rw[zaT]
  conv=>rhs;rw[zaT]
  split
  ·rename_i hx;have hx2:0<=x/\x<=(S.length:Int)-1:=of_decide_eq_true hx;obtain⟨w,rfl⟩:∃ w:Nat,x=w:=⟨x.toNat,by omega⟩;rw[yg];rw[ziV (fun D j z e hy A=>?_)];have:=h w (j+1) z rfl (by omega) ⟨D,hy,e,A⟩;omega
  ·rfl
theorem WF.path_up{S:List Nd}(h:WF S){k q:Nat}(A:k<S.length)(hq:q<S.length)(hr:zah (nd S k)=q):zbj S k=(k:Int) :: zbj S q:=by
 unfold zbj;rw[hr]
 congr 1
 obtain⟨N,w⟩:∃ N,S.length=N+1:=⟨S.length-1,by omega⟩
 have e1:zaT S S.length (q:Int)=(q:Int) :: zaT S N (zah (nd S q)):=by
  rw[w,zaT,w,yd (zcZ.2 (by omega)),yg]
 rw[e1,w]
 congr 1
 rw[ziV];intro F j z e hx D;have:=h.up_short A (j:=j+2) (z:=z) ⟨q,hq,hr,⟨F,hx,e,D⟩⟩;omega
structure Tst where
 t:Int
 m:Int
 near:Bool
def zin(T M:Int)(x:Nd):Bool:=(decide (T = -1000001) || decide (T=x.t)) && (decide (M = -1000001) || decide (M=x.m))
def zbo(near:Bool):(Nat->Bool) × List Int->Int->((Nat->Bool) × List Int) × Bool:=fun st x =>
 if st.1 x.toNat then (st,false) else ((fun j=>if j=x.toNat then true else st.1 j,st.2++[x]),!near)
theorem zdg{near:Bool}{st:(Nat->Bool) × List Int}{y:Nat}(h:st.1 y=true):zbo near st (y:Int)=(st,false):=by
 unfold zbo;rw[yg,yd h]
theorem zdC{near:Bool}{st:(Nat->Bool) × List Int}{y:Nat}(h:st.1 y=false):zbo near st (y:Int)=((fun j=>if j=y then true else st.1 j,st.2++[(y:Int)]),!near):=by
 unfold zbo;rw[yg,ya (by rw[h];exact Bool.false_ne_true)]
def zfb(S:List Nd)(near:Bool)(st:(Nat->Bool) × List Int)(place:Int):(Nat->Bool) × List Int :=
 if zeY S.length place then zbs S Nd.p (zbo near) S.length (nd S place.toNat).p st else st
def zdf(S:List Nd)(near:Bool)(places:List Int):(Nat->Bool) × List Int:=places.foldl (zfb S near) (fun _=>false,[])
def zcC(S:List Nd)(near:Bool)(places:List Int):List Int:=(zdf S near places).2
theorem zix(S:List Nd)(near:Bool)(places:List Int)(k:Nat)(h:k<places.length):zdf S near (places.take (k+1))=zfb S near (zdf S near (places.take k)) (places.getD k 0):=by
 unfold zdf;rw[List.take_add_one,List.foldl_append,List.getElem?_eq_getElem h,zaf places 0 h];rfl
def zes(S:List Nd)(te:Tst)(ps:List Int):List Int:=flt (fun x=>!zin te.t te.m (nd S x.toNat)) ps
def zjF(S:List Nd):List Tst->List Int->List Int
 | [],ps=>ps
 | [te],ps=>zes S te ps
 | te :: w :: r,ps=>zjF S (w :: r) (zcC S te.near (zes S te ps))
def zbE(S:List Nd)(place:Int)(q:List Tst):Bool:=decide (0<(zjF S q.reverse [place]).length)
def PUp(S:List Nd):Nat->Nat->Nat->Prop
 | 0,x,p=>x=p
 | j+1,x,p=>∃ y:Nat,y<S.length/\(nd S x).p=y/\PUp S j y p
theorem PUp.lt{S:List Nd}:∀ {j x y:Nat},x<S.length->PUp S j x y->y<S.length
 | 0,_,_,hx,h=>by cases h;exact hx
 | _+1,_,_,_,⟨_,h1,_,w⟩=>PUp.lt h1 w
theorem PUp.up{S:List Nd}(h:WF S):∀ {j x y:Nat},x<S.length->PUp S j x y->Up S j x y
 | 0,_,_,_,D=>D
 | j+1,x,y,hx,⟨z,h1,w,A⟩=>by
  refine⟨z,h1,?_,PUp.up h h1 A⟩;unfold zah;rw[yd (h.host_of_parent hx (by omega)).1];exact w
structure Con (S:List Nd) (st:(Nat->Bool) × List Int):Prop where
 mem:∀ x ∈ st.2,∃ k:Nat,x=k/\k<S.length/\st.1 k=true
 all:∀ k,st.1 k=true->k<S.length/\(k:Int) ∈ st.2
theorem Con.iff{S:List Nd}{st:(Nat->Bool) × List Int}(h:Con S st)(k:Nat):(k:Int) ∈ st.2↔st.1 k=true:=by
 constructor
 ·intro w;obtain⟨k', e,_,hs⟩:=h.mem _ w;have:k' = k:=by omega
  rw[<- this];exact hs
 ·intro hs;exact(h.all k hs).2
theorem Con.add{S:List Nd}{st:(Nat->Bool) × List Int}(h:Con S st){k:Nat}(D:k<S.length):Con S (fun j=>if j=k then true else st.1 j,st.2++[(k:Int)]):=by
 refine⟨fun x hx=>?_,fun j A=>?_⟩
 ·rcases List.mem_append.1 hx with hx|hx
  ·obtain⟨i,e,h1,w⟩:=h.mem x hx;refine⟨i,e,h1,?_⟩;dsimp only;split
   ·rfl
   ·exact w
  ·exact⟨k,by simpa using hx,D,yd rfl⟩
 ·dsimp only at A
  split at A
  ·rename_i e;subst e;exact⟨D,by simp⟩
  ·obtain⟨h1,w⟩:=h.all j A;exact⟨h1,List.mem_append.2 (Or.inl w)⟩
def ClU(S:List Nd)(st:(Nat->Bool) × List Int)(y:Int):Prop:=∀ a,st.1 a=true->∀ b:Nat,(nd S a).p=b->b<S.length->st.1 b=true\/(b:Int)=y
theorem ClU.up{S:List Nd}{st:(Nat->Bool) × List Int}(h:∀ a,st.1 a=true->∀ b:Nat,(nd S a).p=b->b<S.length->st.1 b=true):∀ {j x z:Nat},st.1 x=true->PUp S j x z->st.1 z=true
 | 0,_,_,hx,D=>by cases D;exact hx
 | _+1,_,_,hx,⟨y,h1,w,A⟩=>ClU.up h (h _ hx y w h1) A
theorem ziB{S:List Nd}:∀ (f:Nat) (y:Int) (st:(Nat->Bool) × List Int),Con S st->ClU S st y->(∀ w:Nat,y=w->w<S.length->∀ j z,PUp S j w z->j<f) ->
  Con S (zbs S Nd.p (zbo false) f y st)/\(∀ a,(zbs S Nd.p (zbo false) f y st).1 a=true->∀ b:Nat,(nd S a).p=b->b<S.length->(zbs S Nd.p (zbo false) f y st).1 b=true) /\
  ∀ z,(zbs S Nd.p (zbo false) f y st).1 z=true↔st.1 z=true\/∃ (w j:Nat),y=w/\w<S.length/\PUp S j w z
 | 0,y,st,V,D,hf=>by
  have hn:∀ w:Nat,y=w->¬ w<S.length:=fun w e hy=>by have:=hf w e hy 0 w rfl;omega
  refine⟨V,fun a F b J A=>?_,fun z=>⟨Or.inl,fun h=>?_⟩⟩
  ·rcases D a F b J A with h|h
   ·exact h
   ·exact absurd A (hn b h.symm)
  ·rcases h with h |⟨w,j,e,hy,_⟩
   ·exact h
   ·exact absurd hy (hn w e)
 | f+1,y,st,V,D,hf=>by
  simp only[zbs];by_cases Z:zeY S.length y=true
  ·have hq:0<=y/\y<=(S.length:Int)-1:=of_decide_eq_true Z;obtain⟨w,rfl⟩:∃ k:Nat,y=(k:Int):=⟨y.toNat,by omega⟩;have I:w<S.length:=by omega
   rw[yd Z]
   cases hs:st.1 w with
   | true =>
    rw[zdg hs];simp only[Bool.false_eq_true,if_false]
    have M:∀ a,st.1 a=true->∀ b:Nat,(nd S a).p=b->b<S.length->st.1 b=true:=fun a F b J A=>by
     rcases D a F b J A with h|h
     ·exact h
     ·have:b=w:=by omega
      rw[this];exact hs
    refine⟨V,M,fun z=>⟨Or.inl,fun h=>?_⟩⟩;rcases h with h |⟨U,j,e,_,O⟩
    ·exact h
    ·have:U=w:=by omega
     subst this;exact ClU.up M hs O
   | false =>
    rw[zdC hs];simp only[Bool.not_false,if_true,yg]
    obtain⟨g1,g2,g3⟩:=ziB f (nd S w).p (fun j=>if j=w then true else st.1 j,st.2++[(w:Int)]) (V.add I) (fun a F b J A=>by
     dsimp only at F |-;by_cases e:a=w
     ·subst e;exact Or.inr J.symm
     ·rw[ya e] at F;rcases D a F b J A with h|h
      ·left;split
       ·rfl
       ·exact h
      ·left;rw[yd (by omega)]) (fun U e T j z O=>by
     have:=hf w rfl I (j+1) z ⟨U,T,e,O⟩
     omega)
    refine⟨g1,g2,fun z=>?_⟩;rw[g3 z];dsimp only;constructor
    ·rintro(h |⟨U,j,e,T,O⟩)
     ·by_cases ez:z=w
      ·exact Or.inr ⟨w,0,rfl,I,ez.symm⟩
      ·rw[ya ez] at h;exact Or.inl h
     ·exact Or.inr ⟨w,j+1,rfl,I,⟨U,T,e,O⟩⟩
    ·rintro(h |⟨U,j,e,_,O⟩)
     ·left;split
      ·rfl
      ·exact h
     ·have:U=w:=by omega
      subst this
      cases j with
      | zero=>left;rw[yd O.symm]
      | succ j =>
       obtain⟨y2,h1,h2,h3⟩:=O;exact Or.inr ⟨y2,j,h2,h1,h3⟩
  ·rw[ya Z];have hn:∀ w:Nat,y=w->¬ w<S.length:=fun w e hy=>Z (decide_eq_true ⟨by omega,by omega⟩);refine⟨V,fun a F b J A=>?_,fun z=>⟨Or.inl,fun h=>?_⟩⟩
   ·rcases D a F b J A with h|h
    ·exact h
    ·exact absurd A (hn b h.symm)
   ·rcases h with h |⟨w,j,e,hy,_⟩
    ·exact h
    ·exact absurd hy (hn w e)
theorem zlK{S:List Nd}{f:Nat}(J:0<f)(y:Int)(st:(Nat->Bool) × List Int)(D:Con S st) :
  Con S (zbs S Nd.p (zbo true) f y st)/\∀ z,(zbs S Nd.p (zbo true) f y st).1 z=true↔st.1 z=true\/(y=z/\z<S.length):=by
 obtain⟨f,rfl⟩:∃ g,f=g+1:=⟨f-1,by omega⟩;simp only[zbs];by_cases w:zeY S.length y=true
 ·have hq:0<=y/\y<=(S.length:Int)-1:=of_decide_eq_true w;obtain⟨A,rfl⟩:∃ k:Nat,y=(k:Int):=⟨y.toNat,by omega⟩;have F:A<S.length:=by omega
  rw[yd w]
  cases hs:st.1 A with
  | true =>
   rw[zdg hs];simp only[Bool.false_eq_true,if_false];refine⟨D,fun z=>⟨Or.inl,fun h=>?_⟩⟩;rcases h with h |⟨e,_⟩
   ·exact h
   ·have:z=A:=by omega
    rw[this];exact hs
  | false =>
   rw[zdC hs];simp only[Bool.not_true,Bool.false_eq_true,if_false];refine⟨D.add F,fun z=>?_⟩;constructor
   ·intro h;by_cases I:z=A
    ·exact Or.inr ⟨by rw[I],by omega⟩
    ·rw[ya I] at h;exact Or.inl h
   ·rintro(h |⟨e,_⟩)
    ·split
     ·rfl
     ·exact h
    ·rw[yd (by omega)]
 ·rw[ya w];refine⟨D,fun z=>⟨Or.inl,fun h=>?_⟩⟩;rcases h with h |⟨e,M⟩
  ·exact h
  ·exact absurd (decide_eq_true ⟨by omega,by omega⟩) w
def Abv(S:List Nd)(near:Bool)(k x:Nat):Prop:=if near then (nd S k).p=x/\x<S.length else ∃ (w j:Nat),(nd S k).p=w/\w<S.length/\PUp S j w x
theorem Abv.far{S:List Nd}{near:Bool}{k x:Nat}(h:Abv S near k x):Abv S false k x:=by
 cases near with
 | false=>exact h
 | true =>
  obtain⟨h1,w⟩:(nd S k).p=x/\x<S.length:=h;exact(show ∃ (A j:Nat),_ from ⟨x,0,h1,w,rfl⟩)
theorem zeT{S:List Nd}(h:WF S)(near:Bool):∀ (ps:List Int) (st:(Nat->Bool) × List Int),(∀ x ∈ ps,∃ k:Nat,x=k/\k<S.length)->Con S st->(near=false->∀ a,st.1 a=true->∀ b:Nat,(nd S a).p=b->b<S.length->st.1 b=true) ->
  Con S (ps.foldl (zfb S near) st)/\∀ z,(ps.foldl (zfb S near) st).1 z=true↔st.1 z=true\/∃ k:Nat,(k:Int) ∈ ps/\Abv S near k z
 | [],st,_,J,_=>⟨J,fun z=>⟨Or.inl,fun h=>by
   rcases h with h |⟨k,hk,_⟩
   ·exact h
   ·cases hk⟩⟩
 | x :: ps,st,D,J,U=>by
  obtain⟨k,rfl,hk⟩:=D x (by simp);have V:zeY S.length (k:Int)=true:=decide_eq_true ⟨by omega,by omega⟩;simp only[List.foldl_cons]
  have e:zfb S near st (k:Int)=zbs S Nd.p (zbo near) S.length (nd S k).p st:=by
   unfold zfb;rw[yd V,yg]
  rw[e]
  cases near with
  | true =>
   obtain⟨M,O⟩:=zlK (f:=S.length) (by omega) (nd S k).p st J;obtain⟨Z,i2⟩:=zeT h true ps _ (fun x hx=>D x (by simp[hx])) M (fun e=>by cases e);refine⟨Z,fun z=>?_⟩;rw[i2 z,O z];constructor
   ·rintro((h|h) |⟨k', w,h⟩)
    ·exact Or.inl h
    ·exact Or.inr ⟨k,by simp,h⟩
    ·exact Or.inr ⟨k', by simp[w],h⟩
   ·rintro(h |⟨k', w,h⟩)
    ·exact Or.inl (Or.inl h)
    ·rcases List.mem_cons.1 w with e|w
     ·have:k' = k:=by omega
      subst this;exact Or.inl (Or.inr h)
     ·exact Or.inr ⟨k', w,h⟩
  | false =>
   obtain⟨M,O,g3⟩:=ziB S.length (nd S k).p st J (fun a ha b hb T=>Or.inl (U rfl a ha b hb T)) (fun A e I j z F=>by
    have:=h.up_short I (F.up h I)
    omega)
   obtain⟨Z,i2⟩:=zeT h false ps _ (fun x hx=>D x (by simp[hx])) M (fun _=>O);refine⟨Z,fun z=>?_⟩;rw[i2 z,g3 z];constructor
   ·rintro((h |⟨A,j,e,hy,F⟩) |⟨k', w,h⟩)
    ·exact Or.inl h
    ·exact Or.inr ⟨k,by simp,(show ∃ (A j:Nat),_ from ⟨A,j,e,hy,F⟩)⟩
    ·exact Or.inr ⟨k', by simp[w],h⟩
   ·rintro(h |⟨k', w,h⟩)
    ·exact Or.inl (Or.inl h)
    ·rcases List.mem_cons.1 w with e|w
     ·have:k' = k:=by omega
      subst this;obtain⟨A,j,e,hy,F⟩:∃ (A j:Nat),(nd S k').p=A/\A<S.length/\PUp S j A z:=h;exact Or.inl (Or.inr ⟨A,j,e,hy,F⟩)
     ·exact Or.inr ⟨k', w,h⟩
def zbY(S:List Nd)(ps:List Int):Prop:=∀ x ∈ ps,∃ k:Nat,x=k/\k<S.length
theorem zjb{S:List Nd}(h:WF S)(near:Bool){ps:List Int}(A:zbY S ps):zbY S (zcC S near ps)/\∀ z:Nat,(z:Int) ∈ zcC S near ps↔∃ k:Nat,(k:Int) ∈ ps/\Abv S near k z:=by
 obtain⟨h1,D⟩:=zeT h near ps (fun _=>false,[]) A ⟨fun x hx=>(by cases hx),fun k w=>(by cases w)⟩ (fun _ a F=>by cases F);refine⟨fun x hx=>?_,fun z=>?_⟩
 ·obtain⟨k,e,w,_⟩:=h1.mem x hx;exact⟨k,e,w⟩
 ·rw[show zcC S near ps=(ps.foldl (zfb S near) (fun _=>false,[])).2 from rfl,h1.iff z,D z];constructor
  ·rintro(h|h)
   ·cases h
   ·exact h
  ·exact Or.inr
theorem zfn{S:List Nd}{te:Tst}{ps:List Int}{x:Int}:x ∈ zes S te ps↔x ∈ ps/\zin te.t te.m (nd S x.toNat)=true:=by
 unfold zes;rw[zhY];simp
theorem zbY.sift{S:List Nd}{te:Tst}{ps:List Int}(h:zbY S ps):zbY S (zes S te ps):=fun x hx=>h x (zfn.1 hx).1
theorem zjB(T M:Int)(near:Bool)(x:Nd)(k:Value)(w:World) :
  Calls Tryz.prog 140 #[.agg #[.int .i64 T,.int .i64 M,.bool near],.agg #[.bool x.u,.int .i64 x.n,.int .i64 x.t,.int .i64 x.m,.int .i64 x.p,k,.int .i64 x.h,.bool x.c]] w fun e w' => e=.returned (.bool (zin T M x))/\Below w.heap.size w w' := by
 obtain⟨xu,Z,J,F,xp,O,V,U⟩:=x;unfold zin;dsimp only;by_cases h1:T = -1000001
 ·subst h1;simp only[decide_true,Bool.true_or,Bool.true_and];by_cases A:M = -1000001
  ·subst A;simp only[decide_true,Bool.true_or]
   go_enter Tryz.func140,Tryz.ntmps140
   go_wp2
   go_ret;exact⟨rfl,((yj _ _).alloc (yi _) _).alloc (by simp) _⟩
  ·have e3:(M == -1000001)=false:=beq_eq_false_iff_ne.2 A;rw[decide_eq_false A,Bool.false_or];by_cases D:M=F
   ·subst D;simp only[decide_true]
    go_enter Tryz.func140,Tryz.ntmps140
    go_wp2
    go_ret;exact⟨by simp,((yj _ _).alloc (yi _) _).alloc (by simp) _⟩
   ·have e4:(M == F)=false:=beq_eq_false_iff_ne.2 D;rw[decide_eq_false D]
    go_enter Tryz.func140,Tryz.ntmps140
    go_wp2
    go_ret;refine⟨?_,((yj _ _).alloc (yi _) _).alloc (by simp) _⟩
    first
     | rfl
     | simp[e4]
 ·have e1:(T == -1000001)=false:=beq_eq_false_iff_ne.2 h1;rw[decide_eq_false h1,Bool.false_or];by_cases I:T=J
  ·subst I;simp only[decide_true,Bool.true_and];by_cases A:M = -1000001
   ·subst A;simp only[decide_true,Bool.true_or]
    go_enter Tryz.func140,Tryz.ntmps140
    go_wp2
    go_ret;exact⟨rfl,((yj _ _).alloc (yi _) _).alloc (by simp) _⟩
   ·have e3:(M == -1000001)=false:=beq_eq_false_iff_ne.2 A;rw[decide_eq_false A,Bool.false_or];by_cases D:M=F
    ·subst D;simp only[decide_true]
     go_enter Tryz.func140,Tryz.ntmps140
     go_wp2
     go_ret;exact⟨by simp,((yj _ _).alloc (yi _) _).alloc (by simp) _⟩
    ·have e4:(M == F)=false:=beq_eq_false_iff_ne.2 D;rw[decide_eq_false D]
     go_enter Tryz.func140,Tryz.ntmps140
     go_wp2
     go_ret;refine⟨?_,((yj _ _).alloc (yi _) _).alloc (by simp) _⟩
     first
      | rfl
      | simp[e4]
  ·have e2:(T == J)=false:=beq_eq_false_iff_ne.2 I;rw[decide_eq_false I,Bool.false_and]
   go_enter Tryz.func140,Tryz.ntmps140
   go_wp2
   go_ret;exact⟨rfl,((yj _ _).alloc (yi _) _).alloc (by simp) _⟩
theorem zqJ(a:Option Addr)(c:Nat)(S:List Nd)(T M:Int)(near:Bool)(F V:Nat)(k:Nat)(w:World)(hk:k<S.length)(hS:zae w a S)(J:w.cell? ⟨F,0,none⟩=some (.int .i64 T))(O:w.cell? ⟨F,1,none⟩=some (.int .i64 M))(U:w.cell? ⟨F,2,none⟩=some (.bool near))(hs:w.cell? ⟨V,0,none⟩=some (.slice a S.length c)) :
  Calls Tryz.prog 139 #[.int .i64 (k:Int),.pointer (some ⟨F,0,none⟩),.pointer (some ⟨V,0,none⟩)] w fun e w' => e=.returned (.bool (!zin T M (nd S k)))/\Below w.heap.size w w' := by
 have a4:(k:Int)<(S.length:Int):=by omega
 obtain⟨b,o,rfl,c0,c1,c2,c3,c4,⟨ka,kc,c5,_⟩,Z,c7⟩:=hS k hk;have d1:=fun v W=>zjB T M near (nd S k) v W;clear hS;generalize zin T M (nd S k)=r at *;generalize nd S k=x at *;generalize S.length=n at *
 go_enter Tryz.func139,Tryz.ntmps139
 go_wp2_with fail
 go_region_held3 (fun D=>D.cell? ⟨F,0,none⟩=some (.int .i64 T)/\D.cell? ⟨F,1,none⟩=some (.int .i64 M)/\D.cell? ⟨F,2,none⟩=some (.bool near)/\D.cell? ⟨V,0,none⟩=some (.slice (some ⟨b,o,none⟩) n c)/\D.cell? ⟨b,o+k*8,none⟩=some (.bool x.u)/\D.cell? ⟨b,o+k*8+1,none⟩=some (.int .i64 x.n)/\D.cell? ⟨b,o+k*8+2,none⟩=some (.int .i64 x.t)/\D.cell? ⟨b,o+k*8+3,none⟩=some (.int .i64 x.m)/\D.cell? ⟨b,o+k*8+4,none⟩=some (.int .i64 x.p)/\D.cell? ⟨b,o+k*8+5,none⟩=some (.slice ka x.ks.length kc)/\D.cell? ⟨b,o+k*8+6,none⟩=some (.int .i64 x.h)/\D.cell? ⟨b,o+k*8+7,none⟩=some (.bool x.c)) (go_keep) (first|(go_at_call 140;refine(d1 _ _).mono ?_;rintro e w2 ⟨rfl,I⟩;have A:Below w.heap.size w w2:=((yj _ _).drew).trans I;have m0:=(A.cell (ye _ _ J)).trans J;have m1:=(A.cell (ye _ _ O)).trans O;have m2:=(A.cell (ye _ _ U)).trans U;have m3:=(A.cell (ye _ _ hs)).trans hs;have n0:=(A.cell (ye _ _ c0)).trans c0;have n1:=(A.cell (ye _ _ c1)).trans c1;have n2:=(A.cell (ye _ _ c2)).trans c2;have n3:=(A.cell (ye _ _ c3)).trans c3;have n4:=(A.cell (ye _ _ c4)).trans c4;have n5:=(A.cell (ye _ _ c5)).trans c5;have n6:=(A.cell (ye _ _ Z)).trans Z;have n7:=(A.cell (ye _ _ c7)).trans c7;clear I))
 all_goals go_wp2
 all_goals go_ret
 all_goals exact⟨rfl,A⟩
theorem zcl{w:World}{B B' e size n:Nat}{v:Value}{F:List Value}(h:w.ownsRow B e size v n F)(O:B' <= B):w.ownsRow B' e size v n F:=by
 obtain⟨h1,D⟩:=h;refine⟨h1,?_⟩;rcases D with D |⟨g,cap,A,I,J,M⟩
 ·exact Or.inl D
 ·exact Or.inr ⟨g,cap,A,I,yx O J,M⟩
theorem zpZ:(Tryz.prog.info? 4).map (fun i=>(i.zero,i.size,i.bytes))=some (some (.bool false),1,1):=by kernel_rfl
theorem ziY(n:Nat)(hn:n<=24)(w:World):(Instr.makeSlice 139 (.int .i64 (n:Int)) (.int .i64 (n:Int))).run Tryz.prog w=.ok (.slice (some ⟨w.heap.size,0,none⟩) n n) (w.alloc (.cells (madeCells #[.bool false] n) 4)) :=
 run_make_row' (P:=Tryz.prog) 139 4 (.bool false) 1 Tryz.underlying139 zpZ rfl .i64 .i64 n (by omega) (by omega) w
theorem zhy{w:World}{B g n cap:Nat}{ks:List Int}(h:w.ownsRow B 3 1 (.slice (some ⟨g,0,none⟩) n cap) n (ks.map (Value.int .i64))):B<=g/\n<=cap/\cap<=maxLen/\ks.length=n/\∃ G,w.rowIs g 3 cap G/\∀ j,j<n->G j=.int .i64 (ks.getD j 0):=by
 obtain⟨hl,h⟩:=h;rw[List.length_map,Nat.mul_one] at hl;rcases h with ⟨h,_⟩ |⟨V,D,A,e,h1,M,O,T,F,I⟩
 ·cases h
 ·cases e;rw[Nat.mul_one] at F I;refine⟨h1,O,T,hl,fun j=>A[j]?.getD undef,⟨A,M,F,fun i Z=>?_⟩,fun j U=>?_⟩
  ·show A[i]?=some (A[i]?.getD undef);rw[Array.getElem?_eq_getElem (by omega)];rfl
  ·have J:(A.toList.take n)[j]?=(ks.map (Value.int .i64))[j]?:=by rw[I]
   rw[List.getElem?_take,yd U,List.getElem?_map,List.getElem?_eq_getElem (l:=ks) (by omega)] at J;show A[j]?.getD undef=_;rw[<- Array.getElem?_toList,J,zaf ks 0 (by omega)];rfl
theorem zat{w:World}{B:Nat}{v:Value}{ks:List Int}(h:w.ownsRow B 3 1 v ks.length (ks.map (Value.int .i64))):∃ F V,v=.slice F ks.length V/\zaj w F ks/\(∀ k,v.ownBlock=some k->B<=k/\k<w.heap.size):=by
 have A:=h.lt;rcases h.2 with ⟨e,J⟩ |⟨g,cap,I,e,_⟩
 ·have U:ks=[]:=List.length_eq_zero_iff.1 J;subst U;exact⟨none,0,e,fun i T=>absurd T (yr _),A⟩
 ·subst e;obtain⟨_,M,_,_,G,O,D⟩:=zhy h;exact⟨some ⟨g,0,none⟩,cap,rfl,zbZ O M D,A⟩
end Go.Proofs.YtgjfmepbphfjoaaGreat
