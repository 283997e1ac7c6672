/-
  x
-/
import Derived.Test.YtgjfmepbphfjoaaGreatQ9
import Derived.Deep.DeepCutAuto
namespace Go.Proofs.YtgjfmepbphfjoaaGreat
set_option maxRecDepth 100000
set_option maxHeartbeats 4000000
set_option linter.unusedVariables false
open Go.RowKit
theorem zll{S:List Nd}{j:Nat}(h:S.length<=j):nd S j=zdd:=by
 unfold nd;rw[List.getD_eq_getElem?_getD,List.getElem?_eq_none h];rfl
theorem zen{N:Int}{x:Nd}(h1:zbV x=true)(w:zbv N x=true)(A:zcy x=true):zba N x=0:=by
 unfold zba;rw[yd h1,yd w,yd A]
theorem zel{S:List Nd}(T:∀ i,i<S.length->(nd S i).ks.Nodup)(M:∀ i,i<S.length->∀ x ∈ (nd S i).ks,∃ j:Nat,x=j/\j<S.length/\(nd S j).u=true/\(nd S j).p=i)
  (U:∀ j,j<S.length->(nd S j).p≠-1->∃ i:Nat,i<S.length/\(j:Int) ∈ (nd S i).ks):zdk S:=by
 refine⟨fun i w x hx=>?_,fun j V=>⟨?_,fun J=>?_⟩⟩
 ·obtain⟨j,rfl,h1,A,F⟩:=M i w x hx;exact⟨by omega,by rw[yg];exact A,by rw[yg];exact F⟩
 ·have:∀ k,k<=S.length->zdA S k j<=1/\(∀ i:Nat,(nd S j).p=i->k<=i->zdA S k j=0):=by
   intro k
   induction k with
   | zero=>intro _;rw[zfc];exact⟨by omega,fun _ _ _=>rfl⟩
   | succ k Z =>
    intro hk;obtain⟨h1,A⟩:=Z (by omega);rw[zcO S k j (by omega)];by_cases D:(j:Int) ∈ (nd S k).ks
    ·obtain⟨O,e,_,_,J⟩:=M k (by omega) _ D;have:O=j:=by omega
     subst this;have F:=A k J (yi _);have h4:=List.nodup_iff_count.1 (T k (by omega)) (O:Int);exact⟨by omega,fun i w I=>by omega⟩
    ·rw[List.count_eq_zero.2 D];exact⟨by omega,fun i w I=>by have:=A i w (by omega);omega⟩
  exact(this S.length (yi _)).1
 ·obtain⟨i,w,D⟩:=U j V J;have h1:=zcO S i j w;have A:=List.count_pos_iff.2 D;have F:=ziE S j (k:=i+1) (k' := S.length) (by omega) (yi _);omega
theorem zhh{S:List Nd}(w:Nat):∀ (f:Nat) (y:Int),zbs S zah (zcF w) f y false=true->∃ (A:Nat) (j:Nat),y=A/\A<S.length/\j+1<=f/\Up S j A w
 | 0,_,h=>by simp[zbs] at h
 | f+1,y,h=>by
  simp only[zbs] at h;by_cases D:zeY S.length y=true
  ·have hq:0<=y/\y<=(S.length:Int)-1:=of_decide_eq_true D;obtain⟨A,rfl⟩:∃ k:Nat,y=(k:Int):=⟨y.toNat,by omega⟩;rw[yd D] at h;simp only[zcF,yg] at h;by_cases e:(A:Int)=(w:Int)
   ·exact⟨A,0,rfl,by omega,by omega,by show A=w;omega⟩
   ·simp only[decide_eq_false e,Bool.not_false,if_true] at h;obtain⟨z,j,J,F,M,I⟩:=zhh w f _ h;exact⟨A,j+1,rfl,by omega,by omega,⟨z,F,J,I⟩⟩
  ·rw[ya D] at h;cases h
theorem zdO{S:List Nd}{x w:Nat}(hx:x<S.length)(h:zbm S x w=true):∃ j,1<=j/\j<=S.length/\Up S j x w:=by
 unfold zbm at h;rw[yd (show zeY S.length (x:Int)=true from decide_eq_true ⟨by omega,by omega⟩),yg] at h;obtain⟨y,j,e,hy,D,A⟩:=zhh w _ _ h;exact⟨j+1,by omega,by omega,⟨y,hy,e,A⟩⟩
theorem ziq{S:List Nd}{x w j:Nat}(hx:x<S.length)(h1:1<=j)(A:j<=S.length)(h:Up S j x w):zbm S x w=true:=by
 obtain⟨j,rfl⟩:∃ i,j=i+1:=⟨j-1,by omega⟩;unfold zbm;rw[yd (show zeY S.length (x:Int)=true from decide_eq_true ⟨by omega,by omega⟩),yg,zhO false h A]
theorem Up.lt{S:List Nd}:∀ {j x y:Nat},x<S.length->Up S j x y->y<S.length
 | 0,_,_,hx,h=>by cases h;exact hx
 | _+1,_,_,_,⟨_,h1,_,w⟩=>Up.lt h1 w
theorem WF.up_short'{S:List Nd}(h:WF S):∀ (j x z:Nat) (r:List Nat),x<S.length->(x :: r).Nodup->(∀ y ∈ r,y<S.length/\∃ i,1<=i/\i<=r.length/\Up S i y x)->Up S j x z->j+r.length+1<=S.length
 | 0,x,z,r,hx,hn,hr,_=>by
  have:=zgh hn (fun y hy=>by
   rcases List.mem_cons.1 hy with rfl|hy
   ·exact hx
   ·exact(hr y hy).1)
  simp at this;omega
 | j+1,x,z,r,hx,hn,hr,⟨y,h1,F,M⟩=>by
  have w:∀ y ∈ x :: r,y<S.length:=fun y hy=>by
   rcases List.mem_cons.1 hy with rfl|hy
   ·exact hx
   ·exact(hr y hy).1
  have hlen:=zgh hn w;simp at hlen
  have A:∀ q ∈ x :: r,∃ i,1<=i/\i<=(x :: r).length/\Up S i q y:=fun q hq=>by
   rcases List.mem_cons.1 hq with rfl|hq
   ·exact⟨1,by omega,by simp,WF.up_one h1 F⟩
   ·obtain⟨_,i,I,J,D⟩:=hr q hq;exact⟨i+1,by omega,by simp;omega,D.trans (WF.up_one h1 F)⟩
  have:=h.up_short' j y z (x :: r) h1 (List.nodup_cons.2 ⟨fun O=>by
   obtain⟨i,I,J,D⟩:=A y O;simp at J;exact h.no_ring h1 I (by omega) D,hn⟩) (fun q hq=>⟨w q hq,A q hq⟩) M
  simp at this;omega
theorem WF.up_short{S:List Nd}(h:WF S){j x z:Nat}(hx:x<S.length)(w:Up S j x z):j+1<=S.length:=by
 have:=h.up_short' j x z [] hx (by simp) (fun y hy=>by cases hy) w;simpa using this
theorem zfw{S A:List Nd}{ch:Nat}(hl:A.length=S.length)(hr:∀ y,y<S.length->y≠ch->zah (nd A y)=zah (nd S y)):∀ {j x y:Nat},x<S.length->Up A j x y->Up S j x y\/∃ i m,i+m=j/\Up S i x ch/\Up A m ch y
 | 0,_,_,_,h=>Or.inl h
 | j+1,x,y,hx,⟨z,h1,w,D⟩=>by
  by_cases e:x=ch
  ·subst e;exact Or.inr ⟨0,j+1,by omega,rfl,⟨z,h1,w,D⟩⟩
  ·rw[hr x hx e] at w;rw[hl] at h1;rcases zfw hl hr h1 D with h |⟨i,m,I,h,F⟩
   ·exact Or.inl ⟨z,h1,w,h⟩
   ·exact Or.inr ⟨i+1,m,by omega,⟨z,h1,w,h⟩,F⟩
theorem zio{S A:List Nd}(hl:A.length=S.length)(hr:∀ y,y<S.length->∀ z:Nat,zah (nd A y)=z->zah (nd S y)=z):∀ {j x y:Nat},x<S.length->Up A j x y->Up S j x y
 | 0,_,_,_,h=>h
 | _+1,x,_,hx,⟨z,h1,w,D⟩=>⟨z,by omega,hr x hx z w,zio hl hr (by omega) D⟩
theorem WF.used_of_kid{S:List Nd}(h:WF S){i:Nat}(A:i<S.length){x:Int}(hx:x ∈ (nd S i).ks):(nd S i).u=true:=by
 have w:=(zbc (h.node i A)).2.2
 cases hu:(nd S i).u with
 | true=>rfl
 | false =>
  unfold zcy at w;rw[hu] at w;have:=(of_decide_eq_true w).2.2.2.1;rw[this] at hx;cases hx
theorem WF.host_of_parent{S:List Nd}(h:WF S){ch:Nat}(hch:ch<S.length)(A:(nd S ch).p≠-1):(nd S ch).h = -1/\(nd S ch).u=true:=by
 have w:=(zbc (h.node ch hch)).2.2;unfold zcy at w
 split at w
 ·rename_i D
  split at w
  ·cases w
  ·split at w
   ·rename_i hh;exact⟨hh,D⟩
   ·exact absurd (of_decide_eq_true w) A
 ·exact absurd (of_decide_eq_true w).2.2.1 A
theorem WF.parent_place{S:List Nd}(h:WF S){ch:Nat}(hch:ch<S.length)(F:(nd S ch).p≠-1):∃ w:Nat,(nd S ch).p=w/\w<S.length/\w≠ch/\(ch:Int) ∈ (nd S w).ks/\(nd S w).u=true:=by
 have h1:=(zeI (zeJ (h.node ch hch))).2.2;obtain⟨w,e⟩:∃ k:Nat,(nd S ch).p=(k:Int):=⟨(nd S ch).p.toNat,by omega⟩;obtain⟨A,D⟩:=h.in_kids hch e;refine⟨w,e,A,fun e2=>?_,D,h.used_of_kid A D⟩;subst e2
 have hr:zah (nd S w)=w:=by
  unfold zah;rw[yd (h.host_of_parent hch F).1];exact e
 exact h.no_ring hch (yi 1) (by omega) (WF.up_one hch hr)
theorem zeW(S:List Nd)(w ch j:Nat):(nd (zbu S w ch) j).u=(nd S j).u/\(nd (zbu S w ch) j).n=(nd S j).n/\(nd (zbu S w ch) j).h=(nd S j).h/\(nd (zbu S w ch) j).t=(nd S j).t/\(nd (zbu S w ch) j).m=(nd S j).m/\(nd (zbu S w ch) j).c=(nd S j).c:=by
 by_cases A:j<S.length
 ·rw[zcS S w ch j A];unfold zdJ;split
  ·rename_i e;subst e;exact⟨rfl,rfl,rfl,rfl,rfl,rfl⟩
  ·split
   ·rename_i e;subst e;exact⟨rfl,rfl,rfl,rfl,rfl,rfl⟩
   ·exact⟨rfl,rfl,rfl,rfl,rfl,rfl⟩
 ·rw[zll (S:=zbu S w ch) (by rw[zaR];omega),zll (by omega)];exact⟨rfl,rfl,rfl,rfl,rfl,rfl⟩
theorem zfE(S:List Nd){w ch j:Nat}(A:j<S.length):(nd (zbu S w ch) j).p=if j=ch then -1 else (nd S j).p:=by
 rw[zcS S w ch j A];unfold zdJ;split
 ·rfl
 ·split
  ·rename_i e;subst e;rfl
  ·rfl
theorem zgg(S:List Nd){w ch j:Nat}(A:w≠ch)(D:j<S.length):(nd (zbu S w ch) j).ks=if j=w then flt (fun x=>decide (x=(ch:Int))) (nd S w).ks else (nd S j).ks:=by
 rw[zcS S w ch j D];unfold zdJ;split
 ·rename_i e;subst e;rw[ya (fun e=>A e.symm)]
 ·split
  ·rfl
  ·rfl
theorem zgD{x y:Nd}(h1:x.n=y.n)(w:x.t=y.t)(A:x.m=y.m)(h:zbV y=true):zbV x=true:=by
 unfold zbV at *;rw[h1,w,A];exact h
theorem zci{N:Int}{x:Nd}(h:zbv N x=true):zdT N x.p=true/\zdT N x.h=true/\∀ k ∈ x.ks,zdT N k=true:=by
 unfold zbv at h;simp only[Bool.and_eq_true,Bool.not_eq_true', List.any_eq_false] at h;refine⟨h.1,h.2.1,fun k w=>?_⟩;have:=h.2.2 k w;simpa using this
theorem zdb{N:Int}{x:Nd}(h1:zdT N x.p=true)(w:zdT N x.h=true)(A:∀ k ∈ x.ks,zdT N k=true):zbv N x=true:=by
 unfold zbv;simp only[Bool.and_eq_true,Bool.not_eq_true', List.any_eq_false];refine⟨h1,w,fun k D=>?_⟩;rw[A k D];simp
theorem zfh{x y:Nd}(w:y.u=true)(h1:x.u=y.u)(A:x.n=y.n)(D:x.h=y.h)(F:x.c=y.c)(I:y.h≠-1->x.p=y.p)(h:zcy y=true):zcy x=true:=by
 unfold zcy at *;rw[h1,w,A,D,F];rw[w] at h;simp only[if_true] at *
 split at h
 ·cases h
 ·rename_i hn;rw[ya hn]
  split at h
  ·rename_i hh;rw[yd hh];exact h
  ·rename_i hh;rw[ya hh,I hh];exact h
theorem zhY{p:Int->Bool}{ks:List Int}{x:Int}:x ∈ flt p ks↔x ∈ ks/\p x=false:=by
 unfold flt;rw[List.mem_filter]
 cases p x <;> simp
theorem WF.leave{S:List Nd}(h:WF S){U ch:Nat}(hch:ch<S.length)(hp:(nd S ch).p=U):WF (zbu S U ch):=by
 obtain⟨A,e,hpa,J,a4,hpu⟩:=h.parent_place hch (by omega);have:A=U:=by omega
 subst this;obtain⟨F,hcu⟩:=h.host_of_parent hch (by omega);have hl:=zaR S A ch
 have I:∀ i,i<S.length->∀ x ∈ (nd (zbu S A ch) i).ks,x ∈ (nd S i).ks/\x≠(ch:Int):=fun i w x hx=>by
  rw[zgg S J w] at hx
  split at hx
  ·rename_i e1;subst e1;obtain⟨h1,Z⟩:=zhY.1 hx;exact⟨h1,of_decide_eq_false Z⟩
  ·rename_i e1;refine⟨hx,fun e2=>?_⟩;obtain⟨k,e3,_,_,hk,_⟩:=h.kid w hx;have:k=ch:=by omega
   subst this;omega
 refine⟨by rw[hl];exact h.small,fun i w=>?_,zel (fun i w=>?_) (fun i w x hx=>?_) (fun j T D=>?_),fun i w=>?_,fun i w=>?_⟩
 ·rw[hl] at w |-;obtain⟨r1,r2,V⟩:=zbc (h.node i w);obtain⟨n1,n2,n3⟩:=zci r2;obtain⟨u1,u2,u3,u4,u5,u6⟩:=zeW S A ch i;refine zen (zgD u2 u4 u5 r1) (zdb ?_ (by rw[u3];exact n2) (fun k hk=>n3 k (I i w k hk).1)) ?_
  ·rw[zfE S w];split
   ·exact decide_eq_true ⟨by omega,by omega⟩
   ·exact n1
  ·by_cases e1:i=ch
   ·subst e1;exact zfh hcu u1 u2 u3 u6 (fun hh=>absurd F hh) V
   ·by_cases e2:i=A
    ·subst e2;exact zfh hpu u1 u2 u3 u6 (fun _=>by rw[zfE S w,ya e1]) V
    ·rw[zcS S A ch i w];unfold zdJ;rw[ya e1,ya e2];exact V
 ·rw[hl] at w;rw[zgg S J w];split
  ·exact(h.kids_nodup hpa).filter _
  ·exact h.kids_nodup w
 ·rw[hl] at w |-;obtain⟨h1,Z⟩:=I i w x hx;obtain⟨k,rfl,k1,k2,k3,_⟩:=h.kid w h1;refine⟨k,rfl,k1,by rw[(zeW S A ch k).1];exact k2,?_⟩;rw[zfE S k1,ya (by omega)];exact k3
 ·rw[hl] at T |-;rw[zfE S T] at D
  split at D
  ·exact absurd rfl D
  ·rename_i e1;obtain⟨i,i1,i2,_,i3,_⟩:=h.parent_place T D;refine⟨i,i2,?_⟩;rw[zgg S J i2];split
   ·rename_i e2;subst e2;exact zhY.2 ⟨i3,decide_eq_false (by omega)⟩
   ·exact i3
 ·rw[hl] at w;intro hh;rw[(zeW S A ch i).2.2.1] at hh |-;obtain⟨g1,g2⟩:=h.hosts i w hh;refine⟨by rw[(zeW S A ch _).1];exact g1,fun i' O=>by rw[(zeW S A ch i').2.2.1];exact g2 i' O⟩
 ·rw[hl] at w
  cases hb:zbm (zbu S A ch) i i with
  | false=>rfl
  | true =>
   obtain⟨j,j1,j2,j3⟩:=zdO (by rw[hl];exact w) hb;rw[hl] at j2;refine absurd (zio hl (fun y hy z M=>?_) w j3) (h.no_ring w j1 j2);unfold zah at *;rw[(zeW S A ch y).2.2.1,zfE S hy] at M;by_cases e1:y=ch
   ·subst e1;rw[yd F,yd rfl] at M;omega
   ·rw[ya e1] at M;exact M
theorem zdG(S:List Nd)(w ch at' j:Nat):(nd (zaQ S w ch at') j).u=(nd S j).u/\(nd (zaQ S w ch at') j).n=(nd S j).n/\(nd (zaQ S w ch at') j).h=(nd S j).h/\(nd (zaQ S w ch at') j).t=(nd S j).t/\(nd (zaQ S w ch at') j).m=(nd S j).m/\(nd (zaQ S w ch at') j).c=(nd S j).c:=by
 by_cases A:j<S.length
 ·rw[zdt S w ch at' j A];unfold zee;split
  ·rename_i e;subst e;exact⟨rfl,rfl,rfl,rfl,rfl,rfl⟩
  ·split
   ·rename_i e;subst e;exact⟨rfl,rfl,rfl,rfl,rfl,rfl⟩
   ·exact⟨rfl,rfl,rfl,rfl,rfl,rfl⟩
 ·rw[zll (S:=zaQ S w ch at') (by rw[zaE];omega),zll (by omega)];exact⟨rfl,rfl,rfl,rfl,rfl,rfl⟩
theorem zeU(S:List Nd){w ch at' j:Nat}(A:j<S.length):(nd (zaQ S w ch at') j).p=if j=ch then (w:Int) else (nd S j).p:=by
 rw[zdt S w ch at' j A];unfold zee;split
 ·rfl
 ·split
  ·rename_i e;subst e;rfl
  ·rfl
theorem zdF(S:List Nd){w ch at' j:Nat}(A:w≠ch)(D:j<S.length):(nd (zaQ S w ch at') j).ks=if j=w then ins (nd S w).ks at' ch else (nd S j).ks:=by
 rw[zdt S w ch at' j D];unfold zee;split
 ·rename_i e;subst e;rw[ya (fun e=>A e.symm)]
 ·split
  ·rfl
  ·rfl
theorem zhZ{ks:List Int}{i:Nat}{c x:Int}:x ∈ ins ks i c↔x=c\/x ∈ ks:=by
 unfold ins
 have w:x ∈ ks↔x ∈ ks.take i\/x ∈ ks.drop i:=by
  rw[<- List.mem_append,List.take_append_drop]
 rw[List.mem_append,List.mem_cons,w];constructor
 ·rintro(h|h|h)
  ·exact Or.inr (Or.inl h)
  ·exact Or.inl h
  ·exact Or.inr (Or.inr h)
 ·rintro(h|h|h)
  ·exact Or.inr (Or.inl h)
  ·exact Or.inl h
  ·exact Or.inr (Or.inr h)
theorem zow{ks:List Int}{i:Nat}{c:Int}(h:ks.Nodup)(F:c ∉ ks):(ins ks i c).Nodup:=by
 unfold ins;have D:(ks.take i++ks.drop i).Nodup:=by rw[List.take_append_drop];exact h
 rw[List.nodup_append] at D |-;obtain⟨I,J,M⟩:=D;refine⟨I,List.nodup_cons.2 ⟨fun O=>F (List.mem_of_mem_drop O),J⟩,fun a w b A e=>?_⟩;rcases List.mem_cons.1 A with rfl|A
 ·rw[e] at w;exact F (List.mem_of_mem_take w)
 ·exact M a w b A e
theorem WF.not_kid{S:List Nd}(h:WF S){ch:Nat}(F:(nd S ch).p = -1){i:Nat}(w:i<S.length):(ch:Int) ∉ (nd S i).ks:=fun A=>by
 obtain⟨k,e,_,_,D,_⟩:=h.kid w A;have:k=ch:=by omega
 subst this;omega
theorem WF.enter{S:List Nd}(h:WF S){A ch at' : Nat}(hpa:A<S.length)(hch:ch<S.length)(hpu:(nd S A).u=true)(hcu:(nd S ch).u=true)(V:(nd S ch).p = -1)(M:(nd S ch).h = -1)(D:A≠ch)(a4:zbm S A ch=false):WF (zaQ S A ch at'):=by
 have hl:=zaE S A ch at';have O:∀ i,i<S.length->(ch:Int) ∉ (nd S i).ks:=fun i w=>h.not_kid V w;refine⟨by rw[hl];exact h.small,fun i w=>?_,zel (fun i w=>?_) (fun i w x hx=>?_) (fun j hj F=>?_),fun i w=>?_,fun i w=>?_⟩
 ·rw[hl] at w |-;obtain⟨r1,r2,r3⟩:=zbc (h.node i w);obtain⟨n1,n2,n3⟩:=zci r2;obtain⟨u1,u2,u3,u4,u5,u6⟩:=zdG S A ch at' i;refine zen (zgD u2 u4 u5 r1) (zdb ?_ (by rw[u3];exact n2) (fun k I=>?_)) ?_
  ·rw[zeU S w];split
   ·exact decide_eq_true ⟨by omega,by omega⟩
   ·exact n1
  ·rw[zdF S D w] at I
   split at I
   ·rename_i e1;subst e1;rcases zhZ.1 I with rfl|I
    ·exact decide_eq_true ⟨by omega,by omega⟩
    ·exact n3 k I
   ·exact n3 k I
  ·by_cases e1:i=ch
   ·subst e1;exact zfh hcu u1 u2 u3 u6 (fun hh=>absurd M hh) r3
   ·by_cases e2:i=A
    ·subst e2;exact zfh hpu u1 u2 u3 u6 (fun _=>by rw[zeU S w,ya e1]) r3
    ·rw[zdt S A ch at' i w];unfold zee;rw[ya e1,ya e2];exact r3
 ·rw[hl] at w;rw[zdF S D w];split
  ·exact zow (h.kids_nodup hpa) (O A hpa)
  ·exact h.kids_nodup w
 ·rw[hl] at w |-
  have hold:x ∈ (nd S i).ks->∃ j:Nat,x=j/\j<S.length/\(nd (zaQ S A ch at') j).u=true/\(nd (zaQ S A ch at') j).p=i:=fun hm=>by
   obtain⟨k,rfl,k1,k2,k3,_⟩:=h.kid w hm;refine⟨k,rfl,k1,by rw[(zdG S A ch at' k).1];exact k2,?_⟩;rw[zeU S k1,ya (fun e=>O i w (by rw[<- e];exact hm))];exact k3
  rw[zdF S D w] at hx
  split at hx
  ·rename_i e1;subst e1;rcases zhZ.1 hx with rfl|hx
   ·exact⟨ch,rfl,hch,by rw[(zdG S i ch at' ch).1];exact hcu,by rw[zeU S hch,yd rfl]⟩
   ·exact hold hx
  ·exact hold hx
 ·rw[hl] at hj |-;rw[zeU S hj] at F
  split at F
  ·rename_i e1;subst e1;exact⟨A,hpa,by rw[zdF S D hpa,yd rfl];exact zhZ.2 (Or.inl rfl)⟩
  ·obtain⟨i,i1,i2,_,i3,_⟩:=h.parent_place hj F;refine⟨i,i2,?_⟩;rw[zdF S D i2];split
   ·rename_i e2;subst e2;exact zhZ.2 (Or.inr i3)
   ·exact i3
 ·rw[hl] at w;intro hh;rw[(zdG S A ch at' i).2.2.1] at hh |-;obtain⟨J,U⟩:=h.hosts i w hh;refine⟨by rw[(zdG S A ch at' _).1];exact J,fun i' Z=>by rw[(zdG S A ch at' i').2.2.1];exact U i' Z⟩
 ·rw[hl] at w
  have hr:∀ y,y<S.length->y≠ch->zah (nd (zaQ S A ch at') y)=zah (nd S y):=fun y hy e=>by
   unfold zah;rw[(zdG S A ch at' y).2.2.1,zeU S hy,ya e]
  have a5:zah (nd (zaQ S A ch at') ch)=A:=by
   unfold zah;rw[(zdG S A ch at' ch).2.2.1,yd M,zeU S hch,yd rfl]
  have T:∀ q,¬ Up S q A ch:=fun q hq=>by
   cases q with
   | zero=>exact D hq
   | succ q =>
    have:=ziq hpa (by omega) (by have:=h.up_short hpa hq;omega) hq;rw[a4] at this;cases this
  cases hb:zbm (zaQ S A ch at') i i with
  | false=>rfl
  | true =>
   obtain⟨j,j1,j2,j3⟩:=zdO (by rw[hl];exact w) hb;rw[hl] at j2;rcases zfw hl hr w j3 with g |⟨k,m,e,J,U⟩
   ·exact absurd g (h.no_ring w j1 j2)
   ·cases m with
    | zero =>
     have e2:ch=i:=U;have e3:k=j:=by omega
     rw[e2,e3] at J;exact absurd J (h.no_ring w j1 j2)
    | succ m =>
     obtain⟨z,z1,z2,z3⟩:=U;have:z=A:=by omega
     subst this;rcases zfw hl hr hpa z3 with g |⟨k', m', _,g3,_⟩
     ·exact absurd (g.trans J) (T _)
     ·exact absurd g3 (T _)
def zng(S T:List Nd)(P C D:Int)(hs:List (Int × Int))(E R:Int):Prop :=
 (E≠0/\R=E/\T=[]) \/
 ∃ w ch:Nat,P=w/\C=ch/\E=0/\S.length<=24/\w<S.length/\ch<S.length /\
  (zef S ch w=false->R=6/\T=[]) /\
  (zef S ch w=true->(∀ h ∈ hs,∃ q:Nat,h.1=q/\q<S.length) /\
   ((∃ h ∈ hs,(nd S h.1.toNat).p≠w)->R=6/\T=[]) /\
   ((∀ h ∈ hs,(nd S h.1.toNat).p=w)->R=0/\(∀ i,i<S.length->(nd S i).ks.length<=1000)/\T.length=S.length /\
    ((((ch:Int),D) ∈ hs/\T=S) \/
    (((ch:Int),D) ∉ hs/\w≠ch/\((nd S ch).p = -1\/∃ A:Nat,A<S.length/\A≠ch/\(nd S ch).p=A) /\
     ∃ at' : Nat,atS (nd (leaveG S ch) w).ks hs=at' /\ at' <=(nd (leaveG S ch) w).ks.length/\T=zaQ (leaveG S ch) w ch at'))))
theorem zmh(a:Option Addr)(c:Nat)(S:List Nd)(P C I D:Int)(ha:Option Addr)(hc:Nat)(hs:List (Int × Int))(E R:Int)(T:List Nd)(w:World)(hN:S.length<=9223372036854775807)(hB:Big S)(hS:zae w a S)(hH:zam w ha hs)(hm:hs.length<=1)(hE:zar S ((P,I) ::(C,D) :: hs)=E)(hI:zng S T P C D hs E R) :
  Calls Tryz.prog 112 #[.agg #[.slice a S.length c],.agg #[.int .i64 P,.int .i64 I],.agg #[.int .i64 C,.int .i64 D],.slice ha hs.length hc] w fun e w' => ∃ a' c', e=.returned (.tuple #[.agg #[.slice a' T.length c'],.int .i64 R])/\Below w.heap.size w w' /\ ∀ w3:World,(∀ b,w.heap.size<=b->w3.heap[b]?=w'.heap[b]?)->zae w3 a' T:=by
 have df:=fun(W:World) (b7:Option Addr) (g9:Nat) (hW:zae W a S) (n7:zam W b7 ((P,I) ::(C,D) :: hs))=>zcM a c S b7 g9 ((P,I) ::(C,D) :: hs) W hN hB hW (by simp;omega) n7;rw[hE] at df;have DF:Hid (∀ (W:World) (b7:Option Addr) (g9:Nat),zae W a S->zam W b7 ((P,I) ::(C,D) :: hs)->Calls Tryz.prog 105 #[.agg #[.slice a S.length c],.slice b7 (hs.length+2) g9] W fun e w' => e=.returned (.int .i64 E)/\Below W.heap.size W w'):=df;have HS:Hid (zae w a S):=hS;have HH:Hid (zam w ha hs):=hH;obtain⟨i0,o0,p3,p4,p5⟩:=info_parts zqW;clear hS hB df hE hH;obtain⟨m,h4⟩:∃ m,hs.length=m:=⟨_,rfl⟩;have HM:Hid (hs.length=m):=h4;rw[h4] at hm DF |-;have o8:¬ (1:Int)<(m:Int):=by omega
 have q5:decide ((1:Int)<(m:Int))=false:=decide_eq_false o8;obtain⟨n,hn⟩:∃ n,S.length=n:=⟨_,rfl⟩;have HN:Hid (S.length=n):=hn;clear h4;have HC:Hid (zng S T P C D hs E R):=hI;rw[hn] at hN DF |-;clear hn hI
 go_enter Tryz.func112,Tryz.ntmps112
 go_upto_region 3 with fail
 obtain⟨W4,e8⟩:∃ W4,W4=((((w.alloc (.cells #[.slice a n c] 24)).alloc (.cells #[.int .i64 P,.int .i64 I] 39)).alloc (.cells #[.int .i64 C,.int .i64 D] 39)).alloc (.cells #[.slice none 0 0] 24)):=⟨_,rfl⟩;rw[<- e8];have e9:Below (w.heap.size+1+1+1+1) ((((w.alloc (.cells #[.slice a n c] 24)).alloc (.cells #[.int .i64 P,.int .i64 I] 39)).alloc (.cells #[.int .i64 C,.int .i64 D] 39)).alloc (.cells #[.slice none 0 0] 24)) W4:=by rw[e8];exact yj _ _
 obtain⟨l0,l1,l2,l3,l4,l5,l6⟩:=zbC e9;have g0:W4.heap.size=w.heap.size+1+1+1+1:=by rw[e8];simp
 have d9:Hid (Below w.heap.size w W4):=(zaq _ _ _ _ _).trans (e9.mono (by omega));have e6:Hid (Below (w.heap.size+1+1+1+1) ((((w.alloc (.cells #[.slice a n c] 24)).alloc (.cells #[.int .i64 P,.int .i64 I] 39)).alloc (.cells #[.int .i64 C,.int .i64 D] 39)).alloc (.cells #[.slice none 0 0] 24)) W4):=e9;clear e8 e9
 go_cut [10] (fun s11 wx=>s11=.int .i64 E/\Hid (Below (w.heap.size+1+1+1+1) ((((w.alloc (.cells #[.slice a n c] 24)).alloc (.cells #[.int .i64 P,.int .i64 I] 39)).alloc (.cells #[.int .i64 C,.int .i64 D] 39)).alloc (.cells #[.slice none 0 0] 24)) wx))
 case first =>
  have r2:=World.new_ne W4 _ l0;have r3:=World.new_ne W4 _ l1;have r4:=World.new_ne W4 _ l2;have r5:=World.new_ne W4 _ l3;have r6:=World.new_ne W4 _ l4
  cases hs with
  | nil =>
   have e0:m=0:=HM.out.symm;subst e0
   cases ha with
   | none =>
    go_region_held3 (fun M=>M.cell? ⟨w.heap.size,0,none⟩=some (.slice a n c)/\M.cell? ⟨w.heap.size+1,0,none⟩=some (.int .i64 P)/\M.cell? ⟨w.heap.size+1,1,none⟩=some (.int .i64 I)/\M.cell? ⟨w.heap.size+1+1,0,none⟩=some (.int .i64 C)/\M.cell? ⟨w.heap.size+1+1,1,none⟩=some (.int .i64 D)) (go_keep) (first|(go_at_call 105;refine(DF.out _ _ 2 (HS.out.below (d9.out.alloc (by omega) _).drew) (zfk _ _ _ _ _ _ (by go_simp) (by go_simp) (by go_simp) (by go_simp))).mono ?_;rintro e w6 ⟨rfl,c6⟩;have U:Below (w.heap.size+1+1+1+1) ((((w.alloc (.cells #[.slice a n c] 24)).alloc (.cells #[.int .i64 P,.int .i64 I] 39)).alloc (.cells #[.int .i64 C,.int .i64 D] 39)).alloc (.cells #[.slice none 0 0] 24)) w6:=(e6.out.alloc (by omega) _).drew.trans (c6.mono (by simp;omega));obtain⟨m0,m1,m2,m3,m4,m5,m6⟩:=zbC U;have Z:Hid (Below (w.heap.size+1+1+1+1) ((((w.alloc (.cells #[.slice a n c] 24)).alloc (.cells #[.int .i64 P,.int .i64 I] 39)).alloc (.cells #[.int .i64 C,.int .i64 D] 39)).alloc (.cells #[.slice none 0 0] 24)) w6):=U;clear c6 U))
    go_wp2_with fail
    go_meet
    case rel=>exact⟨rfl,Z⟩
   | some A0 =>
    go_region_held3 (fun M=>M.cell? ⟨w.heap.size,0,none⟩=some (.slice a n c)/\M.cell? ⟨w.heap.size+1,0,none⟩=some (.int .i64 P)/\M.cell? ⟨w.heap.size+1,1,none⟩=some (.int .i64 I)/\M.cell? ⟨w.heap.size+1+1,0,none⟩=some (.int .i64 C)/\M.cell? ⟨w.heap.size+1+1,1,none⟩=some (.int .i64 D)) (go_keep) (first|(go_at_call 105;refine(DF.out _ _ 2 (HS.out.below (d9.out.alloc (by omega) _).drew) (zfk _ _ _ _ _ _ (by go_simp) (by go_simp) (by go_simp) (by go_simp))).mono ?_;rintro e w6 ⟨rfl,c6⟩;have U:Below (w.heap.size+1+1+1+1) ((((w.alloc (.cells #[.slice a n c] 24)).alloc (.cells #[.int .i64 P,.int .i64 I] 39)).alloc (.cells #[.int .i64 C,.int .i64 D] 39)).alloc (.cells #[.slice none 0 0] 24)) w6:=(e6.out.alloc (by omega) _).drew.trans (c6.mono (by simp;omega));obtain⟨m0,m1,m2,m3,m4,m5,m6⟩:=zbC U;have Z:Hid (Below (w.heap.size+1+1+1+1) ((((w.alloc (.cells #[.slice a n c] 24)).alloc (.cells #[.int .i64 P,.int .i64 I] 39)).alloc (.cells #[.int .i64 C,.int .i64 D] 39)).alloc (.cells #[.slice none 0 0] 24)) w6):=U;clear c6 U))
    go_wp2_with fail
    go_meet
    case rel=>exact⟨rfl,Z⟩
  | cons h t =>
   have e0:t=[]/\m=1:=by
    have h1:=HM.out;rw[List.length_cons] at h1;exact⟨List.length_eq_zero_iff.1 (by omega),by omega⟩
   obtain⟨e0,e1⟩:=e0;subst e0;subst e1;obtain⟨Q,qu⟩:=h;obtain⟨a6,a7,eh,_,_⟩:=HH.out 0 (by simp);subst eh
   have HC:Hid (∀ W,zam W (some ⟨a6,a7,none⟩) [(Q,qu)]->W.cell? ⟨a6,a7,none⟩=some (.int .i64 Q)/\W.cell? ⟨a6,a7+1,none⟩=some (.int .i64 qu)):=fun W hW=>by
    obtain⟨b,o,e,h1,h2⟩:=hW 0 (by simp);cases e;exact⟨by simpa using h1,by simpa using h2⟩
   have g4:Hid (∀ b,some (⟨w.heap.size+1+1+1+1,0,none⟩:Addr)=some b->∀ j u,([.int .i64 P,.int .i64 I,.int .i64 C,.int .i64 D]:List Value)[j]?=some u->((W4.alloc (.cells #[.int .i64 P,.int .i64 I,.int .i64 C,.int .i64 D] 39)).drew).cell? (b.add j)=some u):=fun b hb j u hj=>by
    cases hb;rw[Addr.add_lit,<- g0]
    match j,hj with
    | 0,hj=>cases hj;go_simp
    | 1,hj=>cases hj;go_simp
    | 2,hj=>cases hj;go_simp
    | 3,hj=>cases hj;go_simp
   have j8:Hid (∀ j u,([.int .i64 Q,.int .i64 qu]:List Value)[j]?=some u->((W4.alloc (.cells #[.int .i64 P,.int .i64 I,.int .i64 C,.int .i64 D] 39)).drew).cell? ((⟨a6,a7,none⟩:Addr).add j)=some u):=fun j u hj=>by
    obtain⟨c0,c1⟩:=HC.out _ (HH.out.below (d9.out.alloc (by omega) (.cells #[.int .i64 P,.int .i64 I,.int .i64 C,.int .i64 D] 39)).drew);rw[Addr.add_lit]
    match j,hj with
    | 0,hj=>cases hj;exact c0
    | 1,hj=>cases hj;exact c1
   go_region_held3 (fun M=>M.cell? ⟨w.heap.size,0,none⟩=some (.slice a n c)/\M.cell? ⟨w.heap.size+1,0,none⟩=some (.int .i64 P)/\M.cell? ⟨w.heap.size+1,1,none⟩=some (.int .i64 I)/\M.cell? ⟨w.heap.size+1+1,0,none⟩=some (.int .i64 C)/\M.cell? ⟨w.heap.size+1+1,1,none⟩=some (.int .i64 D)) (go_keep) (first
    |(refine step_append_grows rfl (.tmp 21) (.tmp 22) 25 rfl 39 i0 (.agg #[.int .i64 0,.int .i64 0]) 2 16 Tryz.underlying25 o0 p3 p4 p5 rfl (by decide) (some ⟨w.heap.size+1+1+1+1,0,none⟩) 2 2 [.int .i64 P,.int .i64 I,.int .i64 C,.int .i64 D] rfl (fun h=>by cases h) rfl g4.out ⟨a6,a7,none⟩ 1 hc [.int .i64 Q,.int .i64 qu] rfl rfl j8.out (by intro u hu;simp at hu;rcases hu with rfl|rfl <;> rfl) (by decide) (by decide) (by decide) ?_;intro v5 w5 d6 a9;have U:Below (w.heap.size+1+1+1+1) ((((w.alloc (.cells #[.slice a n c] 24)).alloc (.cells #[.int .i64 P,.int .i64 I] 39)).alloc (.cells #[.int .i64 C,.int .i64 D] 39)).alloc (.cells #[.slice none 0 0] 24)) w5:=(e6.out.alloc (by omega) _).drew.grown a9 (by simp;omega) (fun k hk=>by cases hk);obtain⟨k0,k1,k2,k3,k4,k5,k6⟩:=zbC U;obtain⟨n9,p9,p2,l9⟩:=ziK d6;subst p2;have n4:Hid (zam w5 n9 [(P,I),(C,D),(Q,qu)]):=l9;have H5:Hid (Below (w.heap.size+1+1+1+1) ((((w.alloc (.cells #[.slice a n c] 24)).alloc (.cells #[.int .i64 P,.int .i64 I] 39)).alloc (.cells #[.int .i64 C,.int .i64 D] 39)).alloc (.cells #[.slice none 0 0] 24)) w5):=U;clear d6 a9 U l9)
    |(go_at_call 105;refine(DF.out _ _ _ (HS.out.below ((zaq _ _ _ _ _).trans (H5.out.mono (by omega)))) n4.out).mono ?_;rintro e w6 ⟨rfl,k9⟩;have m9:=H5.out.size;simp only[yk] at m9;have g6:Below (w.heap.size+1+1+1+1) ((((w.alloc (.cells #[.slice a n c] 24)).alloc (.cells #[.int .i64 P,.int .i64 I] 39)).alloc (.cells #[.int .i64 C,.int .i64 D] 39)).alloc (.cells #[.slice none 0 0] 24)) w6:=H5.out.trans (k9.mono m9);obtain⟨m0,m1,m2,m3,m4,m5,m6⟩:=zbC g6;have Z:Hid (Below (w.heap.size+1+1+1+1) ((((w.alloc (.cells #[.slice a n c] 24)).alloc (.cells #[.int .i64 P,.int .i64 I] 39)).alloc (.cells #[.int .i64 C,.int .i64 D] 39)).alloc (.cells #[.slice none 0 0] 24)) w6):=g6;clear k9 g6))
   go_wp2_with fail
   go_meet
   case rel=>exact⟨rfl,Z⟩
 case rest =>
 obtain⟨rfl,Z⟩:=hcut;clear l0 l1 l2 l3 l4 l5 l6 g0 d9 e6 DF;obtain⟨w6,rfl⟩:∃ W,W=wc:=⟨_,rfl⟩;obtain⟨m0,m1,m2,m3,m4,m5,m6⟩:=zbC Z.out;have o2:=HC.out;clear HC;rcases o2 with ⟨e7,hR,hT⟩ |⟨O,ch,rfl,rfl,e7,f7,hpa,hch,hX,hY⟩
 ·have hz:(E == 0)=false:=by simp[e7]
  have r1:decide (E=0)=false:=decide_eq_false e7;have HR:Hid _:=hR;have HT:Hid (T=[]):=hT;clear hR hT
  go_wp2_with fail
  refine yq (v:=.tuple #[.agg #[.slice none 0 0],.int .i64 E]) (by simp[results,Tryz.results112,go_sem,m5]) rfl ⟨none,⟨0,by rw[HR.out,HT.out];rfl⟩,?_,fun w3 _=>by rw[HT.out];exact fun _ hi=>absurd hi (yr _)⟩;exact((zaq _ _ _ _ _).trans (Z.out.mono (by omega))).setCell (by simp;omega) _
 ·subst e7;have hX:Hid _:=hX;have hY:Hid _:=hY;clear hN;have hN:=f7;have b5:Hid _:=fun(W:World) (hW:zae W a S)=>zhR a c S ch O W (by omega) hch hW;clear f7;rw[HN.out] at hN hpa hch b5;have J:Below w.heap.size w w6:=(zaq _ _ _ _ _).trans (Z.out.mono (by omega));by_cases hfit:zef S ch O=false
  ·rw[hfit] at b5;obtain⟨rfl,rfl⟩:=hX.out hfit;clear hX hY
   go_wp2_with (go_at_call 133;refine(b5.out _ (HS.out.below J)).mono ?_;rintro e w7 ⟨rfl,a4⟩;have V:=Z.out.size;simp only[yk] at V;have b4:Below (w.heap.size+1+1+1+1) ((((w.alloc (.cells #[.slice a n c] 24)).alloc (.cells #[.int .i64 (O:Int),.int .i64 I] 39)).alloc (.cells #[.int .i64 (ch:Int),.int .i64 D] 39)).alloc (.cells #[.slice none 0 0] 24)) w7:=Z.out.trans (a4.mono V);obtain⟨j0,j1,j2,j3,j4,j5,j6⟩:=zbC b4;have H7:Hid (Below (w.heap.size+1+1+1+1) ((((w.alloc (.cells #[.slice a n c] 24)).alloc (.cells #[.int .i64 (O:Int),.int .i64 I] 39)).alloc (.cells #[.int .i64 (ch:Int),.int .i64 D] 39)).alloc (.cells #[.slice none 0 0] 24)) w7):=b4;clear a4 b4 V)
   refine yq (v:=.tuple #[.agg #[.slice none 0 0],.int .i64 6]) (by simp[results,Tryz.results112,go_sem,j5]) rfl ⟨none,0,rfl,?_,fun _ _ _ hi=>absurd hi (yr _)⟩;exact((zaq _ _ _ _ _).trans (H7.out.mono (by omega))).setCell (by simp;omega) _
  ·have hfit:zef S ch O=true:=by simpa using hfit
   rw[hfit] at b5;obtain⟨hQ,hA,hK⟩:=hY.out hfit;have g5:Hid _:=hQ;have HA:Hid _:=hA;have g3:Hid _:=hK;rw[HN.out] at g5;clear hfit hQ hA hK hY hX
   go_wp2_with (go_at_call 133;refine(b5.out _ (HS.out.below J)).mono ?_;rintro e w7 ⟨rfl,a4⟩;have V:=Z.out.size;simp only[yk] at V;have b4:Below (w.heap.size+1+1+1+1) ((((w.alloc (.cells #[.slice a n c] 24)).alloc (.cells #[.int .i64 (O:Int),.int .i64 I] 39)).alloc (.cells #[.int .i64 (ch:Int),.int .i64 D] 39)).alloc (.cells #[.slice none 0 0] 24)) w7:=Z.out.trans (a4.mono V);have H7:Hid (Below (w.heap.size+1+1+1+1) ((((w.alloc (.cells #[.slice a n c] 24)).alloc (.cells #[.int .i64 (O:Int),.int .i64 I] 39)).alloc (.cells #[.int .i64 (ch:Int),.int .i64 D] 39)).alloc (.cells #[.slice none 0 0] 24)) w7):=b4;clear a4 b4 V)
   clear m0 m1 m2 m3 m4 m5 m6 J
   go_loopg [39] 1 (fun g1 s39 wr=>∃ k:Nat,k<=m/\m-k<=g1/\s39=.int .i64 k/\Hid (Below (w.heap.size+1+1+1+1) ((((w.alloc (.cells #[.slice a n c] 24)).alloc (.cells #[.int .i64 (O:Int),.int .i64 I] 39)).alloc (.cells #[.int .i64 (ch:Int),.int .i64 D] 39)).alloc (.cells #[.slice none 0 0] 24)) wr)/\Hid (0<k->∀ h ∈ hs,(nd S h.1.toNat).p=O))
   case atStart=>exact⟨0,by omega,by omega,rfl,H7,(fun h=>absurd h (Nat.lt_irrefl _):0<0->∀ h ∈ hs,(nd S h.1.toNat).p=O)⟩
   case round =>
    clear H7;obtain⟨k,hk,q0,rfl,Z,A⟩:=hrel;have J:Below w.heap.size w wr:=(zaq _ _ _ _ _).trans (Z.out.mono (by omega));have V:=Z.out.size;simp only[yk] at V;obtain⟨j0,j1,j2,j3,j4,j5,j6⟩:=zbC Z.out;by_cases q4:k<m
    ·have o7:m=1:=by omega
     have o4:k=0:=by omega
     subst o4;subst o7
     obtain⟨h,d8⟩:∃ h,hs=[h]:=by
      cases hs with
      | nil=>exact absurd HM.out (by simp)
      | cons x t =>
       have h1:=HM.out;rw[List.length_cons] at h1;have ht:t=[]:=List.length_eq_zero_iff.1 (by omega);exact⟨x,by rw[ht]⟩
     obtain⟨q,h5,p0⟩:=g5.out h (by rw[d8];simp);obtain⟨a6,a7,eh,c8,f6⟩:=(HH.out.below J) 0 (by rw[d8];simp);rw[d8] at c8 f6;simp only[List.getD_cons_zero] at c8 f6;rw[h5] at c8;subst eh;have x0:wr.cell? ⟨a6,a7,none⟩=some (.int .i64 (q:Int)):=by simpa using c8
     have x1:wr.cell? ⟨a6,a7+1,none⟩=some (.int .i64 h.2):=by simpa using f6
     obtain⟨b,o,ea,_,_,_,_,qp,_⟩:=(HS.out.below J) q (by rw[HN.out];exact p0);subst ea;clear c8 f6 A;have q6:(q:Int)<(n:Int):=by omega
     have f0:=ye _ _ qp;have r0:=ye _ _ x0;have J0:=zcr j0;have J1:=zcr j1;have J5:=zcr j5;have q3:=ye _ _ j5;by_cases d7:(nd S q).p=(O:Int)
     ·have NX:Hid (0<(1:Nat)->∀ h ∈ hs,(nd S h.1.toNat).p=O):=fun _ h' hh=>by
       rw[d8,List.mem_singleton] at hh;rw[hh,h5,yg];exact d7
      rw[d7] at qp;have QQ:=zcr qp;clear d7
      go_wp2_with fail
      go_quiet (fail)
      go_wp2_with fail
      go_roundg 0
      case measure=>omega
      case rel=>exact⟨1,by omega,by omega,by go_num,Below.drewNs (Z.out.alloc (by omega) _) _,NX⟩
     ·obtain⟨rfl,rfl⟩:=HA.out ⟨h,by rw[d8];simp,by rw[h5,yg];exact d7⟩;clear g3 HA;generalize (nd S q).p=pq at *;have q7:(pq ==(O:Int))=false:=beq_eq_false_iff_ne.2 d7;have QQ:=zcr qp
      go_wp2_with fail
      go_quiet (fail)
      go_wp2_with fail
      refine yq (v:=.tuple #[.agg #[.slice none 0 0],.int .i64 6]) (by simp[results,Tryz.results112,go_sem,J5]) rfl ⟨none,0,rfl,?_,fun _ _ _ hi=>absurd hi (yr _)⟩;exact(Below.drewNs (J.alloc J.size _) _).setCell (by simp;omega) _
    ·have o5:k=m:=by omega
     have m8:∀ h ∈ hs,(nd S h.1.toNat).p=O:=by
      cases hs with
      | nil=>exact fun _ hh=>by cases hh
      | cons x t =>
       have:=HM.out;rw[List.length_cons] at this;exact A.out (by omega)
     subst o5;obtain⟨rfl,j9,n1,hK⟩:=g3.out m8;have j7:Hid (T.length=n):=(n1.trans HN.out:T.length=n);have DC:Hid _:=fun(W:World) (hW:zae W a S)=>copy_any a c S W (by rw[HN.out];exact hN) j9 hW;have DH:Hid _:=fun(W:World) (hW:zam W ha hs)=>zfX ha hc hs (ch:Int) D W (by rw[HM.out];omega) hW
     have OC:Hid (∀ (wr:World) (B g:Nat) (kb kc:Nat->Nat),Own wr B g S kb kc S.length->B<=g/\g<wr.heap.size/\(∀ b,zsF g S.length kb b->g<=b/\b<wr.heap.size)):=fun wr B g kb kc h=>by
      obtain⟨hB,F,hF,n8,hg,_⟩:=h;refine⟨hB,hF.lt,fun b hb=>?_⟩;rcases hb with rfl |⟨i,hi,rfl⟩
      ·exact⟨yi _,hF.lt⟩
      ·exact⟨Nat.le_of_lt (hg i hi),(n8 i hi).row⟩
     obtain⟨bb,f0⟩:∃ bb,decide (((ch:Int),D) ∈ hs)=bb:=⟨_,rfl⟩;have h8:Hid _:=f0;rw[f0,HM.out] at DH;rw[HN.out] at DC OC;have i7:Hid _:=hK;clear A m8 g3 HA hK j9 n1 f0 g5
     go_wp2_with fail
     refine(DC.out _ (HS.out.below J)).mono ?_;rintro e w7 ⟨g,kb,kc,rfl,a4,g7⟩;obtain⟨q1,q2,l8⟩:=OC.out _ _ _ _ _ g7;have HX:Hid (∀ b,zsF g n kb b->g<=b/\b<w7.heap.size):=l8;clear l8;have q8:=a4.size;have H7:Hid (Below (w.heap.size+1+1+1+1) ((((w.alloc (.cells #[.slice a n c] 24)).alloc (.cells #[.int .i64 (O:Int),.int .i64 I] 39)).alloc (.cells #[.int .i64 (ch:Int),.int .i64 D] 39)).alloc (.cells #[.slice none 0 0] 24)) w7):=Z.out.trans (a4.mono V);have n5:Hid (Own w7 wr.heap.size g S kb kc n):=g7;obtain⟨i0,i1,i2,i3,i4,i5,i6⟩:=zbC H7.out;have M7:Hid (∀ w8 o1,Below (w7.heap.size+1) (w7.alloc o1) w8->Below (w.heap.size+1+1+1+1) ((((w.alloc (.cells #[.slice a n c] 24)).alloc (.cells #[.int .i64 (O:Int),.int .i64 I] 39)).alloc (.cells #[.int .i64 (ch:Int),.int .i64 D] 39)).alloc (.cells #[.slice none 0 0] 24)) w8/\Below w7.heap.size w7 w8):=fun w8 o1 h=>⟨(H7.out.alloc (by omega) o1).trans (h.mono (by omega)),((yj _ _).alloc (yi _) o1).trans (h.mono (by omega))⟩;have I3:=zcr i3;have I4:=zcr i4;clear j0 j1 j2 j3 j4 j5 j6 a4 g7
     go_wp2_with fail
     refine(DH.out _ (HH.out.below (((zaq _ _ _ _ _).trans (H7.out.mono (by omega))).alloc (by omega) _))).mono ?_;rintro e w8 ⟨rfl,c7⟩;simp only[yk] at c7;have b8:w8.cell? ⟨w7.heap.size,0,none⟩=some (.slice (some ⟨g,0,none⟩) n n):=zgJ c7;obtain⟨H8,l7⟩:=M7.out _ _ c7;have p1:=c7.size;simp only[yk] at p1;have h9:Hid (Below (w.heap.size+1+1+1+1) ((((w.alloc (.cells #[.slice a n c] 24)).alloc (.cells #[.int .i64 (O:Int),.int .i64 I] 39)).alloc (.cells #[.int .i64 (ch:Int),.int .i64 D] 39)).alloc (.cells #[.slice none 0 0] 24)) w8):=H8;have i9:Hid (Own w8 wr.heap.size g S kb kc n):=Own.below n5.out l7;clear i0 i1 i2 i3 i4 i5 i6 c7 I3 I4;obtain⟨i0,i1,i2,i3,i4,i5,i6⟩:=zbC H8;clear H8;have o6:=i7.out;clear i7;rcases o6 with ⟨c9,hT⟩ |⟨c9,o9,m7,at', k8,f8,hT⟩
     ·have g8:bb=true:=h8.out.symm.trans (decide_eq_true c9);subst g8;have HT:Hid (T=S):=hT;clear c9 hT;have n3:Hid (Below w.heap.size w w8):=(zaq _ _ _ _ _).trans (h9.out.mono (by omega));have NS:Hid (∀ v (w3:World),(∀ b,g<=b->w3.heap[b]?=(w8.setCell ⟨w.heap.size+1+1+1,0,none⟩ v).heap[b]?)->zae w3 (some ⟨g,0,none⟩) S):=fun v w3 h6=>Own.up (kb:=kb) (kc:=kc) (B:=wr.heap.size) (by rw[HN.out];exact i9.out) _ (fun b hb=>(h6 b hb).trans (yo _ _ _ _ (by show b≠w.heap.size+1+1+1;omega)))
      go_wp2_with fail
      refine yq (v:=.tuple #[.agg #[.slice (some ⟨g,0,none⟩) n n],.int .i64 0]) (by simp[results,Tryz.results112,go_sem,i5]) rfl ⟨some ⟨g,0,none⟩,n,by rw[j7.out],n3.out.setCell (by simp;omega) _,fun w3 h3=>by rw[HT.out];exact NS.out _ w3 (fun b hb=>h3 b (by have:=J.size;omega))⟩
     ·have g8:bb=false:=h8.out.symm.trans (decide_eq_false c9);subst g8;have HT:Hid (T=zaQ (leaveG S ch) O ch at'):=hT;have DE:Hid _:=fun(B g c:Nat) (kb kc:Nat->Nat) (W:World) (hO:Own W B g (leaveG S ch) kb kc (leaveG S ch).length) (hW:zam W ha hs)=>znJ B g c (leaveG S ch) kb kc O ch at' ha hc hs W hO (by rw[zaF,HN.out];exact hpa) (by rw[zaF,HN.out];exact hch) o9 (by rw[HM.out];exact hm) hW k8 f8;have DL:Hid _:=fun(B g c:Nat) (kb kc:Nat->Nat) (W:World) (hO:Own W B g S kb kc S.length)=>zoo B g c S kb kc ch W hO (by rw[HN.out];exact hch) m7;simp only[zaF,HN.out,HM.out] at DE DL
      have OP:Hid (∀ g kb b,b=g\/b=kb O->zsF g n kb b):=fun g kb b hb=>by
       rcases hb with hb|hb
       ·exact Or.inl hb
       ·exact Or.inr ⟨O,hpa,hb⟩
      clear c9 hT m7 k8 f8
      go_wp2_with fail
      refine(DL.out _ g n kb kc _ i9.out).mono ?_;rintro e w9 ⟨rfl,a5,k7⟩;have q9:=a5.size;have b9:=(a5.cell (ye _ _ b8) (fun h=>by have:=HX.out _ h;simp at this)).trans b8;have H9:Below (w.heap.size+1+1+1+1) ((((w.alloc (.cells #[.slice a n c] 24)).alloc (.cells #[.int .i64 (O:Int),.int .i64 I] 39)).alloc (.cells #[.int .i64 (ch:Int),.int .i64 D] 39)).alloc (.cells #[.slice none 0 0] 24)) w9:=h9.out.trans (a5.below (by omega) (fun k hk=>by have:=HX.out _ hk;omega));have n6:Hid (Own w9 wr.heap.size g (leaveG S ch) kb kc n):=k7;have g2:Hid (Below (w.heap.size+1+1+1+1) ((((w.alloc (.cells #[.slice a n c] 24)).alloc (.cells #[.int .i64 (O:Int),.int .i64 I] 39)).alloc (.cells #[.int .i64 (ch:Int),.int .i64 D] 39)).alloc (.cells #[.slice none 0 0] 24)) w9):=H9;clear i0 i1 i2 i3 i4 i5 i6 b8 a5 k7;obtain⟨i0,i1,i2,i3,i4,i5,i6⟩:=zbC H9;clear H9
      go_wp2_with fail
      refine(DE.out _ g n kb kc _ n6.out (HH.out.below ((zaq _ _ _ _ _).trans (g2.out.mono (by omega))))).mono ?_;rintro e n2 ⟨rfl,a8,f9⟩;have b6:∀ b,b=g\/b=kb O->g<=b/\b<w7.heap.size:=fun b hb=>HX.out b (OP.out g kb b hb);have p7:=(a8.cell (ye _ _ b9) (fun h=>by have:=b6 _ h;simp at this)).trans b9;have p6:=(a8.cell (ye _ _ i5) (fun h=>by have:=b6 _ h;dsimp only at this;omega)).trans i5;have p8:=fun o=>(a8.frozen (p:=⟨w.heap.size+1+1+1,o,none⟩) (ye w9 ⟨w.heap.size+1+1+1,0,none⟩ i5) (fun h=>by have:=b6 _ h;dsimp only at this;omega)).trans (i6 o);have i8:Hid _:=f9;have h7:Hid (Below w.heap.size w n2):=((zaq _ _ _ _ _).trans (g2.out.mono (by omega))).trans (a8.below (by have:=g2.out.size;simp at this;omega) (fun k hk=>by have:=b6 _ hk;omega));have NS:Hid (∀ v (w3:World),(∀ b,g<=b->w3.heap[b]?=(n2.setCell ⟨w.heap.size+1+1+1,0,none⟩ v).heap[b]?)->zae w3 (some ⟨g,0,none⟩) (zaQ (leaveG S ch) O ch at')):=fun v w3 h6=>i8.out _ (fun b hb=>(h6 b hb).trans (yo _ _ _ _ (by show b≠w.heap.size+1+1+1;omega)));clear f9 a8 i0 i1 i2 i3 i4 i5 i6 b9 b6
      go_wp2_with fail
      refine yq (v:=.tuple #[.agg #[.slice (some ⟨g,0,none⟩) n n],.int .i64 0]) (by simp[results,Tryz.results112,go_sem,p6]) rfl ⟨some ⟨g,0,none⟩,n,by rw[j7.out],h7.out.setCell (by simp;omega) _,fun w3 h3=>by rw[HT.out];exact NS.out _ w3 (fun b hb=>h3 b (by have:=J.size;omega))⟩
end Go.Proofs.YtgjfmepbphfjoaaGreat
