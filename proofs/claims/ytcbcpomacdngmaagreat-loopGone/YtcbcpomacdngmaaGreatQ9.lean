/-
  x
-/
import Derived.Test.YtcbcpomacdngmaaGreatQ8
namespace Go.Proofs.YtcbcpomacdngmaaGreat
set_option maxRecDepth 100000
set_option maxHeartbeats 4000000
set_option linter.unusedVariables false
open Go.RowKit
theorem zpR{S:List Nd}{j:Nat}(h:S.length<=j):nd S j=zhr:=by
 unfold nd;rw[List.getD_eq_getElem?_getD,List.getElem?_eq_none h];rfl
theorem zgB{N:Int}{x:Nd}(h1:zcS x=true)(D:zed N x=true)(E:zdZ x=true):zfy N x=0:=by
 unfold zfy;rw[yb h1,yb D,yb E]
theorem zft{S:List Nd}(T:∀ i,i<S.length->(nd S i).ks.Nodup)(M:∀ i,i<S.length->∀ x ∈ (nd S i).ks,∃ j:Nat,x=j/\j<S.length/\(nd S j).u=true/\(nd S j).p=i)
  (U:∀ j,j<S.length->(nd S j).p≠-1->∃ i:Nat,i<S.length/\(j:Int) ∈ (nd S i).ks):zeW S:=by
 refine⟨fun i hi x hx=>?_,fun j Z=>⟨?_,fun J=>?_⟩⟩
 ·obtain⟨j,rfl,h1,D,F⟩:=M i hi x hx;exact⟨by omega,by rw[yi];exact D,by rw[yi];exact F⟩
 ·have:∀ k,k<=S.length->zhs S k j<=1/\(∀ i:Nat,(nd S j).p=i->k<=i->zhs S k j=0):=by
   intro k
   induction k with
   | zero=>intro _;rw[zmF];exact⟨by omega,fun _ _ _=>rfl⟩
   | succ k ih =>
    intro hk;obtain⟨h1,D⟩:=ih (by omega);rw[zfj S k j (by omega)];by_cases E:(j:Int) ∈ (nd S k).ks
    ·obtain⟨O,e,_,_,J⟩:=M k (by omega) _ E;have:O=j:=by omega
     subst this;have F:=D k J (yj _);have h4:=List.nodup_iff_count.1 (T k (by omega)) (O:Int);exact⟨by omega,fun i hi I=>by omega⟩
    ·rw[List.count_eq_zero.2 E];exact⟨by omega,fun i hi I=>by have:=D i hi (by omega);omega⟩
  exact(this S.length (yj _)).1
 ·obtain⟨i,hi,E⟩:=U j Z J;have h1:=zfj S i j hi;have D:=List.count_pos_iff.2 E;have F:=zmE S j (k:=i+1) (k' := S.length) (by omega) (yj _);omega
theorem zkH{S:List Nd}(D:Nat):∀ (f:Nat) (y:Int),zbC S zal (zep D) f y false=true->∃ (E:Nat) (j:Nat),y=E/\E<S.length/\j+1<=f/\Up S j E D
 | 0,_,h=>by simp[zbC] at h
 | f+1,y,h=>by
  simp only[zbC] at h;by_cases F:zik S.length y=true
  ·have T:0<=y/\y<=(S.length:Int)-1:=of_decide_eq_true F;obtain⟨E,rfl⟩:∃ k:Nat,y=(k:Int):=⟨y.toNat,by omega⟩;rw[yb F] at h;simp only[zep,yi] at h;by_cases e:(E:Int)=(D:Int)
   ·exact⟨E,0,rfl,by omega,by omega,by show E=D;omega⟩
   ·simp only[decide_eq_false e,Bool.not_false,if_true] at h;obtain⟨z,j,M,I,O,J⟩:=zkH D f _ h;exact⟨E,j+1,rfl,by omega,by omega,⟨z,I,M,J⟩⟩
  ·rw[ya F] at h;cases h
theorem zga{S:List Nd}{x D:Nat}(J:x<S.length)(h:zbt S x D=true):∃ j,1<=j/\j<=S.length/\Up S j x D:=by
 unfold zbt at h;rw[yb (show zik S.length (x:Int)=true from decide_eq_true ⟨by omega,by omega⟩),yi] at h;obtain⟨y,j,e,F,I,E⟩:=zkH D _ _ h;exact⟨j+1,by omega,by omega,⟨y,F,e,E⟩⟩
theorem zmm{S:List Nd}{x D j:Nat}(F:x<S.length)(h1:1<=j)(E:j<=S.length)(h:Up S j x D):zbt S x D=true:=by
 obtain⟨j,rfl⟩:∃ i,j=i+1:=⟨j-1,by omega⟩;unfold zbt;rw[yb (show zik S.length (x:Int)=true from decide_eq_true ⟨by omega,by omega⟩),yi,zlB false h E]
theorem Up.lt{S:List Nd}:∀ {j x y:Nat},x<S.length->Up S j x y->y<S.length
 | 0,_,_,E,h=>by cases h;exact E
 | _+1,_,_,_,⟨_,h1,_,D⟩=>Up.lt h1 D
theorem WF.up_short'{S:List Nd}(h:WF S):∀ (j x z:Nat) (r:List Nat),x<S.length->(x :: r).Nodup->(∀ y ∈ r,y<S.length/\∃ i,1<=i/\i<=r.length/\Up S i y x)->Up S j x z->j+r.length+1<=S.length
 | 0,x,z,r,M,hn,J,_=>by
  have:=ziS hn (fun y E=>by
   rcases List.mem_cons.1 E with rfl|E
   ·exact M
   ·exact(J y E).1)
  simp at this;omega
 | j+1,x,z,r,M,hn,J,⟨y,h1,T,h3⟩=>by
  have D:∀ y ∈ x :: r,y<S.length:=fun y E=>by
   rcases List.mem_cons.1 E with rfl|E
   ·exact M
   ·exact(J y E).1
  have hlen:=ziS hn D;simp at hlen
  have I:∀ q ∈ x :: r,∃ i,1<=i/\i<=(x :: r).length/\Up S i q y:=fun q F=>by
   rcases List.mem_cons.1 F with rfl|F
   ·exact⟨1,by omega,by simp,WF.up_one h1 T⟩
   ·obtain⟨_,i,U,Z,O⟩:=J q F;exact⟨i+1,by omega,by simp;omega,O.trans (WF.up_one h1 T)⟩
  have:=h.up_short' j y z (x :: r) h1 (List.nodup_cons.2 ⟨fun hm=>by
   obtain⟨i,U,Z,O⟩:=I y hm;simp at Z;exact h.no_ring h1 U (by omega) O,hn⟩) (fun q F=>⟨D q F,I q F⟩) h3
  simp at this;omega
theorem WF.up_short{S:List Nd}(h:WF S){j x z:Nat}(E:x<S.length)(D:Up S j x z):j+1<=S.length:=by
 have:=h.up_short' j x z [] E (by simp) (fun y F=>by cases F) D;simpa using this
theorem zhp{S A:List Nd}{D:Nat}(hl:A.length=S.length)(I:∀ y,y<S.length->y≠D->zal (nd A y)=zal (nd S y)):∀ {j x y:Nat},x<S.length->Up A j x y->Up S j x y\/∃ i m,i+m=j/\Up S i x D/\Up A m D y
 | 0,_,_,_,h=>Or.inl h
 | j+1,x,y,M,⟨z,h1,E,F⟩=>by
  by_cases e:x=D
  ·subst e;exact Or.inr ⟨0,j+1,by omega,rfl,⟨z,h1,E,F⟩⟩
  ·rw[I x M e] at E;rw[hl] at h1;rcases zhp hl I h1 F with h |⟨i,m,hi,h,J⟩
   ·exact Or.inl ⟨z,h1,E,h⟩
   ·exact Or.inr ⟨i+1,m,by omega,⟨z,h1,E,h⟩,J⟩
theorem zml{S A:List Nd}(hl:A.length=S.length)(D:∀ y,y<S.length->∀ z:Nat,zal (nd A y)=z->zal (nd S y)=z):∀ {j x y:Nat},x<S.length->Up A j x y->Up S j x y
 | 0,_,_,_,h=>h
 | _+1,x,_,I,⟨z,h1,E,F⟩=>⟨z,by omega,D x I z E,zml hl D (by omega) F⟩
theorem WF.used_of_kid{S:List Nd}(h:WF S){i:Nat}(hi:i<S.length){x:Int}(E:x ∈ (nd S i).ks):(nd S i).u=true:=by
 have D:=(zbg (h.node i hi)).2.2
 cases hu:(nd S i).u with
 | true=>rfl
 | false =>
  unfold zdZ at D;rw[hu] at D;have:=(of_decide_eq_true D).2.2.2.1;rw[this] at E;cases E
theorem WF.host_of_parent{S:List Nd}(h:WF S){E:Nat}(hch:E<S.length)(F:(nd S E).p≠-1):(nd S E).h = -1/\(nd S E).u=true:=by
 have D:=(zbg (h.node E hch)).2.2;unfold zdZ at D
 split at D
 ·rename_i I
  split at D
  ·cases D
  ·split at D
   ·rename_i hh;exact⟨hh,I⟩
   ·exact absurd (of_decide_eq_true D) F
 ·exact absurd (of_decide_eq_true D).2.2.1 F
theorem WF.parent_place{S:List Nd}(h:WF S){D:Nat}(hch:D<S.length)(J:(nd S D).p≠-1):∃ pa:Nat,(nd S D).p=pa/\pa<S.length/\pa≠D/\(D:Int) ∈ (nd S pa).ks/\(nd S pa).u=true:=by
 have h1:=(zhh (zhi (h.node D hch))).2.2;obtain⟨pa,e⟩:∃ k:Nat,(nd S D).p=(k:Int):=⟨(nd S D).p.toNat,by omega⟩;obtain⟨E,F⟩:=h.in_kids hch e;refine⟨pa,e,E,fun I=>?_,F,h.used_of_kid E F⟩;subst I
 have M:zal (nd S pa)=pa:=by
  unfold zal;rw[yb (h.host_of_parent hch J).1];exact e
 exact h.no_ring hch (yj 1) (by omega) (WF.up_one hch M)
theorem zgz(S:List Nd)(pa D j:Nat):(nd (zbD S pa D) j).u=(nd S j).u/\(nd (zbD S pa D) j).n=(nd S j).n/\(nd (zbD S pa D) j).h=(nd S j).h/\(nd (zbD S pa D) j).t=(nd S j).t/\(nd (zbD S pa D) j).m=(nd S j).m/\(nd (zbD S pa D) j).c=(nd S j).c:=by
 by_cases E:j<S.length
 ·rw[zfw S pa D j E];unfold zgy;split
  ·rename_i e;subst e;exact⟨rfl,rfl,rfl,rfl,rfl,rfl⟩
  ·split
   ·rename_i e;subst e;exact⟨rfl,rfl,rfl,rfl,rfl,rfl⟩
   ·exact⟨rfl,rfl,rfl,rfl,rfl,rfl⟩
 ·rw[zpR (S:=zbD S pa D) (by rw[zbH];omega),zpR (by omega)];exact⟨rfl,rfl,rfl,rfl,rfl,rfl⟩
theorem zhL(S:List Nd){pa D j:Nat}(E:j<S.length):(nd (zbD S pa D) j).p=if j=D then -1 else (nd S j).p:=by
 rw[zfw S pa D j E];unfold zgy;split
 ·rfl
 ·split
  ·rename_i e;subst e;rfl
  ·rfl
theorem ziR(S:List Nd){pa D j:Nat}(E:pa≠D)(F:j<S.length):(nd (zbD S pa D) j).ks=if j=pa then flt (fun x=>decide (x=(D:Int))) (nd S pa).ks else (nd S j).ks:=by
 rw[zfw S pa D j F];unfold zgy;split
 ·rename_i e;subst e;rw[ya (fun e=>E e.symm)]
 ·split
  ·rfl
  ·rfl
theorem zjK{x y:Nd}(h1:x.n=y.n)(D:x.t=y.t)(E:x.m=y.m)(h:zcS y=true):zcS x=true:=by
 unfold zcS at *;rw[h1,D,E];exact h
theorem zeI{N:Int}{x:Nd}(h:zed N x=true):zlU N x.p=true/\zlU N x.h=true/\∀ k ∈ x.ks,zlU N k=true:=by
 unfold zed at h;simp only[Bool.and_eq_true,Bool.not_eq_true', List.any_eq_false] at h;refine⟨h.1,h.2.1,fun k D=>?_⟩;have:=h.2.2 k D;simpa using this
theorem zeH{N:Int}{x:Nd}(h1:zlU N x.p=true)(D:zlU N x.h=true)(E:∀ k ∈ x.ks,zlU N k=true):zed N x=true:=by
 unfold zed;simp only[Bool.and_eq_true,Bool.not_eq_true', List.any_eq_false];refine⟨h1,D,fun k F=>?_⟩;rw[E k F];simp
theorem zgX{x y:Nd}(D:y.u=true)(h1:x.u=y.u)(E:x.n=y.n)(F:x.h=y.h)(I:x.c=y.c)(h5:y.h≠-1->x.p=y.p)(h:zdZ y=true):zdZ x=true:=by
 unfold zdZ at *;rw[h1,D,E,F,I];rw[D] at h;simp only[if_true] at *
 split at h
 ·cases h
 ·rename_i hn;rw[ya hn]
  split at h
  ·rename_i hh;rw[yb hh];exact h
  ·rename_i hh;rw[ya hh,h5 hh];exact h
theorem zlP{p:Int->Bool}{ks:List Int}{x:Int}:x ∈ flt p ks↔x ∈ ks/\p x=false:=by
 unfold flt;rw[List.mem_filter]
 cases p x <;> simp
theorem WF.leave{S:List Nd}(h:WF S){pa E:Nat}(hch:E<S.length)(hp:(nd S E).p=pa):WF (zbD S pa E):=by
 obtain⟨D,e,hpa,O,a6,hpu⟩:=h.parent_place hch (by omega);have:D=pa:=by omega
 subst this;obtain⟨J,hcu⟩:=h.host_of_parent hch (by omega);have hl:=zbH S D E
 have M:∀ i,i<S.length->∀ x ∈ (nd (zbD S D E) i).ks,x ∈ (nd S i).ks/\x≠(E:Int):=fun i hi x T=>by
  rw[ziR S O hi] at T
  split at T
  ·rename_i F;subst F;obtain⟨h1,h2⟩:=zlP.1 T;exact⟨h1,of_decide_eq_false h2⟩
  ·rename_i F;refine⟨T,fun U=>?_⟩;obtain⟨k,e3,_,_,hk,_⟩:=h.kid hi T;have:k=E:=by omega
   subst this;omega
 refine⟨by rw[hl];exact h.small,fun i hi=>?_,zft (fun i hi=>?_) (fun i hi x T=>?_) (fun j hj I=>?_),fun i hi=>?_,fun i hi=>?_⟩
 ·rw[hl] at hi |-;obtain⟨r1,r2,r3⟩:=zbg (h.node i hi);obtain⟨n1,n2,n3⟩:=zeI r2;obtain⟨u1,u2,u3,u4,u5,u6⟩:=zgz S D E i;refine zgB (zjK u2 u4 u5 r1) (zeH ?_ (by rw[u3];exact n2) (fun k hk=>n3 k (M i hi k hk).1)) ?_
  ·rw[zhL S hi];split
   ·exact decide_eq_true ⟨by omega,by omega⟩
   ·exact n1
  ·by_cases F:i=E
   ·subst F;exact zgX hcu u1 u2 u3 u6 (fun hh=>absurd J hh) r3
   ·by_cases U:i=D
    ·subst U;exact zgX hpu u1 u2 u3 u6 (fun _=>by rw[zhL S hi,ya F]) r3
    ·rw[zfw S D E i hi];unfold zgy;rw[ya F,ya U];exact r3
 ·rw[hl] at hi;rw[ziR S O hi];split
  ·exact(h.kids_nodup hpa).filter _
  ·exact h.kids_nodup hi
 ·rw[hl] at hi |-;obtain⟨h1,h2⟩:=M i hi x T;obtain⟨k,rfl,k1,k2,k3,_⟩:=h.kid hi h1;refine⟨k,rfl,k1,by rw[(zgz S D E k).1];exact k2,?_⟩;rw[zhL S k1,ya (by omega)];exact k3
 ·rw[hl] at hj |-;rw[zhL S hj] at I
  split at I
  ·exact absurd rfl I
  ·rename_i F;obtain⟨i,i1,i2,_,i3,_⟩:=h.parent_place hj I;refine⟨i,i2,?_⟩;rw[ziR S O i2];split
   ·rename_i U;subst U;exact zlP.2 ⟨i3,decide_eq_false (by omega)⟩
   ·exact i3
 ·rw[hl] at hi;intro hh;rw[(zgz S D E i).2.2.1] at hh |-;obtain⟨g1,g2⟩:=h.hosts i hi hh;refine⟨by rw[(zgz S D E _).1];exact g1,fun i' a5=>by rw[(zgz S D E i').2.2.1];exact g2 i' a5⟩
 ·rw[hl] at hi
  cases hb:zbt (zbD S D E) i i with
  | false=>rfl
  | true =>
   obtain⟨j,j1,j2,j3⟩:=zga (by rw[hl];exact hi) hb;rw[hl] at j2;refine absurd (zml hl (fun y hy z Z=>?_) hi j3) (h.no_ring hi j1 j2);unfold zal at *;rw[(zgz S D E y).2.2.1,zhL S hy] at Z;by_cases F:y=E
   ·subst F;rw[yb J,yb rfl] at Z;omega
   ·rw[ya F] at Z;exact Z
theorem zeC(S:List Nd)(pa D at' j:Nat):(nd (zbj S pa D at') j).u=(nd S j).u/\(nd (zbj S pa D at') j).n=(nd S j).n/\(nd (zbj S pa D at') j).h=(nd S j).h/\(nd (zbj S pa D at') j).t=(nd S j).t/\(nd (zbj S pa D at') j).m=(nd S j).m/\(nd (zbj S pa D at') j).c=(nd S j).c:=by
 by_cases E:j<S.length
 ·rw[zfv S pa D at' j E];unfold zgp;split
  ·rename_i e;subst e;exact⟨rfl,rfl,rfl,rfl,rfl,rfl⟩
  ·split
   ·rename_i e;subst e;exact⟨rfl,rfl,rfl,rfl,rfl,rfl⟩
   ·exact⟨rfl,rfl,rfl,rfl,rfl,rfl⟩
 ·rw[zpR (S:=zbj S pa D at') (by rw[zbk];omega),zpR (by omega)];exact⟨rfl,rfl,rfl,rfl,rfl,rfl⟩
theorem zgq(S:List Nd){pa D at' j:Nat}(E:j<S.length):(nd (zbj S pa D at') j).p=if j=D then (pa:Int) else (nd S j).p:=by
 rw[zfv S pa D at' j E];unfold zgp;split
 ·rfl
 ·split
  ·rename_i e;subst e;rfl
  ·rfl
theorem zeB(S:List Nd){pa D at' j:Nat}(E:pa≠D)(F:j<S.length):(nd (zbj S pa D at') j).ks=if j=pa then ins (nd S pa).ks at' D else (nd S j).ks:=by
 rw[zfv S pa D at' j F];unfold zgp;split
 ·rename_i e;subst e;rw[ya (fun e=>E e.symm)]
 ·split
  ·rfl
  ·rfl
theorem zlQ{ks:List Int}{i:Nat}{c x:Int}:x ∈ ins ks i c↔x=c\/x ∈ ks:=by
 unfold ins
 have D:x ∈ ks↔x ∈ ks.take i\/x ∈ ks.drop i:=by
  rw[<- List.mem_append,List.take_append_drop]
 rw[List.mem_append,List.mem_cons,D];constructor
 ·rintro(h|h|h)
  ·exact Or.inr (Or.inl h)
  ·exact Or.inl h
  ·exact Or.inr (Or.inr h)
 ·rintro(h|h|h)
  ·exact Or.inr (Or.inl h)
  ·exact Or.inl h
  ·exact Or.inr (Or.inr h)
theorem zuf{ks:List Int}{i:Nat}{c:Int}(h:ks.Nodup)(hc:c ∉ ks):(ins ks i c).Nodup:=by
 unfold ins;have E:(ks.take i++ks.drop i).Nodup:=by rw[List.take_append_drop];exact h
 rw[List.nodup_append] at E |-;obtain⟨F,I,h5⟩:=E;refine⟨F,List.nodup_cons.2 ⟨fun J=>hc (List.mem_of_mem_drop J),I⟩,fun a ha b D e=>?_⟩;rcases List.mem_cons.1 D with rfl|D
 ·rw[e] at ha;exact hc (List.mem_of_mem_take ha)
 ·exact h5 a ha b D e
theorem WF.not_kid{S:List Nd}(h:WF S){D:Nat}(I:(nd S D).p = -1){i:Nat}(hi:i<S.length):(D:Int) ∉ (nd S i).ks:=fun E=>by
 obtain⟨k,e,_,_,F,_⟩:=h.kid hi E;have:k=D:=by omega
 subst this;omega
theorem WF.enter{S:List Nd}(h:WF S){pa D at' : Nat}(hpa:pa<S.length)(hch:D<S.length)(hpu:(nd S pa).u=true)(hcu:(nd S D).u=true)(a5:(nd S D).p = -1)(T:(nd S D).h = -1)(E:pa≠D)(a7:zbt S pa D=false):WF (zbj S pa D at'):=by
 have hl:=zbk S pa D at';have U:∀ i,i<S.length->(D:Int) ∉ (nd S i).ks:=fun i hi=>h.not_kid a5 hi;refine⟨by rw[hl];exact h.small,fun i hi=>?_,zft (fun i hi=>?_) (fun i hi x O=>?_) (fun j hj I=>?_),fun i hi=>?_,fun i hi=>?_⟩
 ·rw[hl] at hi |-;obtain⟨r1,r2,r3⟩:=zbg (h.node i hi);obtain⟨n1,n2,n3⟩:=zeI r2;obtain⟨u1,u2,u3,u4,u5,u6⟩:=zeC S pa D at' i;refine zgB (zjK u2 u4 u5 r1) (zeH ?_ (by rw[u3];exact n2) (fun k M=>?_)) ?_
  ·rw[zgq S hi];split
   ·exact decide_eq_true ⟨by omega,by omega⟩
   ·exact n1
  ·rw[zeB S E hi] at M
   split at M
   ·rename_i F;subst F;rcases zlQ.1 M with rfl|M
    ·exact decide_eq_true ⟨by omega,by omega⟩
    ·exact n3 k M
   ·exact n3 k M
  ·by_cases F:i=D
   ·subst F;exact zgX hcu u1 u2 u3 u6 (fun hh=>absurd T hh) r3
   ·by_cases J:i=pa
    ·subst J;exact zgX hpu u1 u2 u3 u6 (fun _=>by rw[zgq S hi,ya F]) r3
    ·rw[zfv S pa D at' i hi];unfold zgp;rw[ya F,ya J];exact r3
 ·rw[hl] at hi;rw[zeB S E hi];split
  ·exact zuf (h.kids_nodup hpa) (U pa hpa)
  ·exact h.kids_nodup hi
 ·rw[hl] at hi |-
  have hold:x ∈ (nd S i).ks->∃ j:Nat,x=j/\j<S.length/\(nd (zbj S pa D at') j).u=true/\(nd (zbj S pa D at') j).p=i:=fun hm=>by
   obtain⟨k,rfl,k1,k2,k3,_⟩:=h.kid hi hm;refine⟨k,rfl,k1,by rw[(zeC S pa D at' k).1];exact k2,?_⟩;rw[zgq S k1,ya (fun e=>U i hi (by rw[<- e];exact hm))];exact k3
  rw[zeB S E hi] at O
  split at O
  ·rename_i F;subst F;rcases zlQ.1 O with rfl|O
   ·exact⟨D,rfl,hch,by rw[(zeC S i D at' D).1];exact hcu,by rw[zgq S hch,yb rfl]⟩
   ·exact hold O
  ·exact hold O
 ·rw[hl] at hj |-;rw[zgq S hj] at I
  split at I
  ·rename_i F;subst F;exact⟨pa,hpa,by rw[zeB S E hpa,yb rfl];exact zlQ.2 (Or.inl rfl)⟩
  ·obtain⟨i,i1,i2,_,i3,_⟩:=h.parent_place hj I;refine⟨i,i2,?_⟩;rw[zeB S E i2];split
   ·rename_i J;subst J;exact zlQ.2 (Or.inr i3)
   ·exact i3
 ·rw[hl] at hi;intro hh;rw[(zeC S pa D at' i).2.2.1] at hh |-;obtain⟨g1,g2⟩:=h.hosts i hi hh;refine⟨by rw[(zeC S pa D at' _).1];exact g1,fun i' a6=>by rw[(zeC S pa D at' i').2.2.1];exact g2 i' a6⟩
 ·rw[hl] at hi
  have hr:∀ y,y<S.length->y≠D->zal (nd (zbj S pa D at') y)=zal (nd S y):=fun y hy e=>by
   unfold zal;rw[(zeC S pa D at' y).2.2.1,zgq S hy,ya e]
  have a8:zal (nd (zbj S pa D at') D)=pa:=by
   unfold zal;rw[(zeC S pa D at' D).2.2.1,yb T,zgq S hch,yb rfl]
  have Z:∀ q,¬ Up S q pa D:=fun q hq=>by
   cases q with
   | zero=>exact E hq
   | succ q =>
    have:=zmm hpa (by omega) (by have:=h.up_short hpa hq;omega) hq;rw[a7] at this;cases this
  cases hb:zbt (zbj S pa D at') i i with
  | false=>rfl
  | true =>
   obtain⟨j,j1,j2,j3⟩:=zga (by rw[hl];exact hi) hb;rw[hl] at j2;rcases zhp hl hr hi j3 with g |⟨k,m,e,g1,g2⟩
   ·exact absurd g (h.no_ring hi j1 j2)
   ·cases m with
    | zero =>
     have J:D=i:=g2;have e3:k=j:=by omega
     rw[J,e3] at g1;exact absurd g1 (h.no_ring hi j1 j2)
    | succ m =>
     obtain⟨z,z1,z2,z3⟩:=g2;have:z=pa:=by omega
     subst this;rcases zhp hl hr hpa z3 with g |⟨k', m', _,g3,_⟩
     ·exact absurd (g.trans g1) (Z _)
     ·exact absurd g3 (Z _)
end Go.Proofs.YtcbcpomacdngmaaGreat
