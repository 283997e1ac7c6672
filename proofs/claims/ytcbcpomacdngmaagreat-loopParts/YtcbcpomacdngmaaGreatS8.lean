/-
  x
-/
import Derived.Test.YtcbcpomacdngmaaGreatS7
namespace Go.Proofs.YtcbcpomacdngmaaGreat
set_option maxRecDepth 100000
set_option maxHeartbeats 4000000
set_option linter.unusedVariables false
open Go.RowKit
def leaveG(S:List Nd)(D:Nat):List Nd:=if (nd S D).p = -1 then S else zbB S (nd S D).p.toNat D
theorem zbh(S:List Nd)(D:Nat):(leaveG S D).length=S.length:=by
 unfold leaveG;split
 ·rfl
 ·exact zbG _ _ _
theorem Own.up{w:World}{B g:Nat}{S:List Nd}{kb kc:Nat->Nat}(h:Own w B g S kb kc S.length)(w3:World)(D:∀ b,g<=b->w3.heap[b]?=w.heap[b]?):zai w3 (some ⟨g,0,none⟩) S:=by
 obtain⟨hB,F,hF,hN,hg,hd⟩:=h;refine Own.nds (B:=B) (kb:=kb) (kc:=kc) ⟨hB,F,hF.of_block (D g (yj _)),fun i hi=>?_,hg,hd⟩;obtain⟨I,J,M,O,T,U,Z,e7,e8,E,G,hG,e9⟩:=hN i hi;exact⟨I,J,M,O,T,U,Z,e7,e8,E,G,hG.of_block (D (kb i) (Nat.le_of_lt (hg i hi))),e9⟩
def zAN(g n:Nat)(kb:Nat->Nat):Nat->Prop:=fun b=>b=g\/∃ i,i<n/\b=kb i
theorem ztA(B g c:Nat)(S:List Nd)(kb kc:Nat->Nat)(D:Nat)(w:World)(M:Own w B g S kb kc S.length)(hch:D<S.length)(E:(nd S D).p = -1\/∃ pa:Nat,pa<S.length/\pa≠D/\(nd S D).p=pa) :
  yM 186 #[.slice (some ⟨g,0,none⟩) S.length c,.int .i64 D] w fun e w' => e=.returned (.tuple #[])/\Off (zAN g S.length kb) w w' /\ Own w' B g (leaveG S D) kb kc (leaveG S D).length:=by
 rcases E with E |⟨pa,hpa,U,E⟩
 ·have hc:w.cell? ⟨g,D*8+4,none⟩=some (.int .i64 (-1)):=by
   obtain⟨_,F,hF,hN,_,_⟩:=M;obtain⟨_,_,_,_,e4,_⟩:=hN D hch;rw[hF.cell (by omega),e4,E]
  refine(zre g c S.length D w hch hc).mono ?_;rintro e w' ⟨T,Z⟩;refine⟨T,Off.of_below Z,?_⟩;unfold leaveG;rw[yb E];exact M.below Z
 ·refine(zmY B g c S kb kc pa D w M hpa hch U E).mono ?_;rintro e w' ⟨T,J,O⟩;refine⟨T,J.mono (fun k _ I=>?_),?_⟩
  ·rcases I with I|I
   ·exact Or.inl I
   ·exact Or.inr ⟨pa,hpa,I⟩
  ·unfold leaveG;rw[ya (by omega),E,yi];exact O
theorem WF.kid_deep{S:List Nd}(h:WF S){f p:Nat}(M:p<S.length)(J:Deep S (f+1) p){x:Int}(D:x ∈ (nd S p).ks) :
  ∃ k:Nat,x=k/\k<S.length/\(nd S k).u=true/\(nd S k).p=p/\zam (nd S k)=p/\Deep S f k:=by
 obtain⟨k,rfl,h1,E,F,I⟩:=h.kid M D;have:=(J (k:Int) D).2;rw[yi] at this;exact⟨k,rfl,h1,E,F,I,this⟩
theorem zcO{S:List Nd}(h:WF S):∀ {f p:Nat},p<S.length->Deep S f p->∀ x ∈ zbc S f p,∃ q:Nat,x=q/\q<S.length/\(q=p\/(nd S q).u=true)/\∃ j,j<=f/\Up S j q p
 | 0,p,E,_,x,D=>by
  have:x=(p:Int):=by simpa [zbc] using D
  exact⟨p,this,E,Or.inl rfl,0,yj _,rfl⟩
 | f+1,p,E,O,x,D=>by
  simp only[zbc,List.mem_cons,List.mem_flatMap] at D;rcases D with rfl |⟨k,T,D⟩
  ·exact⟨p,rfl,E,Or.inl rfl,0,by omega,rfl⟩
  ·obtain⟨k,rfl,h1,J,Z,M,h5⟩:=h.kid_deep E O T;rw[yi] at D;obtain⟨q,e,U,F,j,hj,I⟩:=zcO h h1 h5 x D;refine⟨q,e,U,Or.inr ?_,j+1,by omega,I.trans (WF.up_one E M)⟩;rcases F with rfl|F
   ·exact J
   ·exact F
theorem zhG{α β:Type}(g:α->List β):∀ (ks:List α),ks.Nodup->(∀ k ∈ ks,(g k).Nodup)->(∀ k ∈ ks,∀ k' ∈ ks,k≠k' -> ∀ x ∈ g k,x ∉ g k')->(ks.flatMap g).Nodup
 | [],_,_,_=>by simp
 | k :: ks,hn,hg,hd=>by
  rw[List.flatMap_cons,List.nodup_append];obtain⟨h1,F⟩:=List.nodup_cons.1 hn;refine⟨hg k (by simp),zhG g ks F (fun k' D=>hg k' (by simp[D])) (fun a ha b I=>hd a (by simp[ha]) b (by simp[I])),fun x J y E e=>?_⟩;obtain⟨k', D,E⟩:=List.mem_flatMap.1 E;exact hd k (by simp) k' (by simp[D]) (fun e=>h1 (by rw[e];exact D)) x J (by rw[e];exact E)
theorem zmv(S:List Nd)(j:Nat):∀ {k k' : Nat},k<=k' -> k' <= S.length->zhm S k j<=zhm S k' j:=by
 intro k k' D
 induction D with
 | refl=>intro _;exact yj _
 | step _ E =>
  intro h;rw[zff S _ j (by omega)];have:=E (by omega);omega
theorem WF.kids_nodup{S:List Nd}(h:WF S){i:Nat}(hi:i<S.length):(nd S i).ks.Nodup:=by
 rw[List.nodup_iff_count];intro x;by_cases D:x ∈ (nd S i).ks
 ·obtain⟨k,rfl,E,_⟩:=h.kid hi D;have h1:=(h.kids.2 k E).1;have F:=zff S i k hi;have I:=zmv S k (k:=i+1) (k' := S.length) (by omega) (yj _);omega
 ·rw[List.count_eq_zero.2 D];omega
theorem WF.in_kids{S:List Nd}(h:WF S){k:Nat}(F:k<S.length){y:Nat}(M:(nd S k).p=y):y<S.length/\(k:Int) ∈ (nd S y).ks:=by
 have hc:=(h.kids.2 k F).2 (by omega);unfold zhm at hc;rw[List.take_length] at hc
 have E:(k:Int) ∈ S.flatMap Nd.ks:=by
  by_cases E:(k:Int) ∈ S.flatMap Nd.ks
  ·exact E
  ·exact absurd (List.count_eq_zero.2 E) hc
 obtain⟨x,I,D⟩:=List.mem_flatMap.1 E;obtain⟨i,hi,rfl⟩:=List.getElem_of_mem I;rw[<- zbf hi] at D;obtain⟨k', e,_,_,J,_⟩:=h.kid hi D;have:k' = k:=by omega
 subst this;have:y=i:=by omega
 subst this;exact⟨hi,D⟩
theorem zeK{S:List Nd}(h:WF S):∀ {f p:Nat},p<S.length->f<=S.length->Deep S f p->(zbc S f p).Nodup
 | 0,p,_,_,_=>by simp[zbc]
 | f+1,p,D,hf,T=>by
  simp only[zbc];rw[List.nodup_cons];refine⟨fun U=>?_,zhG _ _ (h.kids_nodup D) (fun x J=>?_) (fun x J y hy a9 z hz M=>?_)⟩
  ·obtain⟨x,J,U⟩:=List.mem_flatMap.1 U;obtain⟨k,rfl,h1,h2,h3,O,h5⟩:=h.kid_deep D T J;rw[yi] at U;obtain⟨q,e,hq,_,j,hj,E⟩:=zcO h h1 h5 _ U;have:q=p:=(by omega);subst this;exact h.no_ring D (j:=j+1) (by omega) (by omega) (E.trans (WF.up_one D O))
  ·obtain⟨k,rfl,h1,h2,h3,O,h5⟩:=h.kid_deep D T J;rw[yi];exact zeK h h1 (by omega) h5
  ·obtain⟨k,rfl,h1,h2,h3,O,h5⟩:=h.kid_deep D T J;obtain⟨k', rfl,Z,b0,b1,a5,a6⟩:=h.kid_deep D T hy;rw[yi] at hz M;obtain⟨q,e,hq,_,j,hj,E⟩:=zcO h h1 h5 _ hz;obtain⟨q', e', b3,_,F,b2,I⟩:=zcO h Z a6 _ M;have:q=q' := by omega
   subst this;have u1:=E.trans (WF.up_one D O);have u2:=I.trans (WF.up_one D a5)
   have a7:j=F:=by
    rcases Nat.lt_trichotomy j F with a8|e|a8
    ·obtain⟨y,v1,v2⟩:=Up.split (i:=j+1) (j:=F-j) (by rw[show j+1+(F-j)=F+1 by omega];exact u2);have:=Up.det v1 u1;subst this;exact absurd v2 (h.no_ring D (by omega) (by omega))
    ·exact e
    ·obtain⟨y,v1,v2⟩:=Up.split (i:=F+1) (j:=j-F) (by rw[show F+1+(j-F)=j+1 by omega];exact u1);have:=Up.det v1 u2;subst this;exact absurd v2 (h.no_ring D (by omega) (by omega))
   subst a7;exact a9 (by rw[Up.det E I])
theorem zfR{S:List Nd}(h:WF S){p:Nat}(D:p<S.length):(zbc S S.length p).length<=S.length:=by
 have h1:=zeK h D (yj _) (h.deep_all D)
 have:=h1.length_le_of_subset (l₂:=(List.range S.length).map (fun i:Nat=>(i:Int))) (fun x F=>by
  obtain⟨q,rfl,E,_⟩:=zcO h D (h.deep_all D) x F;exact List.mem_map.2 ⟨q,List.mem_range.2 E,rfl⟩)
 simpa using this
def Par(S:List Nd):List Int->List Int->Prop
 | _,[]=>True
 | seen,x :: r=>(nd S x.toNat).p ∈ seen/\Par S (seen++[x]) r
theorem Par.append{S:List Nd}:∀ {a b seen:List Int},Par S seen a->Par S (seen++a) b->Par S seen (a++b)
 | [],b,seen,_,D=>by simpa using D
 | x :: a,b,seen,⟨h1,E⟩,D=>⟨h1,Par.append E (by simpa using D)⟩
theorem Par.flat{S:List Nd}{p:Int}(g:Int->List Int):∀ (ks seen:List Int),p ∈ seen->(∀ k ∈ ks,∀ D,p ∈ D->Par S D (g k))->Par S seen (ks.flatMap g)
 | [],_,_,_=>trivial
 | k :: ks,seen,F,hg=>by
  rw[List.flatMap_cons];exact Par.append (hg k (by simp) seen F) (Par.flat g ks _ (by simp[F]) (fun k' E=>hg k' (by simp[E])))
theorem znl{S:List Nd}(h:WF S):∀ {f p:Nat} {seen:List Int},p<S.length->Deep S f p->(nd S p).p ∈ seen->Par S seen (zbc S f p)
 | 0,p,seen,_,_,D=>⟨by simpa using D,trivial⟩
 | f+1,p,seen,J,I,D=>by
  refine⟨by simpa using D,Par.flat (p:=(p:Int)) _ _ _ (by simp) (fun x M E hs=>?_)⟩;obtain⟨k,rfl,h1,O,F,T,h5⟩:=h.kid_deep J I M;rw[yi];exact znl h h1 h5 (by rw[F];exact hs)
theorem zwO{S:List Nd}(h:WF S){f p:Nat}(I:p<S.length)(F:Deep S f p):∃ r,zbc S f p=(p:Int) :: r/\Par S [(p:Int)] r:=by
 cases f with
 | zero=>exact⟨[],rfl,trivial⟩
 | succ f =>
  refine⟨_,rfl,Par.flat (p:=(p:Int)) _ _ _ (by simp) (fun x J D hs=>?_)⟩;obtain⟨k,rfl,h1,M,E,O,h5⟩:=h.kid_deep I F J;rw[yi];exact znl h h1 h5 (by rw[E];exact hs)
theorem Par.get{S:List Nd}:∀ {r seen:List Int} {i:Nat},Par S seen r->i<r.length->(nd S (r.getD i 0).toNat).p ∈ seen++r.take i
 | x :: r,seen,0,⟨h1,_⟩,_=>by simpa using h1
 | x :: r,seen,i+1,⟨_,D⟩,hi=>by
  have:=Par.get D (i:=i) (by simpa using hi);simpa using this
theorem zxE{S:List Nd}(h:WF S):∀ {f p:Nat},p<S.length->Deep S f p->∀ y ∈ zbc S f p,∀ k ∈ (nd S y.toNat).ks,k ∈ zbc S f p
 | 0,p,_,F,y,E,k,D=>by
  have:y=(p:Int):=by simpa [zbc] using E
  subst this;rw[yi,show (nd S p).ks=[] from F] at D;cases D
 | f+1,p,I,F,y,E,k,D=>by
  simp only[zbc,List.mem_cons,List.mem_flatMap] at E |-;right;rcases E with rfl |⟨x,J,E⟩
  ·rw[yi] at D;obtain⟨k', rfl,h1,M,O,T,h5⟩:=h.kid_deep I F D;refine⟨_,D,?_⟩;rw[yi]
   cases f <;> simp[zbc]
  ·obtain⟨k', rfl,h1,M,O,T,h5⟩:=h.kid_deep I F J;rw[yi] at E;refine⟨_,J,?_⟩;rw[yi];exact zxE h h1 h5 y E k D
def zaQ(S:List Nd)(p:Nat):List Int:=zbc S S.length p
theorem zpN{S:List Nd}{j:Nat}(h:S.length<=j):nd S j=zhl:=by
 unfold nd;rw[List.getD_eq_getElem?_getD,List.getElem?_eq_none h];rfl
theorem zgx{N:Int}{x:Nd}(h1:zcS x=true)(D:zeg N x=true)(E:zec x=true):zfv N x=0:=by
 unfold zfv;rw[yb h1,yb D,yb E]
theorem zfq{S:List Nd}(T:∀ i,i<S.length->(nd S i).ks.Nodup)(M:∀ i,i<S.length->∀ x ∈ (nd S i).ks,∃ j:Nat,x=j/\j<S.length/\(nd S j).u=true/\(nd S j).p=i)
  (U:∀ j,j<S.length->(nd S j).p≠-1->∃ i:Nat,i<S.length/\(j:Int) ∈ (nd S i).ks):zeS S:=by
 refine⟨fun i hi x hx=>?_,fun j Z=>⟨?_,fun J=>?_⟩⟩
 ·obtain⟨j,rfl,h1,D,F⟩:=M i hi x hx;exact⟨by omega,by rw[yi];exact D,by rw[yi];exact F⟩
 ·have:∀ k,k<=S.length->zhm S k j<=1/\(∀ i:Nat,(nd S j).p=i->k<=i->zhm S k j=0):=by
   intro k
   induction k with
   | zero=>intro _;rw[zmw];exact⟨by omega,fun _ _ _=>rfl⟩
   | succ k ih =>
    intro hk;obtain⟨h1,D⟩:=ih (by omega);rw[zff S k j (by omega)];by_cases E:(j:Int) ∈ (nd S k).ks
    ·obtain⟨O,e,_,_,J⟩:=M k (by omega) _ E;have:O=j:=(by omega);subst this;have F:=D k J (yj _);have h4:=List.nodup_iff_count.1 (T k (by omega)) (O:Int);exact⟨by omega,fun i hi I=>by omega⟩
    ·rw[List.count_eq_zero.2 E];exact⟨by omega,fun i hi I=>by have:=D i hi (by omega);omega⟩
  exact(this S.length (yj _)).1
 ·obtain⟨i,hi,E⟩:=U j Z J;have h1:=zff S i j hi;have D:=List.count_pos_iff.2 E;have F:=zmv S j (k:=i+1) (k' := S.length) (by omega) (yj _);omega
theorem zkB{S:List Nd}(D:Nat):∀ (f:Nat) (y:Int),zbA S zam (zet D) f y false=true->∃ (E:Nat) (j:Nat),y=E/\E<S.length/\j+1<=f/\Up S j E D
 | 0,_,h=>by simp[zbA] at h
 | f+1,y,h=>by
  simp only[zbA] at h;by_cases F:zij S.length y=true
  ·have T:0<=y/\y<=(S.length:Int)-1:=of_decide_eq_true F;obtain⟨E,rfl⟩:∃ k:Nat,y=(k:Int):=⟨y.toNat,by omega⟩;rw[yb F] at h;simp only[zet,yi] at h;by_cases e:(E:Int)=(D:Int)
   ·exact⟨E,0,rfl,by omega,by omega,by show E=D;omega⟩
   ·simp only[yF e,Bool.not_false,if_true] at h;obtain⟨z,j,M,I,O,J⟩:=zkB D f _ h;exact⟨E,j+1,rfl,by omega,by omega,⟨z,I,M,J⟩⟩
  ·rw[ya F] at h;cases h
theorem zfX{S:List Nd}{x D:Nat}(J:x<S.length)(h:zbs S x D=true):∃ j,1<=j/\j<=S.length/\Up S j x D:=by
 unfold zbs at h;rw[yb (show zij S.length (x:Int)=true from yG ⟨by omega,by omega⟩),yi] at h;obtain⟨y,j,e,F,I,E⟩:=zkB D _ _ h;exact⟨j+1,by omega,by omega,⟨y,F,e,E⟩⟩
theorem zqh{S:List Nd}{x D j:Nat}(F:x<S.length)(h1:1<=j)(E:j<=S.length)(h:Up S j x D):zbs S x D=true:=by
 obtain⟨j,rfl⟩:∃ i,j=i+1:=⟨j-1,by omega⟩;unfold zbs;rw[yb (show zij S.length (x:Int)=true from yG ⟨by omega,by omega⟩),yi,zlt false h E]
theorem WF.up_short'{S:List Nd}(h:WF S):∀ (j x z:Nat) (r:List Nat),x<S.length->(x :: r).Nodup->(∀ y ∈ r,y<S.length/\∃ i,1<=i/\i<=r.length/\Up S i y x)->Up S j x z->j+r.length+1<=S.length
 | 0,x,z,r,M,hn,J,_=>by
  have:=ziK hn (fun y E=>by
   rcases List.mem_cons.1 E with rfl|E
   ·exact M
   ·exact(J y E).1)
  simp at this;omega
 | j+1,x,z,r,M,hn,J,⟨y,h1,T,h3⟩=>by
  have D:∀ y ∈ x :: r,y<S.length:=fun y E=>by
   rcases List.mem_cons.1 E with rfl|E
   ·exact M
   ·exact(J y E).1
  have hlen:=ziK hn D;simp at hlen
  have I:∀ q ∈ x :: r,∃ i,1<=i/\i<=(x :: r).length/\Up S i q y:=fun q F=>by
   rcases List.mem_cons.1 F with rfl|F
   ·exact⟨1,by omega,by simp,WF.up_one h1 T⟩
   ·obtain⟨_,i,U,Z,O⟩:=J q F;exact⟨i+1,by omega,by simp;omega,O.trans (WF.up_one h1 T)⟩
  have:=h.up_short' j y z (x :: r) h1 (List.nodup_cons.2 ⟨fun hm=>by
   obtain⟨i,U,Z,O⟩:=I y hm;simp at Z;exact h.no_ring h1 U (by omega) O,hn⟩) (fun q F=>⟨D q F,I q F⟩) h3
  simp at this;omega
theorem WF.up_short{S:List Nd}(h:WF S){j x z:Nat}(E:x<S.length)(D:Up S j x z):j+1<=S.length:=by
 have:=h.up_short' j x z [] E (by simp) (fun y F=>by cases F) D;simpa using this
theorem zhi{S A:List Nd}{D:Nat}(hl:A.length=S.length)(I:∀ y,y<S.length->y≠D->zam (nd A y)=zam (nd S y)):∀ {j x y:Nat},x<S.length->Up A j x y->Up S j x y\/∃ i m,i+m=j/\Up S i x D/\Up A m D y
 | 0,_,_,_,h=>Or.inl h
 | j+1,x,y,M,⟨z,h1,E,F⟩=>by
  by_cases e:x=D
  ·subst e;exact Or.inr ⟨0,j+1,by omega,rfl,⟨z,h1,E,F⟩⟩
  ·rw[I x M e] at E;rw[hl] at h1;rcases zhi hl I h1 F with h |⟨i,m,hi,h,J⟩
   ·exact Or.inl ⟨z,h1,E,h⟩
   ·exact Or.inr ⟨i+1,m,by omega,⟨z,h1,E,h⟩,J⟩
theorem zmd{S A:List Nd}(hl:A.length=S.length)(D:∀ y,y<S.length->∀ z:Nat,zam (nd A y)=z->zam (nd S y)=z):∀ {j x y:Nat},x<S.length->Up A j x y->Up S j x y
 | 0,_,_,_,h=>h
 | _+1,x,_,I,⟨z,h1,E,F⟩=>⟨z,by omega,D x I z E,zmd hl D (by omega) F⟩
theorem WF.used_of_kid{S:List Nd}(h:WF S){i:Nat}(hi:i<S.length){x:Int}(E:x ∈ (nd S i).ks):(nd S i).u=true:=by
 have D:=(zbd (h.node i hi)).2.2
 cases hu:(nd S i).u with
 | true=>rfl
 | false =>
  unfold zec at D;rw[hu] at D;have:=(of_decide_eq_true D).2.2.2.1;rw[this] at E;cases E
theorem WF.host_of_parent{S:List Nd}(h:WF S){E:Nat}(hch:E<S.length)(F:(nd S E).p≠-1):(nd S E).h = -1/\(nd S E).u=true:=by
 have D:=(zbd (h.node E hch)).2.2;unfold zec at D
 split at D
 ·rename_i I
  split at D
  ·cases D
  ·split at D
   ·rename_i hh;exact⟨hh,I⟩
   ·exact absurd (of_decide_eq_true D) F
 ·exact absurd (of_decide_eq_true D).2.2.1 F
theorem WF.parent_place{S:List Nd}(h:WF S){D:Nat}(hch:D<S.length)(J:(nd S D).p≠-1):∃ pa:Nat,(nd S D).p=pa/\pa<S.length/\pa≠D/\(D:Int) ∈ (nd S pa).ks/\(nd S pa).u=true:=by
 have h1:=(zha (zhb (h.node D hch))).2.2;obtain⟨pa,e⟩:∃ k:Nat,(nd S D).p=(k:Int):=⟨(nd S D).p.toNat,by omega⟩;obtain⟨E,F⟩:=h.in_kids hch e;refine⟨pa,e,E,fun I=>?_,F,h.used_of_kid E F⟩;subst I
 have M:zam (nd S pa)=pa:=by
  unfold zam;rw[yb (h.host_of_parent hch J).1];exact e
 exact h.no_ring hch (yj 1) (by omega) (WF.up_one hch M)
theorem zgv(S:List Nd)(pa D j:Nat):(nd (zbB S pa D) j).u=(nd S j).u/\(nd (zbB S pa D) j).n=(nd S j).n/\(nd (zbB S pa D) j).h=(nd S j).h/\(nd (zbB S pa D) j).t=(nd S j).t/\(nd (zbB S pa D) j).m=(nd S j).m/\(nd (zbB S pa D) j).c=(nd S j).c:=by
 by_cases E:j<S.length
 ·rw[zft S pa D j E];unfold zgu;split
  ·rename_i e;subst e;exact⟨rfl,rfl,rfl,rfl,rfl,rfl⟩
  ·split
   ·rename_i e;subst e;exact⟨rfl,rfl,rfl,rfl,rfl,rfl⟩
   ·exact⟨rfl,rfl,rfl,rfl,rfl,rfl⟩
 ·rw[zpN (S:=zbB S pa D) (by rw[zbG];omega),zpN (by omega)];exact⟨rfl,rfl,rfl,rfl,rfl,rfl⟩
theorem zhE(S:List Nd){pa D j:Nat}(E:j<S.length):(nd (zbB S pa D) j).p=if j=D then -1 else (nd S j).p:=by
 rw[zft S pa D j E];unfold zgu;split
 ·rfl
 ·split
  ·rename_i e;subst e;rfl
  ·rfl
theorem zlH(S:List Nd){pa D j:Nat}(E:pa≠D)(F:j<S.length):(nd (zbB S pa D) j).ks=if j=pa then flt (fun x=>decide (x=(D:Int))) (nd S pa).ks else (nd S j).ks:=by
 rw[zft S pa D j F];unfold zgu;split
 ·rename_i e;subst e;rw[ya (fun e=>E e.symm)]
 ·split
  ·rfl
  ·rfl
theorem zjE{x y:Nd}(h1:x.n=y.n)(D:x.t=y.t)(E:x.m=y.m)(h:zcS y=true):zcS x=true:=by
 unfold zcS at *;rw[h1,D,E];exact h
theorem zeJ{N:Int}{x:Nd}(h:zeg N x=true):zlN N x.p=true/\zlN N x.h=true/\∀ k ∈ x.ks,zlN N k=true:=by
 unfold zeg at h;simp only[Bool.and_eq_true,Bool.not_eq_true', List.any_eq_false] at h;refine⟨h.1,h.2.1,fun k D=>?_⟩;have:=h.2.2 k D;simpa using this
theorem zeI{N:Int}{x:Nd}(h1:zlN N x.p=true)(D:zlN N x.h=true)(E:∀ k ∈ x.ks,zlN N k=true):zeg N x=true:=by
 unfold zeg;simp only[Bool.and_eq_true,Bool.not_eq_true', List.any_eq_false];refine⟨h1,D,fun k F=>?_⟩;rw[E k F];simp
theorem zgR{x y:Nd}(D:y.u=true)(h1:x.u=y.u)(E:x.n=y.n)(F:x.h=y.h)(I:x.c=y.c)(h5:y.h≠-1->x.p=y.p)(h:zec y=true):zec x=true:=by
 unfold zec at *;rw[h1,D,E,F,I];rw[D] at h;simp only[if_true] at *
 split at h
 ·cases h
 ·rename_i hn;rw[ya hn]
  split at h
  ·rename_i hh;rw[yb hh];exact h
  ·rename_i hh;rw[ya hh,h5 hh];exact h
theorem zlK{p:Int->Bool}{ks:List Int}{x:Int}:x ∈ flt p ks↔x ∈ ks/\p x=false:=by
 unfold flt;rw[List.mem_filter]
 cases p x <;> simp
theorem WF.leave{S:List Nd}(h:WF S){pa E:Nat}(hch:E<S.length)(hp:(nd S E).p=pa):WF (zbB S pa E):=by
 obtain⟨D,e,hpa,O,a6,hpu⟩:=h.parent_place hch (by omega);have:D=pa:=by omega
 subst this;obtain⟨J,hcu⟩:=h.host_of_parent hch (by omega);have hl:=zbG S D E
 have M:∀ i,i<S.length->∀ x ∈ (nd (zbB S D E) i).ks,x ∈ (nd S i).ks/\x≠(E:Int):=fun i hi x T=>by
  rw[zlH S O hi] at T
  split at T
  ·rename_i F;subst F;obtain⟨h1,h2⟩:=zlK.1 T;exact⟨h1,of_decide_eq_false h2⟩
  ·rename_i F;refine⟨T,fun U=>?_⟩;obtain⟨k,e3,_,_,hk,_⟩:=h.kid hi T;have:k=E:=(by omega);subst this;omega
 refine⟨by rw[hl];exact h.small,fun i hi=>?_,zfq (fun i hi=>?_) (fun i hi x T=>?_) (fun j hj I=>?_),fun i hi=>?_,fun i hi=>?_⟩
 ·rw[hl] at hi |-;obtain⟨r1,r2,r3⟩:=zbd (h.node i hi);obtain⟨n1,n2,n3⟩:=zeJ r2;obtain⟨u1,u2,u3,u4,u5,u6⟩:=zgv S D E i;refine zgx (zjE u2 u4 u5 r1) (zeI ?_ (by rw[u3];exact n2) (fun k hk=>n3 k (M i hi k hk).1)) ?_
  ·rw[zhE S hi];split
   ·exact yG ⟨by omega,by omega⟩
   ·exact n1
  ·by_cases F:i=E
   ·subst F;exact zgR hcu u1 u2 u3 u6 (fun hh=>absurd J hh) r3
   ·by_cases U:i=D
    ·subst U;exact zgR hpu u1 u2 u3 u6 (fun _=>by rw[zhE S hi,ya F]) r3
    ·rw[zft S D E i hi];unfold zgu;rw[ya F,ya U];exact r3
 ·rw[hl] at hi;rw[zlH S O hi];split
  ·exact(h.kids_nodup hpa).filter _
  ·exact h.kids_nodup hi
 ·rw[hl] at hi |-;obtain⟨h1,h2⟩:=M i hi x T;obtain⟨k,rfl,k1,k2,k3,_⟩:=h.kid hi h1;refine⟨k,rfl,k1,by rw[(zgv S D E k).1];exact k2,?_⟩;rw[zhE S k1,ya (by omega)];exact k3
 ·rw[hl] at hj |-;rw[zhE S hj] at I
  split at I
  ·exact absurd rfl I
  ·rename_i F;obtain⟨i,i1,i2,_,i3,_⟩:=h.parent_place hj I;refine⟨i,i2,?_⟩;rw[zlH S O i2];split
   ·rename_i U;subst U;exact zlK.2 ⟨i3,yF (by omega)⟩
   ·exact i3
 ·rw[hl] at hi;intro hh;rw[(zgv S D E i).2.2.1] at hh |-;obtain⟨g1,g2⟩:=h.hosts i hi hh;refine⟨by rw[(zgv S D E _).1];exact g1,fun i' a5=>by rw[(zgv S D E i').2.2.1];exact g2 i' a5⟩
 ·rw[hl] at hi
  cases hb:zbs (zbB S D E) i i with
  | false=>rfl
  | true =>
   obtain⟨j,j1,j2,j3⟩:=zfX (by rw[hl];exact hi) hb;rw[hl] at j2;refine absurd (zmd hl (fun y hy z Z=>?_) hi j3) (h.no_ring hi j1 j2);unfold zam at *;rw[(zgv S D E y).2.2.1,zhE S hy] at Z;by_cases F:y=E
   ·subst F;rw[yb J,yb rfl] at Z;omega
   ·rw[ya F] at Z;exact Z
theorem zeE(S:List Nd)(pa D at' j:Nat):(nd (zbm S pa D at') j).u=(nd S j).u/\(nd (zbm S pa D at') j).n=(nd S j).n/\(nd (zbm S pa D at') j).h=(nd S j).h/\(nd (zbm S pa D at') j).t=(nd S j).t/\(nd (zbm S pa D at') j).m=(nd S j).m/\(nd (zbm S pa D at') j).c=(nd S j).c:=by
 by_cases E:j<S.length
 ·rw[zfs S pa D at' j E];unfold zgl;split
  ·rename_i e;subst e;exact⟨rfl,rfl,rfl,rfl,rfl,rfl⟩
  ·split
   ·rename_i e;subst e;exact⟨rfl,rfl,rfl,rfl,rfl,rfl⟩
   ·exact⟨rfl,rfl,rfl,rfl,rfl,rfl⟩
 ·rw[zpN (S:=zbm S pa D at') (by rw[zbp];omega),zpN (by omega)];exact⟨rfl,rfl,rfl,rfl,rfl,rfl⟩
theorem zgm(S:List Nd){pa D at' j:Nat}(E:j<S.length):(nd (zbm S pa D at') j).p=if j=D then (pa:Int) else (nd S j).p:=by
 rw[zfs S pa D at' j E];unfold zgl;split
 ·rfl
 ·split
  ·rename_i e;subst e;rfl
  ·rfl
theorem zgN(S:List Nd){pa D at' j:Nat}(E:pa≠D)(F:j<S.length):(nd (zbm S pa D at') j).ks=if j=pa then ins (nd S pa).ks at' D else (nd S j).ks:=by
 rw[zfs S pa D at' j F];unfold zgl;split
 ·rename_i e;subst e;rw[ya (fun e=>E e.symm)]
 ·split
  ·rfl
  ·rfl
theorem zlL{ks:List Int}{i:Nat}{c x:Int}:x ∈ ins ks i c↔x=c\/x ∈ ks:=by
 unfold ins
 have D:x ∈ ks↔x ∈ ks.take i\/x ∈ ks.drop i:=by
  rw[<- List.mem_append,List.take_append_drop]
 rw[List.mem_append,List.mem_cons,D];constructor
 ·rintro(h|h|h)
  ·exact Or.inr (Or.inl h)
  ·exact Or.inl h
  ·exact Or.inr (Or.inr h)
 ·rintro(h|h|h)
  ·exact Or.inr (Or.inl h)
  ·exact Or.inl h
  ·exact Or.inr (Or.inr h)
theorem ztV{ks:List Int}{i:Nat}{c:Int}(h:ks.Nodup)(hc:c ∉ ks):(ins ks i c).Nodup:=by
 unfold ins;have E:(ks.take i++ks.drop i).Nodup:=by rw[List.take_append_drop];exact h
 rw[List.nodup_append] at E |-;obtain⟨F,I,h5⟩:=E;refine⟨F,List.nodup_cons.2 ⟨fun J=>hc (List.mem_of_mem_drop J),I⟩,fun a ha b D e=>?_⟩;rcases List.mem_cons.1 D with rfl|D
 ·rw[e] at ha;exact hc (List.mem_of_mem_take ha)
 ·exact h5 a ha b D e
theorem WF.not_kid{S:List Nd}(h:WF S){D:Nat}(I:(nd S D).p = -1){i:Nat}(hi:i<S.length):(D:Int) ∉ (nd S i).ks:=fun E=>by
 obtain⟨k,e,_,_,F,_⟩:=h.kid hi E;have:k=D:=by omega
 subst this;omega
theorem WF.enter{S:List Nd}(h:WF S){pa D at' : Nat}(hpa:pa<S.length)(hch:D<S.length)(hpu:(nd S pa).u=true)(hcu:(nd S D).u=true)(a5:(nd S D).p = -1)(T:(nd S D).h = -1)(E:pa≠D)(a7:zbs S pa D=false):WF (zbm S pa D at'):=by
 have hl:=zbp S pa D at';have U:∀ i,i<S.length->(D:Int) ∉ (nd S i).ks:=fun i hi=>h.not_kid a5 hi;refine⟨by rw[hl];exact h.small,fun i hi=>?_,zfq (fun i hi=>?_) (fun i hi x O=>?_) (fun j hj I=>?_),fun i hi=>?_,fun i hi=>?_⟩
 ·rw[hl] at hi |-;obtain⟨r1,r2,r3⟩:=zbd (h.node i hi);obtain⟨n1,n2,n3⟩:=zeJ r2;obtain⟨u1,u2,u3,u4,u5,u6⟩:=zeE S pa D at' i;refine zgx (zjE u2 u4 u5 r1) (zeI ?_ (by rw[u3];exact n2) (fun k M=>?_)) ?_
  ·rw[zgm S hi];split
   ·exact yG ⟨by omega,by omega⟩
   ·exact n1
  ·rw[zgN S E hi] at M
   split at M
   ·rename_i F;subst F;rcases zlL.1 M with rfl|M
    ·exact yG ⟨by omega,by omega⟩
    ·exact n3 k M
   ·exact n3 k M
  ·by_cases F:i=D
   ·subst F;exact zgR hcu u1 u2 u3 u6 (fun hh=>absurd T hh) r3
   ·by_cases J:i=pa
    ·subst J;exact zgR hpu u1 u2 u3 u6 (fun _=>by rw[zgm S hi,ya F]) r3
    ·rw[zfs S pa D at' i hi];unfold zgl;rw[ya F,ya J];exact r3
 ·rw[hl] at hi;rw[zgN S E hi];split
  ·exact ztV (h.kids_nodup hpa) (U pa hpa)
  ·exact h.kids_nodup hi
 ·rw[hl] at hi |-
  have hold:x ∈ (nd S i).ks->∃ j:Nat,x=j/\j<S.length/\(nd (zbm S pa D at') j).u=true/\(nd (zbm S pa D at') j).p=i:=fun hm=>by
   obtain⟨k,rfl,k1,k2,k3,_⟩:=h.kid hi hm;refine⟨k,rfl,k1,by rw[(zeE S pa D at' k).1];exact k2,?_⟩;rw[zgm S k1,ya (fun e=>U i hi (by rw[<- e];exact hm))];exact k3
  rw[zgN S E hi] at O
  split at O
  ·rename_i F;subst F;rcases zlL.1 O with rfl|O
   ·exact⟨D,rfl,hch,by rw[(zeE S i D at' D).1];exact hcu,by rw[zgm S hch,yb rfl]⟩
   ·exact hold O
  ·exact hold O
 ·rw[hl] at hj |-;rw[zgm S hj] at I
  split at I
  ·rename_i F;subst F;exact⟨pa,hpa,by rw[zgN S E hpa,yb rfl];exact zlL.2 (Or.inl rfl)⟩
  ·obtain⟨i,i1,i2,_,i3,_⟩:=h.parent_place hj I;refine⟨i,i2,?_⟩;rw[zgN S E i2];split
   ·rename_i J;subst J;exact zlL.2 (Or.inr i3)
   ·exact i3
 ·rw[hl] at hi;intro hh;rw[(zeE S pa D at' i).2.2.1] at hh |-;obtain⟨g1,g2⟩:=h.hosts i hi hh;refine⟨by rw[(zeE S pa D at' _).1];exact g1,fun i' a6=>by rw[(zeE S pa D at' i').2.2.1];exact g2 i' a6⟩
 ·rw[hl] at hi
  have hr:∀ y,y<S.length->y≠D->zam (nd (zbm S pa D at') y)=zam (nd S y):=fun y hy e=>by
   unfold zam;rw[(zeE S pa D at' y).2.2.1,zgm S hy,ya e]
  have a8:zam (nd (zbm S pa D at') D)=pa:=by
   unfold zam;rw[(zeE S pa D at' D).2.2.1,yb T,zgm S hch,yb rfl]
  have Z:∀ q,¬ Up S q pa D:=fun q hq=>by
   cases q with
   | zero=>exact E hq
   | succ q =>
    have:=zqh hpa (by omega) (by have:=h.up_short hpa hq;omega) hq;rw[a7] at this;cases this
  cases hb:zbs (zbm S pa D at') i i with
  | false=>rfl
  | true =>
   obtain⟨j,j1,j2,j3⟩:=zfX (by rw[hl];exact hi) hb;rw[hl] at j2;rcases zhi hl hr hi j3 with g |⟨k,m,e,g1,g2⟩
   ·exact absurd g (h.no_ring hi j1 j2)
   ·cases m with
    | zero =>
     have J:D=i:=g2;have e3:k=j:=(by omega);rw[J,e3] at g1;exact absurd g1 (h.no_ring hi j1 j2)
    | succ m =>
     obtain⟨z,z1,z2,z3⟩:=g2;have:z=pa:=(by omega);subst this;rcases zhi hl hr hpa z3 with g |⟨k', m', _,g3,_⟩
     ·exact absurd (g.trans g1) (Z _)
     ·exact absurd g3 (Z _)
structure zqp (S:List Nd) (k:Nat) (l:List Int):Prop where
 pos:0<l.length
 small:l.length<=24
 head:l.getD 0 0=k
 each:∀ i,i<l.length->∃ q:Nat,l.getD i 0=q/\q<S.length/\(nd S q).u=true/\(q:Int) ∉ l.take i/\(0<i->(nd S q).p ∈ l.take i)
 closed:∀ q:Nat,q<S.length->0<=(nd S q).p->q≠k->decide ((nd S q).p ∈ l)=decide ((q:Int) ∈ l)
theorem zmP(S:List Nd)(p u:Int):zfj S [(p,u)]=zda S p u:=by
 simp only[zfj];by_cases h:zda S p u=0
 ·rw[yb h,h]
 ·rw[ya h]
theorem holds_zero{S:List Nd}{p u:Int}(h:zda S p u=0):∃ k:Nat,p=k/\k<S.length/\(nd S k).u=true/\(nd S k).n=u:=by
 unfold zda at h;by_cases D:zij S.length p=true
 ·rw[yb D] at h;have E:0<=p/\p<=(S.length:Int)-1:=of_decide_eq_true D;obtain⟨k,rfl⟩:∃ k:Nat,p=(k:Int):=⟨p.toNat,by omega⟩;rw[yi] at h;refine⟨k,rfl,by omega,?_⟩;unfold ztq at h
  split at h
  ·split at h
   ·split at h
    ·exact⟨by assumption,by assumption⟩
    ·omega
   ·omega
  ·omega
 ·rw[ya D] at h;omega
theorem zrr{S:List Nd}(h:WF S){k:Nat}(F:k<S.length)(hu:(nd S k).u=true):zqp S k (zaQ S k):=by
 have O:=h.deep_all F;have hn:=zeK h F (yj _) O;have hl:=zfR h F;obtain⟨r,T,hP⟩:=zwO h F O
 have J:∀ x ∈ zaQ S k,∃ q:Nat,x=q/\q<S.length/\(nd S q).u=true:=fun x hx=>by
  obtain⟨q,e,M,D,_⟩:=zcO h F O x hx;refine⟨q,e,M,?_⟩;rcases D with rfl|D
  ·exact hu
  ·exact D
 have E:∀ i,i<(zaQ S k).length->0<i->(nd S ((zaQ S k).getD i 0).toNat).p ∈ (zaQ S k).take i:=fun i hi h0=>by
  unfold zaQ at hi |-;rw[T] at hi |-;obtain⟨i,rfl⟩:∃ j,i=j+1:=⟨i-1,by omega⟩;have:=hP.get (i:=i) (by simpa using hi);simpa using this
 refine⟨by unfold zaQ;rw[T];simp,by unfold zaQ;have:=h.small;omega,by unfold zaQ;rw[T];simp,fun i hi=>?_,fun q M hp a5=>?_⟩
 ·obtain⟨q,e,M,D⟩:=J ((zaQ S k).getD i 0) (by rw[zae _ 0 hi];exact List.getElem_mem hi);refine⟨q,e,M,D,fun I=>?_,fun h0=>?_⟩
  ·obtain⟨j,hj,ej⟩:=List.getElem_of_mem I;rw[List.length_take] at hj;rw[List.getElem_take] at ej;rw[zae _ 0 hi] at e;have U:j<(zaQ S k).length:=(by omega);have:=(List.getElem?_inj (i:=j) (j:=i) U hn).1 (by show (zaQ S k)[j]?=(zaQ S k)[i]?;rw[List.getElem?_eq_getElem (by omega),List.getElem?_eq_getElem hi];exact congrArg some (ej.trans e.symm));omega
  ·have:=E i hi h0
   rwa [e,yi] at this
 ·obtain⟨y,hy⟩:∃ y:Nat,(nd S q).p=(y:Int):=⟨(nd S q).p.toNat,by omega⟩;rw[hy];by_cases I:(y:Int) ∈ zaQ S k
  ·have:=zxE h F O (y:Int) I (q:Int) (by rw[yi];exact(h.in_kids M hy).2);rw[yG I,yG (show (q:Int) ∈ zaQ S k from this)]
  ·have:(q:Int) ∉ zaQ S k:=fun Z=>by
    obtain⟨i,hi,ei⟩:=List.getElem_of_mem Z
    have h0:0<i:=by
     rcases Nat.eq_zero_or_pos i with rfl|h0
     ·exfalso;have:(zaQ S k).getD 0 0=(k:Int):=(by unfold zaQ;rw[T];simp);rw[zae _ 0 hi,ei] at this;omega
     ·exact h0
    have:=E i hi h0;rw[zae _ 0 hi,ei,yi,hy] at this;exact I (List.mem_of_mem_take this)
   rw[yF I,yF this]
end Go.Proofs.YtcbcpomacdngmaaGreat
