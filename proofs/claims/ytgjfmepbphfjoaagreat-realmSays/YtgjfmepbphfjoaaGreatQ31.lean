/-
  x
-/
import Derived.Test.YtgjfmepbphfjoaaGreatQ30
namespace Go.Proofs.YtgjfmepbphfjoaaGreat
set_option maxRecDepth 100000
set_option maxHeartbeats 4000000
set_option linter.unusedVariables false
open Go.RowKit
def SoJ(S:List Nd)(q:List Tst):Nat->Nat->Prop
 | 0,x=>zin (tst q 0).t (tst q 0).m (nd S x)=true
 | j+1,x=>zin (tst q (j+1)).t (tst q (j+1)).m (nd S x)=true/\∃ y,Abv S (tst q (j+1)).near x y/\SoJ S q j y
theorem zfu{q:List Tst}{j:Nat}(h:j<q.length):(q.take (j+1)).reverse=tst q j ::(q.take j).reverse:=by
 rw[List.take_succ_eq_append_getElem h,List.reverse_append];unfold tst;rw[zaf q _ h];rfl
theorem zqV{S:List Nd}(wf:WF S){q:List Tst}:∀ {j:Nat},j<q.length->∀ {ps:List Int},zbY S ps->((zjF S (q.take (j+1)).reverse ps≠[])↔∃ x:Nat,(x:Int) ∈ ps/\SoJ S q j x)
 | 0,h,ps,I=>by
  rw[zfu h];simp only[List.take_zero,List.reverse_nil,zjF];constructor
  ·intro F;obtain⟨x,hx⟩:=List.exists_mem_of_ne_nil _ F;obtain⟨h1,w⟩:=zfn.1 hx;obtain⟨k,rfl,M⟩:=I x h1;rw[yg] at w;exact⟨k,h1,w⟩
  ·rintro⟨x,hx,hs⟩ U;have:(x:Int) ∈ zes S (tst q 0) ps:=zfn.2 ⟨hx,by rw[yg];exact hs⟩;rw[U] at this;cases this
 | j+1,h,ps,I=>by
  rw[zfu h,zfu (show j<q.length by omega)];have hs:zbY S (zes S (tst q (j+1)) ps):=I.sift;obtain⟨J,O⟩:=zjb wf (tst q (j+1)).near hs;have T:=zqV wf (show j<q.length by omega) J;rw[zfu (show j<q.length by omega)] at T;simp only[zjF];rw[T];constructor
  ·rintro⟨z,V,A⟩;obtain⟨k,M,D⟩:=(O z).1 V;obtain⟨h1,w⟩:=zfn.1 M;rw[yg] at w;exact⟨k,h1,w,z,D,A⟩
  ·rintro⟨x,hx,w,z,D,A⟩;exact⟨z,(O z).2 ⟨x,zfn.2 ⟨hx,by rw[yg];exact w⟩,D⟩,A⟩
theorem zqf{S:List Nd}(wf:WF S){q:List Tst}{k:Nat}(w:k<S.length)(hq:0<q.length):zbE S k q=true↔SoJ S q (q.length-1) k:=by
 have h:=zqV wf (q:=q) (j:=q.length-1) (by omega) (ps:=[(k:Int)]) (fun x hx=>⟨k,by simpa using hx,w⟩);rw[show q.length-1+1=q.length by omega,List.take_length] at h;unfold zbE;rw[decide_eq_true_iff,List.length_pos_iff,h];constructor
 ·rintro⟨x,hx,hs⟩;have h0:(x:Int)=k:=by simpa using hx
  have:x=k:=by omega
  rw[<- this];exact hs
 ·intro hs;exact⟨k,by simp,hs⟩
def ppF(S:List Nd):Nat->Int->List Int
 | 0,_=>[]
 | f+1,x=>if zeY S.length x then x :: ppF S f (nd S x.toNat).p else []
theorem zrb(S:List Nd):∀ (f:Nat) (x:Int),(ppF S f x).length<=f
 | 0,_=>by simp[ppF]
 | f+1,x=>by
  rw[ppF];split
  ·have:=zrb S f (nd S x.toNat).p;simp;omega
  ·simp
def znc(S:List Nd)(q:List Tst)(x:Int)(w reach:Nat->Bool)(j:Nat):Bool:=zin (tst q j).t (tst q j).m (nd S x.toNat) && (if j=0 then true else if (tst q j).near then w (j-1) else reach (j-1))
def ziH(S:List Nd)(q:List Tst)(st:(Nat->Bool) × (Nat->Bool))(x:Int):(Nat->Bool) × (Nat->Bool):=(znc S q x st.1 st.2,fun j=>st.2 j || znc S q x st.1 st.2 j)
def dpF(S:List Nd)(q:List Tst)(w:List Int):(Nat->Bool) × (Nat->Bool):=w.foldl (ziH S q) (fun _=>false,fun _=>false)
theorem znH(S:List Nd)(q:List Tst)(l:List Int)(x:Int):dpF S q (l++[x])=ziH S q (dpF S q l) x:=by
 unfold dpF;rw[List.foldl_append];rfl
theorem zqU{S:List Nd}(q:List Tst):∀ (f:Nat) (x:Nat),x<S.length->(∀ j z,PUp S j x z->j<f)->∀ j,((dpF S q (ppF S f x).reverse).1 j=true↔SoJ S q j x)/\((dpF S q (ppF S f x).reverse).2 j=true↔∃ i z,PUp S i x z/\SoJ S q j z)
 | 0,x,_,O,_=>absurd (O 0 x rfl) (by omega)
 | f+1,x,hx,O,j=>by
  have e:ppF S (f+1) x=(x:Int) :: ppF S f (nd S x).p:=by rw[ppF,yd (zcZ.2 hx),yg]
  rw[e,List.reverse_cons,znH];by_cases M:∃ y:Nat,(nd S x).p=y/\y<S.length
  ·obtain⟨y,D,F⟩:=M;rw[D];have T:=zqU q f y F (fun i z h=>by have:=O (i+1) z ⟨y,F,D,h⟩;omega)
   have w:∀ j,(znc S q (x:Int) (dpF S q (ppF S f y).reverse).1 (dpF S q (ppF S f y).reverse).2 j=true)↔SoJ S q j x:=fun j=>by
    unfold znc;rw[yg,Bool.and_eq_true]
    cases j with
    | zero=>simp[SoJ]
    | succ j =>
     rw[ya (by omega),Nat.add_sub_cancel];simp only[SoJ];refine and_congr_right fun _=>?_;unfold Abv;by_cases hn:(tst q (j+1)).near=true
     ·rw[yd hn,(T j).1];simp only[hn,if_true];constructor
      ·intro h;exact⟨y,⟨D,F⟩,h⟩
      ·rintro⟨z,⟨h1,_⟩,h⟩;have:z=y:=by omega
       rw[<- this];exact h
     ·rw[ya hn,(T j).2];simp only[ya hn];constructor
      ·rintro⟨i,z,h1,A⟩;exact⟨z,⟨y,i,D,F,h1⟩,A⟩
      ·rintro⟨z,⟨V,i,h1,_,I⟩,A⟩;have:V=y:=by omega
       subst this;exact⟨i,z,I,A⟩
   refine⟨w j,?_⟩;show ((dpF S q (ppF S f y).reverse).2 j || _)=true↔_;rw[Bool.or_eq_true,(T j).2,w j];constructor
   ·rintro(⟨i,z,h1,A⟩|h)
    ·exact⟨i+1,z,⟨y,F,D,h1⟩,A⟩
    ·exact⟨0,x,rfl,h⟩
   ·rintro⟨i,z,h1,A⟩
    cases i with
    | zero=>cases h1;exact Or.inr A
    | succ i =>
     obtain⟨U,_,J,h5⟩:=h1;have:U=y:=by omega
     subst this;exact Or.inl ⟨i,z,h5,A⟩
  ·have Z:ppF S f (nd S x).p=[]:=by
    cases f with
    | zero=>rfl
    | succ f =>
     rw[ppF,ya];intro h;have A:0<=(nd S x).p/\(nd S x).p<=(S.length:Int)-1:=of_decide_eq_true h;exact M ⟨(nd S x).p.toNat,by omega,by omega⟩
   rw[Z]
   have w:∀ j,(znc S q (x:Int) (dpF S q ([]:List Int).reverse).1 (dpF S q ([]:List Int).reverse).2 j=true)↔SoJ S q j x:=fun j=>by
    unfold znc;rw[yg,Bool.and_eq_true]
    cases j with
    | zero=>simp[SoJ]
    | succ j =>
     rw[ya (by omega)];simp only[SoJ];refine and_congr_right fun _=>?_;constructor
     ·intro h;have:(if (tst q (j+1)).near=true then false else false)=true:=h;simp at this
     ·rintro⟨z,h1,_⟩;exfalso;obtain⟨V,_,I,J,_⟩:Abv S false x z:=h1.far;exact M ⟨V,I,J⟩
   refine⟨w j,?_⟩;show ((false:Bool) || znc S q (x:Int) (dpF S q ([]:List Int).reverse).1 (dpF S q ([]:List Int).reverse).2 j)=true↔_;rw[Bool.false_or,w j];constructor
   ·intro h;exact⟨0,x,rfl,h⟩
   ·rintro⟨i,z,h1,A⟩
    cases i with
    | zero=>cases h1;exact A
    | succ i =>
     obtain⟨U,I,J,_⟩:=h1;exact absurd ⟨U,J,I⟩ M
theorem WF.pup_short{S:List Nd}(wf:WF S){x z j:Nat}(hx:x<S.length)(h:PUp S j x z):j<S.length+1:=by
 have:=wf.up_short hx (PUp.up wf hx h);omega
theorem zrx{S:List Nd}(wf:WF S){q:List Tst}{k:Nat}(w:k<S.length)(hq:0<q.length):(dpF S q (ppF S (S.length+1) k).reverse).1 (q.length-1)=zbE S k q:=by
 have h1:=(zqU (S:=S) q (S.length+1) k w (fun j z h=>wf.pup_short w h) (q.length-1)).1;have A:=zqf wf w hq
 cases e1:(dpF S q (ppF S (S.length+1) k).reverse).1 (q.length-1) with
 | true=>rw[A.2 (h1.1 e1)]
 | false =>
  cases e2:zbE S k q with
  | false=>rfl
  | true=>rw[h1.2 (A.1 e2)] at e1;cases e1
theorem zoH{S:List Nd}(wf:WF S){y:Nat}(hy:y<S.length):(nd S y).p = -1\/∃ w:Nat,(nd S y).p=w/\w<S.length:=by
 by_cases e:(nd S y).p = -1
 ·exact Or.inl e
 ·obtain⟨w,A,D,_⟩:=wf.parent_place hy e;exact Or.inr ⟨w,A,D⟩
theorem zrQ(S:List Nd):∀ f,ppF S f (-1)=[]:=fun f=>by
 cases f with
 | zero=>rfl
 | succ f =>
  rw[ppF,ya];intro h;have w:0<=(-1:Int)/\(-1:Int)<=(S.length:Int)-1:=of_decide_eq_true h;omega
theorem zqY{S:List Nd}:∀ {f:Nat} {x y:Int},y ∈ ppF S f x->∃ k:Nat,y=k/\k<S.length
 | 0,_,_,h=>by simp[ppF] at h
 | f+1,x,y,h=>by
  rw[ppF] at h
  split at h
  ·next hp =>
   have w:0<=x/\x<=(S.length:Int)-1:=of_decide_eq_true hp;rcases List.mem_cons.1 h with rfl|h
   ·exact⟨y.toNat,by omega,by omega⟩
   ·exact zqY h
  ·cases h
theorem zhI(u v:Int):((u == v)=true/\decide (u=v)=true)\/((u == v)=false/\decide (u=v)=false):=by
 by_cases h:u=v
 ·exact Or.inl ⟨by simp[h],decide_eq_true h⟩
 ·exact Or.inr ⟨beq_eq_false_iff_ne.2 h,decide_eq_false h⟩
theorem zeM{NF G:Nat->Bool}{j:Nat}{v:Bool}(w:NF j=v)(t:Nat):(if t=j then Value.bool v else .bool (if t<j then NF t else G t))=.bool (if t<j+1 then NF t else G t):=by
 by_cases e:t=j
 ·subst e;rw[yd rfl,yd (by omega),w]
 ·rw[ya e];by_cases h:t<j
  ·rw[yd h,yd (by omega)]
  ·rw[ya h,ya (by omega)]
theorem zoQ(a:Option Addr)(c:Nat)(S:List Nd)(k:Nat)(qa:Option Addr)(qc:Nat)(q:List Tst)(w:World)(wf:WF S)(hk:k<S.length)(hS:zae w a S)(j4:1<=q.length)(j5:q.length<=6)(hQ:zaP w qa q) :
  Calls Tryz.prog 88 #[.agg #[.slice a S.length c],.int .i64 (k:Int),.slice qa q.length qc] w fun e w' => e=.returned (.bool (zbE S k q))/\Below w.heap.size w w' := by
 obtain⟨i0,m2,m8,m9,n1⟩:=info_parts info3;have hN:=wf.small;have RS:Hid ((dpF S q (ppF S (S.length+1) k).reverse).1 (q.length-1)=zbE S k q):=zrx wf hk (by omega);have HS:Hid (zae w a S):=hS;have HQ:Hid (zaP w qa q):=hQ;have PS:Hid (∀ f (y:Nat),y<S.length->ppF S (f+1) (y:Int)=(y:Int) :: ppF S f (nd S y).p):=fun f y hy=>by rw[ppF,yd (zcZ.2 hy),yg]
 have PN:Hid (∀ f,ppF S f (-1)=[]):=zrQ S;have PI:Hid (∀ y:Nat,y<S.length->(nd S y).p = -1\/∃ p0:Nat,(nd S y).p=p0/\p0<S.length):=fun y hy=>zoH wf hy;have SH:Hid (∀ j z,PUp S j k z->j<S.length+1):=fun j z h=>wf.pup_short hk h;have LM:Hid (∀ y ∈ (ppF S (S.length+1) k).reverse,∃ x:Nat,y=x/\x<S.length):=fun y hy=>zqY (List.mem_reverse.1 hy);have LL:(ppF S (S.length+1) k).reverse.length<=25:=by rw[List.length_reverse];exact yx (zrb S _ _) (by omega)
 have DS:Hid (∀ l x,dpF S q (l++[x])=ziH S q (dpF S q l) x):=znH S q;obtain⟨L,hL⟩:∃ L,q.length=L:=⟨_,rfl⟩;have HL:Hid (q.length=L):=hL;have m4:=ziY L (by omega);generalize zbE S k q=i7 at *;obtain⟨P,hP⟩:∃ P,(ppF S (S.length+1) k).reverse=P:=⟨_,rfl⟩;rw[hP] at RS LM LL;have E0:Hid (P=(ppF S (S.length+1) k).reverse++[]):=(by rw[hP];simp:P=(ppF S (S.length+1) k).reverse++[]);clear hS hQ wf hP;obtain⟨n,hn⟩:∃ n,S.length=n:=⟨_,rfl⟩;have HN:Hid (S.length=n):=hn;rw[hn] at hN hk PS PI SH LM E0 |-;rw[hL] at j4 j5 RS |-;clear hn hL
 go_enter Tryz.func88,Tryz.ntmps88
 go_wp2_with fail
 go_loopg [7,8] (n+2) (fun g s7 s8 wr=>∃ (i:Nat) (x:Int) (l:List Int),i<=n+1/\n+1-i<g/\s8=.int .i64 x/\l.length<=i/\wr.cell? ⟨w.heap.size,0,none⟩=some (.slice a n c)/\w.heap.size+1<=wr.heap.size/\Hid (Below w.heap.size w wr)/\Hid (wr.ownsRow (w.heap.size+1) 3 1 s7 l.length (l.map (Value.int .i64)))/\Hid (P=(ppF S (n+1-i) x).reverse++l)/\Hid (x = -1\/∃ y:Nat,x=y/\y<n/\∀ j z,PUp S j y z->j<n+1-i))
 case atStart=>exact⟨0,k,[],by omega,by omega,rfl,by simp,by go_simp,by simp,(yj _ _).alloc (yi _) _,World.ownsRow_nil _ _ _ _,E0,(Or.inr ⟨k,rfl,hk,SH.out⟩:(k:Int) = -1\/∃ y:Nat,(k:Int)=y/\y<n/\∀ j z,PUp S j y z->j<n+1-0)⟩
 case round =>
  clear E0 SH;obtain⟨i,x,l,hi,hg,rfl,h6,cs,j7,HB,HO,HE,HX⟩:=hrel;have l5:=ye _ _ cs;obtain⟨pa,pc,e7,_⟩:=zat HO.out;subst e7;obtain⟨ln,a4⟩:∃ y,l.length=y:=⟨_,rfl⟩;have a6:Hid (l.length=ln):=a4;rw[a4] at HO h6 |-;rcases HX.out with hx |⟨y,hx,b5,f6⟩
  ·subst hx
   have e0:P=l:=by
    have:=HE.out;rw[PN.out] at this;simpa using this
   have j2:P.length=ln:=by rw[e0];exact a4
   have i5:Hid (wr.ownsRow (w.heap.size+1) 3 1 (.slice pa ln pc) P.length (P.map (Value.int .i64))):=(by rw[e0,a4];exact HO.out:wr.ownsRow (w.heap.size+1) 3 1 (.slice pa ln pc) P.length (P.map (Value.int .i64)));obtain⟨b6,k2,e8,D,_⟩:=zat i5.out;cases e8;have HI:Hid (zaj wr pa P):=D;clear HX HE e0 j2 a4 HO D a6 h6 PN PS PI;obtain⟨lp,e6⟩:∃ lp,P.length=lp:=⟨_,rfl⟩;have a7:Hid (P.length=lp):=e6;rw[e6] at LL |-;clear e6
   go_wp2_with fail
   obtain⟨V,rfl⟩:∃ V,V=wr:=⟨_,rfl⟩;have D0:Hid (dpF S q (P.take 0)=(fun _=>false,fun _=>false)):=(rfl:dpF S q (P.take 0)=_)
   go_loopg [10,40] lp (fun g s10 s40 wr=>∃ (i gl:Nat),i<=lp/\lp-i<=g/\s40=.int .i64 i/\s10=.slice (some ⟨gl,0,none⟩) L L/\gl≠V.heap.size/\V.heap.size<=gl/\Hid (Below V.heap.size V wr)/\Hid (wr.rowIs V.heap.size 4 L (fun j=>.bool ((dpF S q (P.take i)).2 j)))/\Hid (wr.rowIs gl 4 L (fun j=>.bool ((dpF S q (P.take i)).1 j))))
   case atStart =>
    refine⟨0,V.heap.size+1,by omega,by omega,rfl,rfl,by omega,by omega,zav _ _ _,?_,?_⟩
    ·have h0:=(World.rowIs_made V (.bool false) L 4).alloc (.cells (madeCells #[.bool false] L) 4);show World.rowIs _ _ _ _ _;rw[D0.out];exact h0
    ·have h0:=World.rowIs_made (V.alloc (.cells (madeCells #[.bool false] L) 4)) (.bool false) L 4;show World.rowIs _ _ _ _ _;rw[D0.out];simpa using h0
   case round =>
    clear D0;obtain⟨F,gl,m3,l7,rfl,rfl,m0,l8,J,RR,Z⟩:=hrel;have i9:=Z.out.lt;have j0:=RR.out.lt;have f9:Hid (Below w.heap.size w wr):=HB.out.trans (J.out.mono HB.out.size);have a8:=zac cs J.out;have d8:=ye _ _ a8;by_cases d6:F<lp
    ·obtain⟨y,hy,b5⟩:=LM.out (P.getD F 0) (by rw[zaf P 0 (by rw[a7.out];exact d6)];exact List.getElem_mem _);obtain⟨pb,po,ep,h7⟩:=(HI.out.below J.out) F (by rw[a7.out];exact d6);subst ep;rw[hy] at h7;obtain⟨nb,no,ea,c0,c1,c2,c3,c4,⟨ka,kc,c5,_⟩,c6,c7⟩:=(HS.out.below f9.out) y (by rw[HN.out];exact b5);subst ea;have k1:(y:Int)<(n:Int):=by omega
     have k9:(F:Int)<(lp:Int):=by omega
     have DN:Hid (dpF S q (P.take (F+1))=ziH S q (dpF S q (P.take F)) (y:Int)):=by
      show dpF S q (P.take (F+1))=_;rw[List.take_succ_eq_append_getElem (by rw[a7.out];exact d6),<- zaf P 0 (by rw[a7.out];exact d6),hy,DS.out]
     have NW:Hid (∀ j,znc S q (y:Int) (dpF S q (P.take F)).1 (dpF S q (P.take F)).2 j=(zin (tst q j).t (tst q j).m (nd S y) && (if j=0 then true else if (tst q j).near then (dpF S q (P.take F)).1 (j-1) else (dpF S q (P.take F)).2 (j-1)))):=fun j=>by unfold znc;rw[yg]
     obtain⟨LA,b9⟩:∃ f,(dpF S q (P.take F)).1=f:=⟨_,rfl⟩;obtain⟨RA,c8⟩:∃ f,(dpF S q (P.take F)).2=f:=⟨_,rfl⟩
     have b7:Hid (dpF S q (P.take (F+1))=(znc S q (y:Int) LA RA,fun j=>RA j || znc S q (y:Int) LA RA j)):=by
      show dpF S q (P.take (F+1))=_;rw[DN.out];unfold ziH;rw[b9,c8]
     rw[b9,c8] at NW;rw[b9] at Z;rw[c8] at RR;obtain⟨NF,g9⟩:∃ f,znc S q (y:Int) LA RA=f:=⟨_,rfl⟩;rw[g9] at NW b7;clear b9 c8 g9 DN hy;obtain⟨LK,g8⟩:∃ LK,(nd S y).ks.length=LK:=⟨_,rfl⟩;rw[g8] at c5;obtain⟨x,hx⟩:∃ x,nd S y=x:=⟨_,rfl⟩;rw[hx] at c0 c1 c2 c3 c4 c6 c7 NW;clear hx g8;obtain⟨xu,xn,xt,xm,xp,k3,xh,xc⟩:=x;dsimp only at c0 c1 c2 c3 c4 c6 c7
     go_wp2_with fail
     obtain⟨W2,O⟩:∃ W2,W2=(wr.alloc (.cells #[.bool xu,.int .i64 xn,.int .i64 xt,.int .i64 xm,.int .i64 xp,.slice ka LK kc,.int .i64 xh,.bool xc] 47)).alloc (.cells (madeCells #[.bool false] L) 4):=⟨_,rfl⟩;rw[<- O];have a5:Hid (Below wr.heap.size wr W2):=by rw[O];exact zav _ _ _
     have l0:wr.heap.size+2=W2.heap.size:=by rw[O];simp
     have d2:W2.cell? ⟨wr.heap.size,2,none⟩=some (.int .i64 xt):=by rw[O];exact zaH _ _ _ 2 _ rfl
     have d3:W2.cell? ⟨wr.heap.size,3,none⟩=some (.int .i64 xm):=by rw[O];exact zaH _ _ _ 3 _ rfl
     have RN:Hid (W2.rowIs (wr.heap.size+1) 4 L (fun t=>.bool (if t<0 then NF t else false))):=by
      have h0:=World.rowIs_made (wr.alloc (.cells #[.bool xu,.int .i64 xn,.int .i64 xt,.int .i64 xm,.int .i64 xp,.slice ka LK kc,.int .i64 xh,.bool xc] 47)) (.bool false) L 4;show World.rowIs _ _ _ _ _;rw[O];exact(by simpa using h0)
     have d7:Hid (Below V.heap.size V W2):=J.out.trans (a5.out.mono J.out.size);have g3:Hid (W2.rowIs V.heap.size 4 L (fun j=>.bool (RA j))):=RR.out.of_block (a5.out.block _ j0);have g2:Hid (W2.rowIs gl 4 L (fun j=>.bool (LA j))):=Z.out.of_block (a5.out.block _ i9);have l4:=J.out.size;clear O c0 c1 c2 c3 c4 c5 c6 c7 h7 RR Z a8 d8;obtain⟨U,rfl⟩:∃ U,U=wr:=⟨_,rfl⟩
     go_loopg [54] L (fun g s54 w3=>∃ j:Nat,j<=L/\L-j<=g/\s54=.int .i64 j/\Hid (Off (fun b=>b=U.heap.size+1) W2 w3)/\Hid (w3.rowIs (U.heap.size+1) 4 L (fun t=>.bool (if t<j then NF t else false))))
     case atStart=>exact⟨0,by omega,by omega,rfl,Off.refl _ _,RN⟩
     case round =>
      clear RN;obtain⟨j,hj,l9,rfl,O3,R3⟩:=hrel;have n2:=O3.out.size;have f8:Hid (Below V.heap.size V wr):=d7.out.trans (O3.out.below d7.out.size (fun k hk=>by have:k=U.heap.size+1:=hk;omega));have g0:Hid (Below w.heap.size w wr):=HB.out.trans (f8.out.mono HB.out.size);have d9:Hid (wr.rowIs V.heap.size 4 L (fun j=>.bool (RA j))):=g3.out.of_block (O3.out.block _ (by omega) (by show ¬ V.heap.size=U.heap.size+1;omega));have g6:Hid (wr.rowIs gl 4 L (fun j=>.bool (LA j))):=g2.out.of_block (O3.out.block _ (by omega) (by show ¬ gl=U.heap.size+1;omega));have e2:=(O3.out.cell (p:=⟨U.heap.size,2,none⟩) (by show U.heap.size < _;omega) (by show ¬ U.heap.size=U.heap.size+1;omega)).trans d2;have e3:=(O3.out.cell (p:=⟨U.heap.size,3,none⟩) (by show U.heap.size < _;omega) (by show ¬ U.heap.size=U.heap.size+1;omega)).trans d3;have l6:=ye _ _ e2;have h3:=R3.out.lt;by_cases h5:j<L
      ·obtain⟨qb,qo,eq,t0,t1,t2⟩:=(HQ.out.below g0.out) j (by rw[HL.out];exact h5);subst eq;have m6:=ye _ _ t0;have k8:(j:Int)<(L:Int):=by omega
       have l2:∀ o,wr.frozen? ⟨U.heap.size+1,o,none⟩=false:=fun o=>R3.out.frozen o;have n5:=R3.out.cell h5;have T:Hid _:=NW.out j;generalize (tst q j).t=tt at *;generalize (tst q j).m=tm at *;generalize (tst q j).near=tn at *;obtain⟨tb,f0⟩:∃ tb,zin tt tm ⟨xu,xn,xt,xm,xp,k3,xh,xc⟩=tb:=⟨_,rfl⟩;have g4:Hid (((decide (tt = -1000001) || decide (tt=xt)) && (decide (tm = -1000001) || decide (tm=xm)))=tb):=f0;rw[f0] at T;clear f0;have k4:gl<wr.heap.size:=g6.out.lt;have k6:V.heap.size<wr.heap.size:=d9.out.lt
       go_upto_region 16 with fail
       go_cut [17] (fun s17 wx=>s17=.bool tb/\wx=wr.alloc (.cells #[.int .i64 tt,.int .i64 tm,.bool tn] 86))
       case first =>
        rcases zhI tt (-1000001) with ⟨p1,f7⟩ |⟨p1,f7⟩ <;> rcases zhI tt xt with ⟨p2,p2'⟩ |⟨p2,p2'⟩ <;> rcases zhI tm (-1000001) with ⟨p3,p3'⟩ |⟨p3,p3'⟩ <;> rcases zhI tm xm with ⟨p4,p4'⟩ |⟨p4,p4'⟩
        all_goals
         have ht:=g4.out;rw[f7,p2', p3', p4'] at ht;subst ht;clear f7 p2' p3' p4'
         go_wp2_with fail
         go_meet
         case rel=>exact⟨rfl,rfl⟩
       case rest =>
       obtain⟨rfl,k0⟩:=hcut;subst k0;clear g4 t0 t1 t2 e2 e3
       cases j with
       | zero =>
        have M:NF 0=tb:=by have:=T.out;simpa using this
        have i3:Hid (NF 0=tb):=M;clear M T
        go_wp2_with fail
        go_roundg (L-(0+1))
        case measure=>omega
        case rel=>exact⟨0+1,by omega,by omega,by go_num,O3.out.trans ((zaK (X:=fun b=>b=U.heap.size+1) _ (show (fun b=>b=U.heap.size+1) (Addr.block ⟨U.heap.size+1,0,none⟩) from rfl) _).trans (Off.of_below (zab _ _))),World.rowIs.alloc ((R3.out.set 0 _).congr (fun t _=>zeM (G:=fun _=>false) i3.out t)) _⟩
       | succ A =>
        have rl:wr.cell? ⟨gl,A,none⟩=some (.bool (LA A)):=g6.out.cell (i:=A) (by omega);have rr:wr.cell? ⟨V.heap.size,A,none⟩=some (.bool (RA A)):=d9.out.cell (i:=A) (by omega);have i1:((A+1:Nat):Int)-1=(A:Int):=by omega
        have n4:(A:Int)+1-1=(A:Int):=by omega
        have hp:(0:Int)<(A:Int)+1:=by omega
        have m5:decide ((0:Int)<(A:Int)+1)=true:=decide_eq_true hp;have h4:(A:Int)<(L:Int):=by omega
        have nw:=T.out;rw[ya (by omega),Nat.add_sub_cancel] at nw;generalize LA A=la at *;generalize RA A=ra at *
        cases tn with
        | true =>
         have M:Hid (NF (A+1)=(tb && la)):=(by simpa using nw:NF (A+1)=(tb && la));clear nw T
         cases tb with
         | true =>
          go_wp2_with fail
          go_roundg (L-(A+1+1))
          case measure=>omega
          case rel=>exact⟨(A+1)+1,by omega,by omega,by go_num,O3.out.trans ((zaK (X:=fun b=>b=U.heap.size+1) _ (show (fun b=>b=U.heap.size+1) (Addr.block ⟨U.heap.size+1,(A+1),none⟩) from rfl) _).trans (Off.of_below (zab _ _))),World.rowIs.alloc ((R3.out.set (A+1) _).congr (fun t _=>zeM (G:=fun _=>false) (by first|exact M.out|(rw[M.out];done)|(rw[M.out];simp)) t)) _⟩
         | false =>
          go_wp2_with fail
          go_roundg (L-(A+1+1))
          case measure=>omega
          case rel=>exact⟨(A+1)+1,by omega,by omega,by go_num,O3.out.trans ((zaK (X:=fun b=>b=U.heap.size+1) _ (show (fun b=>b=U.heap.size+1) (Addr.block ⟨U.heap.size+1,(A+1),none⟩) from rfl) _).trans (Off.of_below (zab _ _))),World.rowIs.alloc ((R3.out.set (A+1) _).congr (fun t _=>zeM (G:=fun _=>false) (by first|exact M.out|(rw[M.out];done)|(rw[M.out];simp)) t)) _⟩
        | false =>
         have M:Hid (NF (A+1)=(tb && ra)):=(by simpa using nw:NF (A+1)=(tb && ra));clear nw T
         cases tb with
         | true =>
          go_wp2_with fail
          go_roundg (L-(A+1+1))
          case measure=>omega
          case rel=>exact⟨(A+1)+1,by omega,by omega,by go_num,O3.out.trans ((zaK (X:=fun b=>b=U.heap.size+1) _ (show (fun b=>b=U.heap.size+1) (Addr.block ⟨U.heap.size+1,(A+1),none⟩) from rfl) _).trans (Off.of_below (zab _ _))),World.rowIs.alloc ((R3.out.set (A+1) _).congr (fun t _=>zeM (G:=fun _=>false) (by first|exact M.out|(rw[M.out];done)|(rw[M.out];simp)) t)) _⟩
         | false =>
          go_wp2_with fail
          go_roundg (L-(A+1+1))
          case measure=>omega
          case rel=>exact⟨(A+1)+1,by omega,by omega,by go_num,O3.out.trans ((zaK (X:=fun b=>b=U.heap.size+1) _ (show (fun b=>b=U.heap.size+1) (Addr.block ⟨U.heap.size+1,(A+1),none⟩) from rfl) _).trans (Off.of_below (zab _ _))),World.rowIs.alloc ((R3.out.set (A+1) _).congr (fun t _=>zeM (G:=fun _=>false) (by first|exact M.out|(rw[M.out];done)|(rw[M.out];simp)) t)) _⟩
      ·have h4:j=L:=by omega
       subst h4;have i8:Hid (wr.rowIs (U.heap.size+1) 4 j (fun t=>.bool (NF t))):=R3.out.congr (fun t ht=>by rw[yd ht]);clear R3 e2 e3 NW
       go_wp2_with fail
       obtain⟨X,rfl⟩:∃ X,X=wr:=⟨_,rfl⟩
       go_loopg [113] j (fun g s113 w4=>∃ t:Nat,t<=j/\j-t<=g/\s113=.int .i64 t/\Hid (Off (fun b=>b=V.heap.size) X w4)/\Hid (w4.rowIs V.heap.size 4 j (fun I=>.bool (if I<t then (RA I || NF I) else RA I))))
       case atStart=>exact⟨0,by omega,by omega,rfl,Off.refl _ _,(show X.rowIs V.heap.size 4 j (fun I=>.bool (if I<0 then (RA I || NF I) else RA I)) from d9.out.congr (fun t _=>by rw[ya (yr _)]))⟩
       case round =>
        obtain⟨t,ht,m1,rfl,O4,R4⟩:=hrel;have n3:=O4.out.size;have b8:Hid (wr.rowIs (U.heap.size+1) 4 j (fun t=>.bool (NF t))):=i8.out.of_block (O4.out.block _ h3 (by show ¬ U.heap.size+1=V.heap.size;omega));have k5:=b8.out.lt;have k7:=R4.out.lt;by_cases h8:t<j
        ·have l1:(t:Int)<(j:Int):=by omega
         have rr:wr.cell? ⟨V.heap.size,t,none⟩=some (.bool (RA t)):=by
          have:=R4.out.cell h8;rw[ya (Nat.lt_irrefl _)] at this;exact this
         have rn:wr.cell? ⟨U.heap.size+1,t,none⟩=some (.bool (NF t)):=b8.out.cell h8;have l3:∀ o,wr.frozen? ⟨V.heap.size,o,none⟩=false:=fun o=>R4.out.frozen o;have HV:Hid (∀ v,(RA t || NF t)=v->(wr.setCell ⟨V.heap.size,t,none⟩ (.bool v)).rowIs V.heap.size 4 j (fun I=>.bool (if I<t+1 then (RA I || NF I) else RA I))):=fun v hv=>(R4.out.set t (.bool v)).congr (fun I _=>zeM (NF:=fun I=>RA I || NF I) (G:=RA) hv I);generalize j6:RA t=ra at *;generalize j3:NF t=nf at *;clear j6 j3
         cases ra with
         | true =>
          go_wp2_with fail
          go_roundg (j-(t+1))
          case measure=>omega
          case rel=>exact⟨t+1,by omega,by omega,by go_num,O4.out.trans (zaK (X:=fun b=>b=V.heap.size) _ (show (fun b=>b=V.heap.size) (Addr.block ⟨V.heap.size,t,none⟩) from rfl) _),HV.out true rfl⟩
         | false =>
          go_wp2_with fail
          go_roundg (j-(t+1))
          case measure=>omega
          case rel=>exact⟨t+1,by omega,by omega,by go_num,O4.out.trans (zaK (X:=fun b=>b=V.heap.size) _ (show (fun b=>b=V.heap.size) (Addr.block ⟨V.heap.size,t,none⟩) from rfl) _),HV.out nf rfl⟩
        ·have j9:t=j:=by omega
         subst j9;have h9:Hid (Below V.heap.size V wr):=f8.out.trans (O4.out.below (B:=V.heap.size) (by omega) (fun k hk=>by have:k=V.heap.size:=hk;omega));have F2:Hid (wr.rowIs V.heap.size 4 t (fun j=>.bool ((dpF S q (P.take (F+1))).2 j))):=R4.out.congr (fun I j8=>by rw[yd j8,b7.out]);have F1:Hid (wr.rowIs (U.heap.size+1) 4 t (fun j=>.bool ((dpF S q (P.take (F+1))).1 j))):=b8.out.congr (fun I _=>by rw[b7.out]);clear R4 b8 b7
         go_wp2_with fail
         go_roundg (lp-(F+1))
         case measure=>omega
         case rel=>exact⟨F+1,U.heap.size+1,by omega,by omega,by go_num,rfl,by omega,by omega,h9,F2,F1⟩
    ·have j1:F=lp:=by omega
     have hP:P.take F=P:=List.take_of_length_le (by rw[a7.out];omega);obtain⟨L', g7⟩:∃ L', L=L' + 1:=⟨L-1,by omega⟩;have rl:=Z.out.cell (i:=L') (by omega)
     have hR:(dpF S q (P.take F)).1 L' = i7:=by
      have:=RS.out;rw[g7,Nat.add_sub_cancel] at this;rw[hP];exact this
     rw[hR] at rl;subst g7;clear RR Z hR hP j1
     go_wp2_with fail
     go_ret;exact⟨rfl,f9.out⟩
  ·subst hx;have h0:=f6 0 y rfl;have k1:(y:Int)<(n:Int):=by omega
   have m7:((y:Int) == -1)=false:=beq_eq_false_iff_ne.2 (by omega)
   have EQ:Hid (P=(ppF S (n+1-(i+1)) (nd S y).p).reverse++((y:Int) :: l)):=by
    have e:=HE.out;rw[show n+1-i=(n+1-(i+1))+1 by omega,PS.out _ y b5] at e;show P=_;rw[e];simp
   have i6:Hid ((nd S y).p = -1\/∃ y' : Nat,(nd S y).p=y' /\ y' < n/\∀ j z,PUp S j y' z->j<n+1-(i+1)):=by
    rcases PI.out y b5 with h |⟨p0,h1,h2⟩
    ·exact Or.inl h
    ·refine Or.inr ⟨p0,h1,h2,fun j z h=>?_⟩;have:=f6 (j+1) z ⟨p0,by rw[HN.out];exact h2,h1,h⟩;omega
   clear HX HE f6 a4;have g5:Hid ((wr.alloc (.cells #[.int .i64 (y:Int)] 3)).ownsRow (w.heap.size+1) 3 1 (.slice (some ⟨wr.heap.size,0,none⟩) 1 1) 1 [.int .i64 (y:Int)]):=World.ownsRow_lit (base:=w.heap.size+1) (e:=3) (size:=1) wr #[.int .i64 (y:Int)] 1 j7 (by unfold maxLen;omega) (by simp);obtain⟨b6,k2,e8,D,_⟩:=zat (show wr.ownsRow (w.heap.size+1) 3 1 (.slice pa ln pc) l.length (l.map (Value.int .i64)) by rw[a6.out];exact HO.out);have e9:b6=pa:=by cases e8;rfl
   subst e9;have g1:Hid (zaj (wr.alloc (.cells #[.int .i64 (y:Int)] 3)) b6 l):=(show zaj wr b6 l from D).below (zab _ _);clear D e8
   go_wp2_with (at_builtin;refine zcu rfl _ _ rfl (w.heap.size+1) _ 1 _ rfl g5.out b6 ln pc l rfl a6.out g1.out (by unfold maxLen;omega) (by omega) (by simp;omega) ?_)
   intro v' w2 b4 a9 _;have c9:Below (w.heap.size+1) wr w2:=((yj _ wr).alloc (by omega) _).grown a9 (by simp;omega) (fun k hk=>by cases hk;omega);have J:Hid (Below w.heap.size w w2):=HB.out.trans (c9.mono (by omega));have a8:=(c9.cell (p:=⟨w.heap.size,0,none⟩) (by show w.heap.size < _;omega)).trans cs;have d8:=ye _ _ a8;have hs2:=c9.size
   have i4:Hid (w2.ownsRow (w.heap.size+1) 3 1 v' ((y:Int) :: l).length (((y:Int) :: l).map (Value.int .i64))):=by
    have h2:=b4;rw[show ((y:Int) :: l).length=1+ln by simp[a6.out];omega];exact h2
   obtain⟨nb,no,ea,_,_,_,_,c4,_,_,_⟩:=(HS.out.below J.out) y (by rw[HN.out];exact b5);subst ea;clear b4 a9 c9 cs HO g5 g1;generalize (nd S y).p=py at *
   go_wp2_with fail
   go_roundg (n+1-(i+1)+1)
   case measure=>omega
   case rel=>exact⟨i+1,py,(y:Int) :: l,by omega,by omega,rfl,by simp[a6.out];omega,a8,by omega,J,i4,EQ,i6⟩
theorem znN(a:Option Addr)(c:Nat)(S:List Nd)(W:World)(A I J F mb cnt:Nat)(gf:Int->Bool)(wf:WF S)(hC:zeu a c S)(T:A<W.heap.size)(U:I≠A)(V:J≠A)(O:F≠A)(Z:mb≠A)
  (hnd:∀ w,Off (fun k=>k=A) W w->zae w a S) (cs:W.cell? ⟨I,0,none⟩=some (.slice a S.length c)) (cw:W.cell? ⟨J,0,none⟩=some (.func (.func 90) #[] #[.pointer (some ⟨A,0,none⟩),.pointer (some ⟨I,0,none⟩),.pointer (some ⟨J,0,none⟩),.pointer (some ⟨F,0,none⟩)])) (cg:W.cell? ⟨F,0,none⟩=some (.map (some mb))) (mk:zaA W mb cnt gf)
  (M:∀ b o,a=some ⟨b,o,none⟩->b≠A) (a4:∀ k:Nat,gf k=decide (zcJ S S.length k≠[])) :
  ∀ (f p:Nat) (l:List Int) (w:World),p<S.length->zjG (zbn S (zcJ S S.length)) S.length f p->l.length+(zbG (zbn S (zcJ S S.length)) f p).length<=1000000->zce W A l w ->
  Calls Tryz.prog 90 #[.int .i64 (p:Int),.pointer (some ⟨A,0,none⟩),.pointer (some ⟨I,0,none⟩),.pointer (some ⟨J,0,none⟩),.pointer (some ⟨F,0,none⟩)] w fun e w2=>e=.returned (.tuple #[])/\zce W A (l++zbG (zbn S (zcJ S S.length)) f p) w2:=by
 have step:∀ (p:Nat) (sub:Int->List Int) (l:List Int) (w:World),p<S.length->(∀ k ∈ zbn S (zcJ S S.length) p,∀ l w,l.length+(sub k).length<=1000000->zce W A l w->Calls Tryz.prog 90 #[.int .i64 k,.pointer (some ⟨A,0,none⟩),.pointer (some ⟨I,0,none⟩),.pointer (some ⟨J,0,none⟩),.pointer (some ⟨F,0,none⟩)] w fun e w2=>e=.returned (.tuple #[])/\zce W A (l++sub k) w2) ->
   l.length+1+((zbn S (zcJ S S.length) p).flatMap sub).length<=1000000->zce W A l w->Calls Tryz.prog 90 #[.int .i64 (p:Int),.pointer (some ⟨A,0,none⟩),.pointer (some ⟨I,0,none⟩),.pointer (some ⟨J,0,none⟩),.pointer (some ⟨F,0,none⟩)] w fun e w2=>e=.returned (.tuple #[])/\zce W A (l++(p:Int) ::(zbn S (zcJ S S.length) p).flatMap sub) w2:=by
  intro p sub l w hp D hlen hI;by_cases hr:zbw S p = -1
  ·by_cases hg:zcJ S S.length p=[]
   ·have e:zbn S (zcJ S S.length) p=(nd S p).ks:=by unfold zbn;rw[ya (by simp[hr]),ya (by simp[hg])]
    rw[e] at D hlen |-;exact znQ a c S W A I J F mb cnt gf wf hC T U V O Z hnd cs cw cg mk p hp sub M hr (by rw[a4 p,hg];simp) D l w hlen hI
   ·obtain⟨r,H,rest,h1,h2,h3,h4,h5⟩:=znU wf hg;have e:zbn S (zcJ S S.length) p=(nd S H).ks.filter (fun c=>decide (toF S c.toNat=(p:Int))):=by unfold zbn;rw[ya (by simp[hr]),yd hg];exact h5
    rw[e] at D hlen |-;exact znP a c S W A I J F mb cnt gf wf hC T U V O Z hnd cs cw cg mk p hp sub M hr (by rw[a4 p];simp[hg]) r H rest h1 h2 h3 h4 D l w hlen hI
  ·obtain⟨r,h1,h2,_⟩:=zbM S p hr;have e:zbn S (zcJ S S.length) p=(nd S r).ks:=by unfold zbn;rw[yd hr,h2,yg]
   rw[e] at D hlen |-;exact znO a c S W A I J F mb cnt gf wf hC T U V O Z hnd cs cw cg mk p hp sub M r h1 h2 D l w hlen hI
 intro f
 induction f with
 | zero =>
  intro p l w hp hD hlen hI;have hk:zbn S (zcJ S S.length) p=[]:=hD;have h:=step p (fun _=>[]) l w hp (fun k a5=>by rw[hk] at a5;cases a5) (by simp only[zbG] at hlen;rw[hk];simpa using hlen) hI;rw[hk] at h;exact h
 | succ f ih =>
  intro p l w hp hD hlen hI
  exact step p (fun k=>zbG (zbn S (zcJ S S.length)) f k.toNat) l w hp (fun k hk l w hl a6=>by
   obtain⟨⟨h1,h2⟩,h3⟩:=hD k hk;have:=ih k.toNat l w (by omega) h3 hl a6
   rwa [Int.toNat_of_nonneg h1] at this) (by simp only[zbG,List.length_cons] at hlen;omega) hI
end Go.Proofs.YtgjfmepbphfjoaaGreat
