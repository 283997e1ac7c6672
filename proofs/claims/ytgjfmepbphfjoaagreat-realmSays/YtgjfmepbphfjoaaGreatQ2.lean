/-
  x
-/
import Derived.Test.YtgjfmepbphfjoaaGreatQ1
import Derived.Shelf.SlGeneric
import Derived.Shelf.Spec.SlicesInsertGrow
import Derived.Ground.Names2Prog
import Derived.Ground.SlgfProg
import Derived.Shelf.SlicesE.DeleteFunc
namespace Go.Proofs.YtgjfmepbphfjoaaGreat
set_option maxRecDepth 100000
set_option maxHeartbeats 4000000
set_option linter.unusedVariables false
open Go.RowKit Go.Shelf
theorem Below.drewNs{B:Nat}{a w:World}(h:Below B a w)(q:Nat):Below B a (w.drewN q):=⟨h.os,h.tape,h.output,h.size,h.block⟩
theorem zmf(x:Nd)(ka:Option Addr)(kc:Nat)(w:World)(D:x.ks.length<=9223372036854775807)(A:zaj w ka x.ks) :
  Calls Tryz.prog 97 #[.agg #[.bool x.u,.int .i64 x.n,.int .i64 x.t,.int .i64 x.m,.int .i64 x.p,.slice ka x.ks.length kc,.int .i64 x.h,.bool x.c]] w fun e w' => e=.returned (.bool (zcy x))/\Below w.heap.size w w' := by
 obtain⟨u,n,t,m,p,ks,h,c⟩:=x;unfold zcy;dsimp only at *;cases u
 ·have hs:=fun(W:World) (M:zaj W ka ks)=>zgF n n t m p ks ka kc h c W rfl D M;have F:∀ o1 I q,zaj (((w.alloc o1).alloc I).drewN q) ka ks:=fun o1 I q=>A.below (Below.drewNs (((yj _ _).alloc (yi _) _).alloc (by simp) _) q);have J:Hid _:=F;clear F A;generalize T:ks.length=L at *;simp only[Bool.false_eq_true,if_false];generalize decide (t=0/\m=0/\p = -1/\ks=[]/\h = -1/\c=false)=r at *
  go_enter Tryz.func97,Tryz.ntmps97
  go_wp2_with fail
  go_region_with (first|(go_at_call 75;refine(zfL _ _).mono ?_;rintro e w' ⟨rfl,rfl⟩)|(go_at_call 78;refine(hs _ (J.out _ _ _)).mono ?_;rintro e w' ⟨rfl,O⟩))
  all_goals go_wp2
  all_goals go_ret
  all_goals exact⟨rfl,(Below.drewNs (((yj _ _).alloc (yi _) _).alloc (by simp) _) _).trans (O.mono (by simp[World.drewN];omega))⟩
 ·clear A;simp only[if_true];by_cases hn:n=0
  ·subst hn;simp only[if_true]
   go_enter Tryz.func97,Tryz.ntmps97
   go_wp2
   go_ret;exact⟨rfl,(yj _ _).alloc (yi _) _⟩
  ·simp only[ya hn];by_cases hh:h = -1
   ·subst hh;simp only[if_true]
    go_enter Tryz.func97,Tryz.ntmps97
    go_wp2
    go_ret;exact⟨rfl,(yj _ _).alloc (yi _) _⟩
   ·simp only[ya hh]
    go_enter Tryz.func97,Tryz.ntmps97
    go_wp2
    go_ret;exact⟨rfl,(yj _ _).alloc (yi _) _⟩
def zba(N:Int)(x:Nd):Int:=if zbV x then (if zbv N x then (if zcy x then 0 else 3) else 4) else 2
theorem zlm{w A:World}{u:Bool}{n t m p:Int}{k:Value}{h:Int}{c:Bool}(D:Below (w.heap.size+1) (w.alloc (.cells #[.bool u,.int .i64 n,.int .i64 t,.int .i64 m,.int .i64 p,k,.int .i64 h,.bool c] 47)) A) :
  A.cell? ⟨w.heap.size,0,none⟩=some (.bool u)/\A.cell? ⟨w.heap.size,1,none⟩=some (.int .i64 n)/\A.cell? ⟨w.heap.size,2,none⟩=some (.int .i64 t)/\A.cell? ⟨w.heap.size,3,none⟩=some (.int .i64 m)/\A.cell? ⟨w.heap.size,4,none⟩=some (.int .i64 p)/\A.cell? ⟨w.heap.size,5,none⟩=some k/\A.cell? ⟨w.heap.size,6,none⟩=some (.int .i64 h)/\A.cell? ⟨w.heap.size,7,none⟩=some (.bool c) :=
 ⟨(D.cell (by simp)).trans (by go_simp),(D.cell (by simp)).trans (by go_simp),(D.cell (by simp)).trans (by go_simp),(D.cell (by simp)).trans (by go_simp),(D.cell (by simp)).trans (by go_simp),(D.cell (by simp)).trans (by go_simp),(D.cell (by simp)).trans (by go_simp),(D.cell (by simp)).trans (by go_simp)⟩
theorem zhN(x:Nd)(ka:Option Addr)(kc:Nat)(N:Int)(w:World)(hN:0<=N/\N<=24)(A:x.ks.length<=9223372036854775807)(I:zaj w ka x.ks) :
  Calls Tryz.prog 49 #[.agg #[.bool x.u,.int .i64 x.n,.int .i64 x.t,.int .i64 x.m,.int .i64 x.p,.slice ka x.ks.length kc,.int .i64 x.h,.bool x.c],.int .i64 N] w fun e w' => e=.returned (.int .i64 (zba N x))/\Below w.heap.size w w' := by
 unfold zba;have d1:=fun W=>zkc x (.slice ka x.ks.length kc) W;have d2:=fun(W:World) (g:zaj W ka x.ks)=>zgy x ka kc N W hN A g;have d3:=fun(W:World) (g:zaj W ka x.ks)=>zmf x ka kc W A g;have V:∀ o1 M,Below (w.heap.size+1) (w.alloc o1) M->zaj M ka x.ks:=fun o1 M h1=>I.below (((yj _ _).alloc (yi _) _).trans (h1.mono (by omega)));have U:Hid _:=V;clear V I;generalize x.ks.length=L at *;generalize zbV x=b1 at *;generalize zbv N x=b2 at *;generalize zcy x=b3 at *;cases b1;rotate_left;cases b2;rotate_left;cases b3
 all_goals
  go_enter Tryz.func49,Tryz.ntmps49
  go_wp2_with (first
   |(go_at_call 95;refine(d1 _).mono ?_;rintro e M ⟨rfl,D⟩;simp only[yk] at D;have J:=D;obtain⟨Z,l1,l2,l3,l4,l5,l6,l7⟩:=zlm D)
   |(go_at_call 96;refine(d2 _ (U.out _ _ J)).mono ?_;rintro e w2 ⟨rfl,O⟩;have F:=J.trans (O.mono (by have:=J.size;simp only[yk] at this;omega));clear Z l1 l2 l3 l4 l5 l6 l7;obtain⟨Z,l1,l2,l3,l4,l5,l6,l7⟩:=zlm F)
   |(go_at_call 97;refine(d3 _ (U.out _ _ F)).mono ?_;rintro e w3 ⟨rfl,T⟩;have B3:=F.trans (T.mono (by have:=F.size;simp only[yk] at this;omega))))
 all_goals go_ret
 all_goals first
  | exact⟨rfl,((yj _ _).alloc (yi _) _).trans (B3.mono (by omega))⟩
  | exact⟨rfl,((yj _ _).alloc (yi _) _).trans (F.mono (by omega))⟩
  | exact⟨rfl,((yj _ _).alloc (yi _) _).trans (J.mono (by omega))⟩
def nd(S:List Nd)(i:Nat):Nd:=S.getD i zdd
def zpq(w:World)(b o:Nat)(x:Nd):Prop :=
 w.cell? ⟨b,o,none⟩=some (.bool x.u)/\w.cell? ⟨b,o+1,none⟩=some (.int .i64 x.n)/\w.cell? ⟨b,o+2,none⟩=some (.int .i64 x.t)/\w.cell? ⟨b,o+3,none⟩=some (.int .i64 x.m) /\
 w.cell? ⟨b,o+4,none⟩=some (.int .i64 x.p)/\(∃ ka kc,w.cell? ⟨b,o+5,none⟩=some (.slice ka x.ks.length kc)/\zaj w ka x.ks)/\w.cell? ⟨b,o+6,none⟩=some (.int .i64 x.h)/\w.cell? ⟨b,o+7,none⟩=some (.bool x.c)
theorem zpq.below{w w' : World}{b o:Nat}{x:Nd}(h:zpq w b o x)(D:Below w.heap.size w w'):zpq w' b o x:=by
 obtain⟨c0,c1,c2,c3,c4,⟨ka,kc,c5,J⟩,F,I⟩:=h;have A:b<w.heap.size:=ye w ⟨b,o,none⟩ c0;exact⟨(D.cell A).trans c0,(D.cell A).trans c1,(D.cell A).trans c2,(D.cell A).trans c3,(D.cell A).trans c4,⟨ka,kc,(D.cell A).trans c5,J.below D⟩,(D.cell A).trans F,(D.cell A).trans I⟩
def zae(w:World)(a:Option Addr)(S:List Nd):Prop :=
 ∀ i,i<S.length->∃ b o,a=some ⟨b,o,none⟩/\zpq w b (o+i*8) (nd S i)
theorem zae.below{w w' : World}{a:Option Addr}{S:List Nd}(h:zae w a S)(A:Below w.heap.size w w'):zae w' a S:=fun i D=>by
 obtain⟨b,o,e,hn⟩:=h i D;exact⟨b,o,e,hn.below A⟩
def Big(S:List Nd):Prop:=∀ i,i<S.length->(nd S i).ks.length<=9223372036854775807
def zsb(S:List Nd)(i:Nat)(x:Int):Prop:=x≠-1/\(nd S x.toNat).u=true/\(nd S x.toNat).p=i
def zsc(S:List Nd)(k:Nat):Prop:=∀ i,i<k->∀ x ∈ (nd S i).ks,zsb S i x
def zdA(S:List Nd)(k j:Nat):Nat:=((S.take k).flatMap Nd.ks).count (j:Int)
def zgc(l:List Int)(q j:Nat):Nat:=(l.take q).count (j:Int)
def zdk(S:List Nd):Prop:=zsc S S.length/\∀ j,j<S.length->zdA S S.length j<=1/\((nd S j).p≠-1->zdA S S.length j≠0)
theorem zaJ{S:List Nd}{i:Nat}(h:i<S.length):nd S i=S[i]:=zaf S zdd h
theorem zfc(S:List Nd)(j:Nat):zdA S 0 j=0:=by simp[zdA]
theorem zcO(S:List Nd)(k j:Nat)(h:k<S.length):zdA S (k+1) j=zdA S k j+(nd S k).ks.count (j:Int):=by
 unfold zdA;rw[List.take_succ_eq_append_getElem h,List.flatMap_append,List.count_append,zaJ h];simp
theorem ziD(l:List Int)(j:Nat):zgc l 0 j=0:=by simp[zgc]
theorem zkQ(l:List Int)(j:Nat):zgc l l.length j=l.count (j:Int):=by simp[zgc]
theorem ziC(l:List Int)(q j:Nat)(h:q<l.length):zgc l (q+1) j=zgc l q j+(if l.getD q 0=(j:Int) then 1 else 0):=by
 unfold zgc;rw[List.take_succ_eq_append_getElem h,List.count_append,zaf l 0 h];by_cases e:l[q]=(j:Int) <;> simp[e]
theorem znA(l:List Int)(q j:Nat):zgc l q j<=q:=by
 unfold zgc;exact yx List.count_le_length (by rw[List.length_take];omega)
theorem zlL(S:List Nd)(k j:Nat)(J:k<=S.length)(A:zsc S k)(M:(nd S j).p=k):zdA S k j=0:=by
 unfold zdA;rw[List.count_eq_zero];intro I;obtain⟨y,hy,F⟩:=List.mem_flatMap.1 I;obtain⟨i,D,rfl⟩:=List.getElem_of_mem hy;rw[List.length_take] at D;have w:=A i (by omega) (j:Int) (by rw[zaJ (by omega)];simpa using F);have:=w.2.2;simp only[yg] at this;omega
theorem info3:(Tryz.prog.info? 3).map (fun i=>(i.zero,i.size,i.bytes))=some (some (.int .i64 0),1,8):=by kernel_rfl
theorem zle(n:Nat)(hn:n<=24)(w:World):(Instr.makeSlice 29 (.int .i64 (n:Int)) (.int .i64 (n:Int))).run Tryz.prog w=.ok (.slice (some ⟨w.heap.size,0,none⟩) n n) (w.alloc (.cells (madeCells #[.int .i64 0] n) 3)) :=
 run_make_row' (P:=Tryz.prog) 29 3 (.int .i64 0) 8 Tryz.underlying29 info3 rfl .i64 .i64 n (by omega) (by omega) w
theorem zkh(a:Option Addr)(c:Nat)(S:List Nd)(w:World)(hN:S.length<=24)(hB:Big S)(hP:∀ i,i<S.length->∀ x ∈ (nd S i).ks,-1<=x/\x<S.length)(hS:zae w a S) :
  Calls Tryz.prog 50 #[.slice a S.length c] w fun e w' => ∃ r:Bool,e=.returned (.bool r)/\Below w.heap.size w w' /\(r=true↔zdk S):=by
 have HK:Hid (zdk S↔(zsc S S.length/\∀ j,j<S.length->zdA S S.length j<=1/\((nd S j).p≠-1->zdA S S.length j≠0))):=Iff.rfl;generalize zdk S=KO at *;have HS:Hid (zae w a S):=hS;have HB:Hid (Big S):=hB;have HP:Hid (∀ i,i<S.length->∀ x ∈ (nd S i).ks,-1<=x/\x<S.length):=hP;clear hS hB hP;have HL:Hid (S.length=S.length):=rfl;generalize hn:S.length=n at *;have HN:Hid (S.length=n):=hn;clear hn HL;have d9:=zle n hN
 go_enter Tryz.func50,Tryz.ntmps50
 go_wp2
 go_loopg [15] n (fun g s15 wr=>∃ (k:Nat) (f:Nat->Int),k<=n/\n-k<=g/\s15=.int .i64 k/\Below w.heap.size w wr/\wr.rowIs w.heap.size 3 n (fun j=>.int .i64 (f j))/\Hid (∀ j,j<n->f j=(zdA S k j:Int))/\Hid (zsc S k))
 case atStart =>
  refine⟨0,fun _=>0,by omega,by omega,rfl,(yj _ _).alloc (yi _) _,World.rowIs_made _ _ _ _,(show Hid _ from fun j _=>by rw[zfc];rfl),(show Hid _ from fun i hi=>absurd hi (yr _))⟩
 case round =>
  obtain⟨k,f,hk,hg,rfl,hb,hF,A,U⟩:=hrel;by_cases T:k<n
  ·obtain⟨b,o,rfl,c0,c1,c2,c3,c4,⟨ka,kc,c5,J⟩,c6,c7⟩:=HS.out k (by rw[HN.out];exact T);have a5:b<w.heap.size:=ye w ⟨b,o+k*8,none⟩ c0;rw[<- hb.cell (by exact a5)] at c0 c1 c2 c3 c4 c5 c6 c7;have c8:=HB.out k (by rw[HN.out];exact T);have HF:Hid (wr.rowIs w.heap.size 3 n (fun j=>.int .i64 (f j))):=hF;have HI:Hid (zaj w ka (nd S k).ks):=J;have b8:=hF.lt;have P:Hid (∀ x ∈ (nd S k).ks,-1<=x/\x<(n:Int)):=HP.out k T;have FU:Hid (zsc S n->∀ x ∈ (nd S k).ks,zsb S k x):=fun h=>h k T;clear hF J;generalize J:(nd S k).ks=ks at *;have KS:Hid ((nd S k).ks=ks):=J;clear J;generalize hL:ks.length=L at *;have LL:Hid (ks.length=L):=hL;clear hL
   go_wp2
   go_loopg [23] L (fun g s23 w2=>∃ (q:Nat) (f2:Nat->Int),q<=L/\L-q<=g/\s23=.int .i64 q/\Below w.heap.size w w2/\w2.rowIs w.heap.size 3 n (fun j=>.int .i64 (f2 j))/\Hid (∀ j,j<n->f2 j=((zdA S k j+zgc ks q j:Nat):Int))/\Hid (∀ i,i<q->zsb S k (ks.getD i 0)))
   case atStart =>
    refine⟨0,f,by omega,by omega,rfl,hb.alloc hb.size _,HF.out.alloc _,(show Hid _ from fun j hj=>by rw[ziD,A.out j hj];rfl),(show Hid _ from fun i hi=>absurd hi (yr _))⟩
   case round =>
    obtain⟨q,f2,hq,b6,rfl,D,F,A2,U2⟩:=hrel;by_cases I:q<L
    ·obtain⟨kb,ko,rfl,d8⟩:=(HI.out.below D) q (by rw[LL.out];exact I);have V:ks.getD q 0 ∈ ks:=by rw[zaf ks 0 (by rw[LL.out];exact I)];exact List.getElem_mem _
     have b4:Hid (ks.getD q 0 ∈ ks):=V;obtain⟨e9,f0⟩:=P.out _ V;clear V;generalize hy:ks.getD q 0=y at *;have HY:Hid (ks.getD q 0=y):=hy;clear hy;have O:Hid (wr.rowIs w.heap.size 3 n (fun j=>.int .i64 (f2 j))):=F;have M:Hid (¬ zsb S k y->(false=true↔KO)):=fun a7=>⟨fun h=>(by cases h),fun h=>absurd (FU.out ((HK.out.1 h).1) y b4.out) a7⟩;by_cases b9:y = -1
     ·subst b9;have Z:Hid _:=M.out (fun h=>h.1 rfl);clear F
      go_wp2
      go_ret;exact⟨false,rfl,D,Z.out⟩
     ·obtain⟨j,rfl⟩:∃ j:Nat,y=(j:Int):=⟨y.toNat,by omega⟩;have hj:j<n:=by omega
      obtain⟨b', o', e', d0,_,_,_,d4,_⟩:=HS.out j (by rw[HN.out];exact hj)
      cases e'
      rw[<- D.cell (by exact a5)] at d0 d4;have a4:=F.cell hj;have d7:=F.frozen;have hv:=A2.out j hj;clear F
      cases hu:(nd S j).u with
      | false =>
       rw[hu] at d0;have Z:Hid _:=M.out (fun h=>by have:=h.2.1;simp[hu] at this);clear hu
       go_wp2
       go_ret;exact⟨false,rfl,D,Z.out⟩
      | true =>
       rw[hu] at d0;by_cases hp:(nd S j).p=(k:Int)
       ·have hz:=zlL S k j (by rw[HN.out];omega) U.out hp;have b7:=znA ks q j;have FK:Hid (zsb S k (j:Int)):=⟨by omega,by simpa using hu,by simpa using hp⟩;rw[hz] at hv;have e7:0<=f2 j:=by omega
        have e8:f2 j<9223372036854775807:=by omega
        rw[hp] at d4;clear hu hp hz b7 hv;generalize a8:f2 j=v at *;have FJ:Hid (f2 j=v):=a8;clear a8
        go_wp2
        go_roundg (L-(q+1))
        case measure=>omega
        case rel =>
         refine⟨q+1,fun i=>if i=j then v+1 else f2 i,by omega,by omega,by go_num,D.setCell (yi _) _,(O.out.set j _).congr (fun i _=>?_),(show Hid _ from fun i hi=>?_),(show Hid _ from fun i hi=>?_)⟩
         ·dsimp only;by_cases e:i=j
          ·rw[yd e,yd e]
          ·rw[ya e,ya e]
         ·dsimp only;rw[ziC ks q i (by rw[LL.out];exact I),HY.out];by_cases e:i=j
          ·subst e;have:=A2.out i hi;rw[yd rfl,yd rfl];rw[FJ.out] at this;omega
          ·have:=A2.out i hi;rw[ya e,ya (by omega)];exact this
         ·by_cases e:i=q
          ·subst e;rw[HY.out];exact FK.out
          ·exact U2.out i (by omega)
       ·have Z:Hid _:=M.out (fun h=>hp (by simpa using h.2.2));generalize (nd S j).p=pj at d4 hp;have e0:(pj ==(k:Int))=false:=by simp[hp]
        have e6:(pj !=(k:Int))=true:=by simp[hp]
        clear hu
        go_wp2
        go_ret;exact⟨false,rfl,D,Z.out⟩
    ·have:q=L:=by omega
     subst this;have O:Hid (wr.rowIs w.heap.size 3 n (fun j=>.int .i64 (f2 j))):=F;clear F
     go_wp2
     go_roundg (n-(k+1))
     case measure=>omega
     case rel =>
      refine⟨k+1,f2,by omega,by omega,by go_num,D,O.out,(show Hid _ from fun j hj=>?_),(show Hid _ from fun i hi=>?_)⟩
      ·rw[A2.out j hj,zcO S k j (by rw[HN.out];exact T),KS.out,<- zkQ,LL.out]
      ·by_cases e:i=k
       ·subst e;intro x hx;rw[KS.out] at hx;obtain⟨r,hr,rfl⟩:=List.getElem_of_mem hx;have:=U2.out r (by rw[<- LL.out];exact hr)
        rwa [zaf ks 0 hr] at this
       ·exact U.out i (by omega)
  ·have:k=n:=by omega
   subst this;have HF:Hid (wr.rowIs w.heap.size 3 k (fun j=>.int .i64 (f j))):=hF;clear hF
   go_wp2
   go_loopg [56] k (fun g s56 w2=>∃ q:Nat,q<=k/\k-q<=g/\s56=.int .i64 q/\Below w.heap.size w w2/\w2.rowIs w.heap.size 3 k (fun j=>.int .i64 (f j))/\Hid (∀ j,j<q->zdA S k j<=1/\((nd S j).p≠-1->zdA S k j≠0)))
   case atStart=>exact⟨0,by omega,by omega,rfl,hb,HF.out,(show Hid _ from fun j hj=>absurd hj (yr _))⟩
   case round =>
    obtain⟨q,hq,b6,rfl,D,F,A2⟩:=hrel;by_cases I:q<k
    ·obtain⟨b,o,rfl,c0,c1,c2,c3,c4,⟨ka,kc,c5,J⟩,c6,c7⟩:=HS.out q (by rw[HN.out];exact I);have a5:b<w.heap.size:=ye w ⟨b,o+q*8,none⟩ c0;rw[<- D.cell (by exact a5)] at c0 c1 c2 c3 c4 c5 c6 c7;have O:Hid (wr.rowIs w.heap.size 3 k (fun j=>.int .i64 (f j))):=F;have a4:=F.cell I;have b8:=F.lt;have hv:=A.out q I;rw[hv] at a4;have M:Hid (¬ (zdA S k q<=1/\((nd S q).p≠-1->zdA S k q≠0))->(false=true↔KO)):=fun a7=>⟨fun h=>(by cases h),fun h=>absurd ((HK.out.1 h).2 q I) a7⟩
     have a6:Hid ((zdA S k q<=1/\((nd S q).p≠-1->zdA S k q≠0))->∀ j,j<q+1->zdA S k j<=1/\((nd S j).p≠-1->zdA S k j≠0)):=fun h j hj=>by
      by_cases e:j=q
      ·rw[e];exact h
      ·exact A2.out j (by omega)
     clear F J hv;have b5:wr.cell? ⟨w.heap.size,q,none⟩=some (.int .i64 (zdA S k q:Int)):=a4;clear a4;generalize zdA S k q=vn at *;generalize a9:(vn:Int)=v at *;have VI:Hid ((vn:Int)=v):=a9;clear a9;generalize (nd S q).p=pq at *;by_cases h1:1<v
     ·have Z:Hid _:=M.out (fun h=>by have:=VI.out;omega)
      go_wp2
      go_ret;exact⟨false,rfl,D.alloc D.size _,Z.out⟩
     ·by_cases h2:pq = -1
      ·subst h2;have Z:=a6.out ⟨by have:=VI.out;omega,fun h=>absurd rfl h⟩;have ZZ:Hid _:=Z;clear Z
       go_wp2
       go_roundg (k-(q+1))
       case measure=>omega
       case rel=>exact⟨q+1,by omega,by omega,by go_num,D.alloc D.size _,O.out.alloc _,ZZ⟩
      ·have c9:(pq == -1)=false:=by simp[h2]
       have d6:(pq != -1)=true:=by simp[h2]
       by_cases h3:v=0
       ·subst h3;have Z:Hid _:=M.out (fun h=>h.2 h2 (by have:=VI.out;omega))
        go_wp2
        go_ret
        first
         | exact⟨false,rfl,D.alloc D.size _,Z.out⟩
         | exact Or.inl ⟨rfl,D.alloc D.size _,fun h=>by cases Z.out.2 h⟩
       ·have ZZ:Hid _:=a6.out ⟨by have:=VI.out;omega,fun _=>by have:=VI.out;omega⟩
        go_wp2
        go_roundg (k-(q+1))
        case measure=>omega
        case rel=>exact⟨q+1,by omega,by omega,by go_num,D.alloc D.size _,O.out.alloc _,ZZ⟩
    ·have:q=k:=by omega
     subst this;clear F
     go_wp2
     go_ret;exact⟨true,rfl,D,fun _=>HK.out.2 ⟨U.out,A2.out⟩,fun _=>rfl⟩
instance (S:List Nd):Decidable (zdk S):=by unfold zdk zsc zsb;infer_instance
theorem zom(a:Option Addr)(c:Nat)(S:List Nd)(w:World)(D:S.length<=24)(A:Big S)(F:∀ i,i<S.length->∀ x ∈ (nd S i).ks,-1<=x/\x<S.length)(I:zae w a S) :
  Calls Tryz.prog 50 #[.slice a S.length c] w fun e w' => e=.returned (.bool (decide (zdk S)))/\Below w.heap.size w w' :=
 (zkh a c S w D A F I).mono (by
  rintro e w' ⟨r,rfl,J,hr⟩;refine⟨?_,J⟩
  congr 2
  cases r
  ·exact(decide_eq_false (fun h=>by cases hr.2 h)).symm
  ·exact(decide_eq_true (hr.1 rfl)).symm)
def znf(S:List Nd)(i:Nat):Prop:=(nd S i).h≠-1->(nd S (nd S i).h.toNat).u=true/\∀ w,w<i->(nd S w).h≠(nd S i).h
def zdY(S:List Nd)(k:Nat):Prop:=∀ i,i<k->znf S i
instance (S:List Nd) (k:Nat):Decidable (zdY S k):=by unfold zdY znf;infer_instance
theorem ziN(a:Option Addr)(c:Nat)(S:List Nd)(w:World)(hN:S.length<=24)(hP:∀ i,i<S.length->-1<=(nd S i).h/\(nd S i).h<S.length)(hS:zae w a S) :
  Calls Tryz.prog 51 #[.slice a S.length c] w fun e w' => e=.returned (.bool (decide (zdY S S.length)))/\Below w.heap.size w w' := by
 have a7:Hid (zdY S S.length->decide (zdY S S.length)=true):=fun h=>decide_eq_true h;have a6:Hid (¬ zdY S S.length->decide (zdY S S.length)=false):=fun h=>decide_eq_false h;generalize decide (zdY S S.length)=KO at *;have HS:Hid (zae w a S):=hS;have HP:Hid (∀ i,i<S.length->-1<=(nd S i).h/\(nd S i).h<S.length):=hP;clear hS hP;generalize hn:S.length=n at *;have HN:Hid (S.length=n):=hn;clear hn;have b7:=zle n hN
 go_enter Tryz.func51,Tryz.ntmps51
 go_wp2
 go_loopg [11] n (fun g s11 wr=>∃ (k:Nat) (f:Nat->Int),k<=n/\n-k<=g/\s11=.int .i64 k/\Below w.heap.size w wr/\wr.rowIs w.heap.size 3 n (fun j=>.int .i64 (f j))/\Hid (∀ j,j<n->(f j=0/\∀ i,i<k->(nd S i).h≠j)\/(f j=1/\∃ i,i<k/\(nd S i).h=j))/\Hid (zdY S k))
 case atStart =>
  exact⟨0,fun _=>0,by omega,by omega,rfl,(yj _ _).alloc (yi _) _,World.rowIs_made _ _ _ _,(show Hid _ from fun j _=>Or.inl ⟨rfl,fun i I=>absurd I (yr _)⟩),(show Hid _ from fun i I=>absurd I (yr _))⟩
 case round =>
  obtain⟨k,f,hk,hg,rfl,D,O,A,U⟩:=hrel;by_cases V:k<n
  ·obtain⟨b,o,rfl,c0,c1,c2,c3,c4,⟨ka,kc,c5,a8⟩,c6,c7⟩:=HS.out k (by rw[HN.out];exact V);have T:b<w.heap.size:=ye w ⟨b,o+k*8,none⟩ c0;rw[<- D.cell (by exact T)] at c0 c1 c2 c3 c4 c5 c6 c7;have HF:Hid (wr.rowIs w.heap.size 3 n (fun j=>.int .i64 (f j))):=O;have c8:=O.lt;obtain⟨b5,b6⟩:=HP.out k V
   have M:Hid (znf S k->zdY S (k+1)):=fun h i I=>by
    by_cases e:i=k
    ·rw[e];exact h
    ·exact U.out i (by omega)
   have a4:Hid (¬ znf S k->KO=false):=fun h=>a6.out (fun J=>h (J k V));clear a8;generalize hh:(nd S k).h=y at *;have F:Hid ((nd S k).h=y):=hh;clear hh;by_cases hy:y = -1
   ·subst hy;clear O
    go_wp2
    go_roundg (n-(k+1))
    case measure=>omega
    case rel =>
     refine⟨k+1,f,by omega,by omega,by go_num,D.alloc D.size _,HF.out.alloc _,(show Hid _ from fun j hj=>?_),M.out (fun h=>absurd F.out h)⟩;rcases A.out j hj with ⟨h0,h1⟩ |⟨h0,i,I,h1⟩
     ·refine Or.inl ⟨h0,fun i I=>?_⟩;by_cases e:i=k
      ·rw[e,F.out];omega
      ·exact h1 i (by omega)
     ·exact Or.inr ⟨h0,i,by omega,h1⟩
   ·obtain⟨j,rfl⟩:∃ j:Nat,y=(j:Int):=⟨y.toNat,by omega⟩;have hj:j<n:=by omega
    obtain⟨b', o', e', d0,_⟩:=HS.out j (by rw[HN.out];exact hj)
    cases e'
    rw[<- D.cell (by exact T)] at d0;have a9:=O.cell hj;have b4:=O.frozen;have hv:=A.out j hj;have c9:((j:Int) == -1)=false:=by simp[hy]
    generalize a5:f j=v at *;have FJ:Hid (f j=v):=a5;have AV:Hid ((v=0/\∀ i,i<k->(nd S i).h≠j)\/(v=1/\∃ i,i<k/\(nd S i).h=j)):=hv;have b8:0<=v:=by omega
    have b9:v<=1:=by omega
    clear a5 hv;have d1:∀ v o1,((wr.setCell ⟨w.heap.size,j,none⟩ v).alloc o1).cell? ⟨b,o+j*8,none⟩=some (.bool (nd S j).u):=fun v o1=>((((yj w.heap.size wr).setCell (yi _) v).alloc (by have:=O.lt;simp[World.setCell];omega) o1).cell (by exact T)).trans d0;clear O
    cases J:(nd S j).u with
    | false =>
     rw[J] at d0 d1;have Z:Hid _:=a4.out (fun h=>by have:=(h (by rw[F.out];omega)).1;rw[F.out] at this;simp[J] at this);clear J
     go_wp2
     go_ret;exact⟨by rw[Z.out];rfl,(D.setCell (yi _) _).alloc (by simpa using D.size) _⟩
    | true =>
     rw[J] at d0 d1;by_cases hv:v=0
     ·subst hv
      have HK:Hid (znf S k):=fun _=>⟨by rw[F.out];simpa using J,fun i I=>by
       rw[F.out];rcases AV.out with ⟨_,h⟩ |⟨h,_⟩
       ·exact h i I
       ·omega⟩
      clear J
      go_wp2
      go_roundg (n-(k+1))
      case measure=>omega
      case rel =>
       refine⟨k+1,fun i=>if i=j then 1 else f i,by omega,by omega,by go_num,?_,?_,(show Hid _ from fun i I=>?_),M.out HK.out⟩
       ·exact(D.setCell (yi _) _).alloc (by simpa using D.size) _
       ·refine((HF.out.set j _).alloc _).congr (fun i _=>?_);dsimp only;by_cases e:i=j
        ·rw[yd e,yd e]
        ·rw[ya e,ya e]
       ·dsimp only;by_cases e:i=j
        ·rw[yd e];exact Or.inr ⟨rfl,k,by omega,by rw[F.out,e]⟩
        ·rw[ya e];rcases A.out i I with ⟨h0,h1⟩ |⟨h0,r,hr,h1⟩
         ·refine Or.inl ⟨h0,fun r hr=>?_⟩;by_cases e2:r=k
          ·rw[e2,F.out];omega
          ·exact h1 r (by omega)
         ·exact Or.inr ⟨h0,r,by omega,h1⟩
     ·have hv:v=1:=by omega
      subst hv
      have Z:Hid _:=a4.out (fun h=>by
       rcases AV.out with ⟨h0,_⟩ |⟨_,r,hr,h1⟩
       ·omega
       ·exact(h (by rw[F.out];omega)).2 r hr (by rw[F.out];exact h1))
      clear J
      go_wp2
      go_ret;exact⟨by rw[Z.out];rfl,(D.setCell (yi _) _).alloc (by simpa using D.size) _⟩
  ·have:k=n:=by omega
   subst this;clear O
   go_wp2
   go_ret;exact⟨by rw[a7.out U.out];rfl,D⟩
theorem zsK:(Tryz.prog.info? 3).map (fun i=>(i.zero,i.size,i.bytes))=some (some (.int .i64 0),1,8):=by kernel_rfl
theorem zor(n:Nat)(hn:n<=1000000)(w:World):(Instr.makeSlice 29 (.int .i64 (n:Int)) (.int .i64 (n:Int))).run Tryz.prog w=.ok (.slice (some ⟨w.heap.size,0,none⟩) n n) (w.alloc (.cells (madeCells #[.int .i64 0] n) 3)) :=
 run_make_row' (P:=Tryz.prog) 29 3 (.int .i64 0) 8 Tryz.underlying29 zsK rfl .i64 .i64 n (by omega) (by omega) w
theorem zhX{w:World}{g t:Nat}{ks:List Int}(h:w.rowIs g t ks.length (fun j=>.int .i64 (ks.getD j 0))):zaj w (some ⟨g,0,none⟩) ks:=fun i A=>⟨g,0,rfl,by rw[yv];exact h.cell A⟩
theorem zed(ka:Option Addr)(kc:Nat)(ks:List Int)(w:World)(hk:ks.length<=1000000)(I:zaj w ka ks) :
  Calls Tryz.prog 73 #[.slice ka ks.length kc] w fun e w' => e=.returned (.slice (some ⟨w.heap.size,0,none⟩) ks.length ks.length)/\Below w.heap.size w w' /\ w'.rowIs w.heap.size 3 ks.length (fun j=>.int .i64 (ks.getD j 0)):=by
 have a4:=zor ks.length hk;have U:(Tryz.prog.info? 3).map (·.size)=some 1:=by kernel_rfl
 have A:Hid (∀ o1,zaj (w.alloc o1) ka ks):=fun o1=>I.below (zab _ _)
 have HG:Hid ((w.alloc (.cells (madeCells #[.int .i64 0] ks.length) 3)).heap[w.heap.size]?=some (.cells (madeCells #[.int .i64 0] ks.length).toList.toArray 3 (0,0))):=by
  have:=heap_alloc_new w (.cells (madeCells #[.int .i64 0] ks.length) 3);show _=_;simpa using this
 have HP:Hid (∀ o1,0<(ks.map (Value.int .i64)).length->some (⟨w.heap.size,0,none⟩:Addr)=some ⟨w.heap.size,0,none⟩/\∃ V,ka=some V/\∀ j v,(ks.map (Value.int .i64))[j]?=some v->(w.alloc o1).cell? (V.add j)=some v):=fun o1 h0=>by
  refine⟨rfl,?_⟩;obtain⟨b,o,rfl,_⟩:=A.out o1 0 (by simpa using h0);refine⟨_,rfl,fun j v hj=>?_⟩;obtain⟨hl,J⟩:=List.getElem?_eq_some_iff.1 hj;obtain⟨b', o', e', Z⟩:=A.out o1 j (by simpa using hl)
  cases e'
  rw[List.getElem_map] at J;rw[zaf ks 0 (by simpa using hl),J] at Z;rw[Addr.add_lit];exact Z
 have D:Hid (splice (madeCells #[.int .i64 0] ks.length).toList 0 (ks.map (Value.int .i64))=ks.map (Value.int .i64)):=by
  show splice _ _ _=_;simp[splice,size_madeCells]
 clear I
 go_enter Tryz.func73,Tryz.ntmps73
 go_wp2_with (refine wpList_copy_splice rfl (.tmp 7) (.tmp 8) 29 29 rfl 3 Tryz.underlying29 U (some ⟨w.heap.size,0,none⟩) ka ks.length ks.length ks.length kc rfl rfl w.heap.size 0 (madeCells #[.int .i64 0] ks.length).toList 3 HG.out (ks.map (Value.int .i64)) (by simp) (HP.out _) (by simp[size_madeCells]) (by intro v J;simp at J;obtain⟨y,_,rfl⟩:=J;rfl) w.heap.size _ (yj _ _) (yi _) ?_)
 intro w3 M F
 have T:Hid (w3.rowIs w.heap.size 3 ks.length (fun j=>.int .i64 (ks.getD j 0))):=by
  refine⟨_,M.out,?_,fun i hi=>?_⟩
  ·rw[D.out];simp
  ·rw[D.out];simp[hi]
 have O:Hid (Below w.heap.size w w3):=(zab _ _).trans F;clear F M
 go_wp2
 go_ret;exact⟨rfl,O.out,T.out⟩
structure zbA (X:Nat->Prop) (w w' : World):Prop where
 size:w.heap.size<=w'.heap.size
 block:∀ b,b<w.heap.size->¬ X b->w'.heap[b]?=w.heap[b]?
theorem zbA.refl(X:Nat->Prop)(w:World):zbA X w w:=⟨yi _,fun _ _ _=>rfl⟩
theorem zbA.of_below{X:Nat->Prop}{w w' : World}(h:Below w.heap.size w w'):zbA X w w' :=⟨h.size,fun b A _=>h.block b A⟩
theorem zbA.trans{X:Nat->Prop}{w w' A:World}(h:zbA X w w')(k:zbA X w' A):zbA X w A:=⟨yx h.size k.size,fun b D hx=>(k.block b (ys D h.size) hx).trans (h.block b D hx)⟩
theorem zbA.set{X:Nat->Prop}(w:World){b o:Nat}(v:Value)(h:X b):zbA X w (w.setCell ⟨b,o,none⟩ v):=⟨by simp,fun k _ A=>yo _ _ _ _ (fun e=>A (by rw[e];exact h))⟩
theorem zbA.grown{X:Nat->Prop}{w w' : World}{r:Option Nat}(h:w.grownBy w' r)(hx:∀ b,r=some b->X b):zbA X w w' :=⟨h.size,fun k A hn=>h.block k A (fun e=>hn (hx k e.symm))⟩
theorem zln{X Y:Nat->Prop}{w A w' : World}(hs:w.heap.size<=A.heap.size)(I:∀ b,b<w.heap.size->¬ X b->A.heap[b]?=w.heap[b]?)(F:∀ b,b<w.heap.size->Y b->X b)(h:zbA Y A w'):zbA X w w' :=⟨yx hs h.size,fun b h1 D=>(h.block b (ys h1 hs) (fun hy=>D (F b h1 hy))).trans (I b h1 D)⟩
theorem zbA.mono{X Y:Nat->Prop}{w w' : World}(h:zbA X w w')(A:∀ b,X b->Y b):zbA Y w w' :=⟨h.size,fun b D hy=>h.block b D (fun hx=>hy (A b hx))⟩
def St(X:Nat->Prop)(P:World->Prop)(w:World):Prop:=∀ w', zbA X w w' -> P w'
theorem St.off{X:Nat->Prop}{P:World->Prop}{w w' : World}(h:St X P w)(F:zbA X w w'):St X P w' := fun A D=>h A (F.trans D)
theorem St.at{X:Nat->Prop}{P:World->Prop}{w:World}(h:St X P w):P w:=h w (zbA.refl X w)
theorem St.less{X Y:Nat->Prop}{P:World->Prop}{w:World}(h:St Y P w)(A:∀ b,X b->Y b):St X P w:=fun w' D=>h w' (D.mono A)
theorem St.grow{X Y:Nat->Prop}{P:World->Prop}{w D:World}(h:St X P w)(A:zbA X w D)(I:∀ b,b<w.heap.size->Y b->X b):St Y P D:=fun w' F=>h w' (zln A.size A.block I F)
theorem St.imp{X:Nat->Prop}{P Q:World->Prop}{w:World}(h:St X P w)(A:∀ V,P V->Q V):St X Q w:=fun w' D=>A w' (h w' D)
theorem St.and{X:Nat->Prop}{P Q:World->Prop}{w:World}(h:St X P w)(k:St X Q w):St X (fun V=>P V/\Q V) w:=fun w' A=>⟨h w' A,k w' A⟩
theorem zpw(W:World)(w:Array Value)(t o:Nat):(W.alloc (.cells w t)).frozen? ⟨W.heap.size,o,none⟩=false:=by
 have e:=heap_alloc_new W (.cells w t);simp only[World.frozen?,e];simp
theorem znt(W:World)(w:Array Value)(t o:Nat)(o1:Obj):((W.alloc o1).alloc (.cells w t)).frozen? ⟨W.heap.size+1,o,none⟩=false:=by
 have:=zpw (W.alloc o1) w t o
 rwa [yk] at this
def zbX{E:Type}(J:E->Nat->Value)(t s n:Nat)(R:Nat->E->Nat->Nat->World->Prop)(g k:Nat)(w:World):Prop :=
 ∃ (v:Nat->E) (D A:Nat->Nat) (F:Nat->Value),w.rowIs g t (n*s) F/\∀ i,i<k->(∀ j,j<s->F (i*s+j)=J (v i) j)/\g<D i/\D i<=A i/\A i<=w.heap.size/\(∀ I,I<i->A I<=D i)/\St (fun b=>b<D i\/A i<=b) (R i (v i) (D i) (A i)) w
theorem zbX.zero{E:Type}{F:E->Nat->Value}(w:World)(D:Array Value)(t s n:Nat)(R:Nat->E->Nat->Nat->World->Prop)(I:E):zbX F t s n R w.heap.size 0 (w.alloc (.cells (madeCells D (n*s)) t)):=by
 have h:=World.rowIs_alloc w (madeCells D (n*s)) t (fun j=>(madeCells D (n*s))[j]!) (fun i A=>by simp[A]);rw[size_madeCells] at h;exact⟨fun _=>I,fun _=>0,fun _=>0,_,h,fun i A=>absurd A (yr _)⟩
theorem zbX.facts{E:Type}{D:E->Nat->Value}{t s n g k:Nat}{R:Nat->E->Nat->Nat->World->Prop}{w:World}(h:zbX D t s n R g k w):g<w.heap.size/\(∀ o,w.frozen? ⟨g,o,none⟩=false)/\∃ F:Nat->Value,∀ j,j<n*s->w.cell? ⟨g,j,none⟩=some (F j):=by
 obtain⟨_,_,_,F,A,_⟩:=h;exact⟨A.lt,A.frozen,F,fun j I=>A.cell I⟩
theorem zbX.step{E:Type}{M:E->Nat->Value}{t s n g k J D:Nat}{R:Nat->E->Nat->Nat->World->Prop}{wr w3 w' : World}{x:E}(h:zbX M t s n R g k wr)(hk:k<n)(b3:Below wr.heap.size wr w3)(a5:wr.heap.size<=J)(T:J<=D)(h3:St (fun b=>b<J\/D<=b) (R k x J D) w3)(a6:D=w3.heap.size)(U:zbA (fun b=>b=g) w3 w')
  (hF:∀ F,w3.rowIs g t (n*s) F->∃ A,w'.rowIs g t (n*s) A/\(∀ j,j<s->A (k*s+j)=M x j)/\∀ i,i<k->∀ j,j<s->A (i*s+j)=F (i*s+j)):zbX M t s n R g (k+1) w' := by
 obtain⟨v,l,u,F,hr,I⟩:=h;have hg:=hr.lt;obtain⟨A,V,f1,f2⟩:=hF F (hr.of_block (b3.block g hg));have s3:=b3.size;have s4:=U.size;refine⟨fun i=>if i=k then x else v i,fun i=>if i=k then J else l i,fun i=>if i=k then D else u i,A,V,fun i a4=>?_⟩;dsimp only;by_cases e:i=k
 ·subst e;rw[yd rfl,yd rfl,yd rfl];refine⟨f1,by omega,T,by omega,fun Z w=>?_,h3.off (U.mono (fun b O=>Or.inl (by rw[O];omega)))⟩;rw[ya (by omega)];have:=(I Z w).2.2.2.1;omega
 ·rw[ya e,ya e,ya e];obtain⟨g1,g2,g3,g4,g5,g6⟩:=I i (by omega);refine⟨fun j hj=>(f2 i (by omega) j hj).trans (g1 j hj),g2,g3,by omega,fun Z w=>?_,(g6.off (zbA.of_below b3)).off (U.mono (fun b O=>Or.inl (by rw[O];exact g2)))⟩;rw[ya (by omega)];exact g5 Z w
theorem zbX.off{E:Type}{I:E->Nat->Value}{t s n g k:Nat}{R:Nat->E->Nat->Nat->World->Prop}{w w' : World}(h:zbX I t s n R g k w)(D:zbA (fun b=>b<g\/w.heap.size<=b) w w'):zbX I t s n R g k w' := by
 obtain⟨v,l,u,F,hr,A⟩:=h;have hg:=hr.lt;refine⟨v,l,u,F,hr.of_block (D.block g hr.lt (by show ¬ (g<g\/w.heap.size<=g);omega)),fun i hi=>?_⟩;obtain⟨J,M,O,T,U,V⟩:=A i hi;exact⟨J,M,O,yx T D.size,U,V.off (D.mono (fun b Z=>by have h3:b<g\/w.heap.size<=b:=Z;show b<l i\/u i<=b;omega))⟩
theorem zbX.st{E:Type}{A:E->Nat->Value}{t s n g k B H:Nat}{R:Nat->E->Nat->Nat->World->Prop}{w:World}(h:zbX A t s n R g k w)(J:B<=g)(M:w.heap.size<=H):St (fun b=>b<B\/H<=b) (zbX A t s n R g k) w:=fun w' F=>h.off (F.mono (fun b D=>by have I:b<B\/H<=b:=D;show b<g\/w.heap.size<=b;omega))
theorem zbX.set{E:Type}{A:E->Nat->Value}{t s n g k b o:Nat}{R:Nat->E->Nat->Nat->World->Prop}{w:World}(h:zbX A t s n R g k w)(D:b<g)(u:Value):zbX A t s n R g k (w.setCell ⟨b,o,none⟩ u):=h.off (zbA.set w u (Or.inl D))
def Tryz.lays21_ren:Go.Shelf.Ren:=⟨fun|21=>145|27=>151|28=>152|35=>154|39=>155|n=>n,fun|22=>29|3=>3|4=>4|0=>0|n=>n,fun|n=>n⟩
theorem Tryz.lays21:Go.Proofs.Lays2.n21 Tryz.prog Tryz.lays21_ren:={
 mixed:=by kernel_rfl
 f21:=Tryz.func145.trans (congrArg some (by kernel_rfl))
 f27:=Tryz.func151.trans (congrArg some (by kernel_rfl))
 f28:=Tryz.func152.trans (congrArg some (by kernel_rfl))
 f35:=Tryz.func154.trans (congrArg some (by kernel_rfl))
 f39:=Tryz.func155.trans (congrArg some (by kernel_rfl))
 t0:=Tryz.underlying0
 a0:=Tryz.isAgg0
 z0:=Tryz.sizeOf0
 v0:=Tryz.zeroValue0
 t3:=Tryz.underlying3
 a3:=Tryz.isAgg3
 z3:=Tryz.sizeOf3
 v3:=Tryz.zeroValue3
 t4:=Tryz.underlying4
 a4:=Tryz.isAgg4
 z4:=Tryz.sizeOf4
 v4:=Tryz.zeroValue4
 t22:=Tryz.underlying29
 a22:=Tryz.isAgg29
 z22:=Tryz.sizeOf29
 v22:=Tryz.zeroValue29
 i3:=by kernel_rfl }
end Go.Proofs.YtgjfmepbphfjoaaGreat
