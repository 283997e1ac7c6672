/-
  x
-/
import Derived.Test.YtgjfmepbphfjoaaGreatQ42
import Derived.ProofKit
import Derived.OpenShut
import Derived.ChangeOld
import Derived.Below
import Derived.Deep.Slices
import Derived.Lib.SmallJoins
namespace Go.Proofs.YtgjfmepbphfjoaaGreat
set_option maxRecDepth 100000
set_option maxHeartbeats 4000000
set_option linter.unusedVariables false
open Go.RowKit Go.ChangeShapes Go.WideShapes Go.ChangeAt
theorem zpf:zkJ:=fun A B R Q w F h1 D=>zmP A B R Q w F h1 D
def zsC:Ac:=⟨0,0,0,0,0⟩
def ac(X:List Ac)(i:Nat):Ac:=X.getD i zsC
def znd(w:World)(a:Option Addr)(X:List Ac):Prop :=
 ∀ i,i<X.length->∃ b o,a=some ⟨b,o,none⟩/\w.cell? ⟨b,o+i*5,none⟩=some (.int .i64 (ac X i).k)/\w.cell? ⟨b,o+i*5+1,none⟩=some (.int .i64 (ac X i).a)/\w.cell? ⟨b,o+i*5+2,none⟩=some (.int .i64 (ac X i).b)/\w.cell? ⟨b,o+i*5+3,none⟩=some (.int .i64 (ac X i).c)/\w.cell? ⟨b,o+i*5+4,none⟩=some (.int .i64 (ac X i).n)
theorem znd.below{w w' : World}{a:Option Addr}{X:List Ac}(h:znd w a X)(A:Below w.heap.size w w'):znd w' a X:=fun i D=>by
 obtain⟨b,o,e,c0,c1,c2,c3,c4⟩:=h i D;exact⟨b,o,e,zac c0 A,zac c1 A,zac c2 A,zac c3 A,zac c4 A⟩
def zrg(f:Nat):Prop:=∀ (S:List Nd) (p u:Int) (a:Option Addr) (c:Nat) (W:World),WF S->zae W a S ->
 Calls Tryz.prog f #[.agg #[.slice a S.length c],.agg #[.int .i64 p,.int .i64 u]] W fun e w' => ∃ (x:Nd) (ka:Option Addr) (kl kc:Nat),e=.returned (.tuple #[.agg #[.bool x.u,.int .i64 x.n,.int .i64 x.t,.int .i64 x.m,.int .i64 x.p,.slice ka kl kc,.int .i64 x.h,.bool x.c],.int .i64 (zas S p u)])/\Below W.heap.size W w' /\(zas S p u=0->x=nd S p.toNat)/\(zas S p u≠0->x=zdd)
theorem zgd:zrg 10:=fun S p u a c W wf F=>by
 have D:S.length<=9223372036854775807:=by have:=wf.small;omega
 by_cases w:zas S p u=0
 ·obtain⟨_,k,e,I,O,J⟩:=zbz w;subst e;rw[yg,w];exact(find_ok a c S k u W D wf.big F I w (by have:=zbi wf k I;omega)).mono (fun e w' ⟨g,e1,A,M⟩=>⟨nd S k,_,_,_,e1,A,fun _=>rfl,fun h=>absurd rfl h⟩)
 ·exact(zge a c S p u _ W D wf.big F rfl w).mono (fun e w' ⟨e1,A⟩=>⟨zdd,_,_,_,e1,A,fun h=>absurd h w,fun _=>rfl⟩)
theorem zcj{W:World}{b t:Nat}{w v1:Value}(h:W.heap[b]?=some (.cells #[w,v1] t (0,0))):W.cell? ⟨b,0,none⟩=some w/\W.cell? ⟨b,1,none⟩=some v1/\b<W.heap.size :=
 ⟨by simp[World.cell?,h],by simp[World.cell?,h],zaC h⟩
variable {H:Type} {enc:TypeId × Value->H} {w:World} {base:Nat} {spare:Nat->Bool} {held:Bool}
theorem zny:Tryz.prog.cellsOf 3=1:=by kernel_rfl
theorem zfA:Tryz.prog.cellsOf 45=2:=by kernel_rfl
theorem zhp{fuel:Nat}{J:List Value}{x:DataW H × List MemPlace}(h:DataW.trod enc Tryz.prog w base spare held fuel 29 J=some x) :
  ∃ ka kc,∃ ks:List Int,J=[.slice ka ks.length kc]/\ks.length<=kc/\kc<=9223372036854775807/\zaj w ka ks:=by
 rcases open_ints Tryz.underlying29 Tryz.underlying3 zny h with ⟨rfl,_⟩ |⟨a,len,cap,F,rfl,_,hl,T,U,_,A,_⟩
 ·exact⟨none,0,[],rfl,by simp,by omega,fun i I=>absurd I (yr _)⟩
 ·have O:len<=F.length:=by rw[U];split <;> omega
  have D:(F.take len).length=len:=by rw[List.length_take];omega
  refine⟨some a,cap,F.take len,by rw[D],by rw[D];exact hl,by unfold maxLen at T;omega,fun i I=>?_⟩;rw[D] at I;obtain⟨b,off,rfl,M⟩:=ints_at A (by omega);refine⟨b,off,rfl,?_⟩;rw[M i (by omega),zaf F 0 (by omega),zaf (F.take len) 0 (by omega),List.getElem_take]
theorem zoz{fuel b o:Nat}{A:List Value}{x:DataW H × List MemPlace}(h:DataW.trod enc Tryz.prog w base spare held fuel 45 A=some x)(F:∀ j,j<2->w.cell? ⟨b,o+j,none⟩=A[j]?) :
  ∃ y:Cl,zsa w b o y/\y.ks.length<=9223372036854775807:=by
 obtain⟨V,n,_,_,hl,D,I⟩:=DataW.trod_struct Tryz.underlying45 h;rw[zfA] at hl
 match A,hl with
 | [a0,a1],_ =>
  match V,D with
  | [x0,x1],_ =>
   have J:=I 0 _ rfl;have M:=I 1 _ rfl;obtain⟨U,e1,_⟩:=DataW.trod_int Tryz.underlying3 J;obtain⟨ka,kc,ks,e5,O,T,hI⟩:=zhp M
   cases e1;cases e5
   exact⟨⟨U,ks⟩,⟨F 0 (by omega),ka,kc,F 1 (by omega),hI⟩,by show ks.length<=_;omega⟩
theorem zqg(len:Nat)(P:Nat->Cl->Prop)(h:∀ i,i<len->∃ x,P i x):∃ S:List Cl,S.length=len/\∀ i,i<len->P i (cl S i):=by
 induction len with
 | zero=>exact⟨[],rfl,fun i A=>absurd A (yr _)⟩
 | succ n F =>
  obtain⟨S,hl,D⟩:=F (fun i A=>h i (by omega));obtain⟨x,hx⟩:=h n (by omega);refine⟨S++[x],by simp[hl],fun i A=>?_⟩;by_cases e:i=n
  ·subst e;rw[zfB (by simp[hl])];simpa [hl] using hx
  ·have w:i<S.length:=by omega
   have:=D i (by omega);rw[zfB w] at this;rw[zfB (by simp;omega),List.getElem_append_left w];exact this
theorem zmr{fuel:Nat}{cs:List Value}{x:DataW H × List MemPlace}(h:DataW.trod enc Tryz.prog w base spare held fuel 26 cs=some x) :
  ∃ a c,∃ S:List Cl,cs=[.slice a S.length c]/\S.length<=9223372036854775807/\zpp S/\zaY w a S:=by
 rcases Go.Deep.open_slice Tryz.underlying26 h with ⟨rfl,_⟩ |⟨a,len,cap,m,n,D,Pl,rfl,_,hl,hm,a4,_,hx⟩
 ·exact⟨none,0,[],rfl,by simp,fun i A=>absurd A (yr _),fun i A=>absurd A (yr _)⟩
 ·have a6:len<=m:=by rw[a4];split <;> omega
  obtain⟨T,U,O⟩:=a;by_cases h0:len=0
  ·subst h0;exact⟨_,cap,[],rfl,by simp,fun i A=>absurd A (yr _),fun i A=>absurd A (yr _)⟩
  ·have a5:O=none:=by
    obtain⟨V,M,ht⟩:=hx 0 (by omega);rw[zfA] at M;obtain⟨_,Z,F⟩:=World.cells?_some M;have h1:=F 0 (by omega);rw[List.getElem?_eq_getElem (by omega)] at h1;simpa [Addr.add] using World.cell?_spot h1
   subst a5
   obtain⟨S,I,J⟩:=zqg len (fun i x=>zsa w T (U+i*2) x/\x.ks.length<=9223372036854775807) (fun i A=>by
    obtain⟨V,M,ht⟩:=hx i (by omega);rw[zfA] at M;obtain⟨_,Z,F⟩:=World.cells?_some M;refine zoz ht (fun j hj=>?_);have h1:=F j hj
    rwa [add_plain,add_plain] at h1)
   exact⟨some ⟨T,U,none⟩,cap,S,by rw[I],by rw[I];unfold maxLen at hm;omega,fun i A=>(J i (by omega)).2,fun i A=>⟨T,U,rfl,(J i (by omega)).1⟩⟩
variable {H:Type} {enc:TypeId × Value->H} {w:World} {base:Nat} {spare:Nat->Bool} {held:Bool}
theorem zrn:Tryz.prog.cellsOf 3=1:=by kernel_rfl
theorem zhL:Tryz.prog.cellsOf 47=8:=by kernel_rfl
theorem zms{fuel:Nat}{J:List Value}{x:DataW H × List MemPlace}(h:DataW.trod enc Tryz.prog w base spare held fuel 29 J=some x) :
  ∃ ka kc,∃ ks:List Int,J=[.slice ka ks.length kc]/\ks.length<=9223372036854775807/\zaj w ka ks:=by
 rcases open_ints Tryz.underlying29 Tryz.underlying3 zrn h with ⟨rfl,_⟩ |⟨a,len,cap,F,rfl,_,hl,T,U,_,A,_⟩
 ·exact⟨none,0,[],rfl,by simp,fun i I=>absurd I (yr _)⟩
 ·have O:len<=F.length:=by rw[U];split <;> omega
  have D:(F.take len).length=len:=by rw[List.length_take];omega
  refine⟨some a,cap,F.take len,by rw[D],by rw[D];unfold maxLen at T;omega,fun i I=>?_⟩;rw[D] at I;obtain⟨b,off,rfl,M⟩:=ints_at A (by omega);refine⟨b,off,rfl,?_⟩;rw[M i (by omega),zaf F 0 (by omega),zaf (F.take len) 0 (by omega),List.getElem_take]
theorem zmt{fuel b o:Nat}{F:List Value}{x:DataW H × List MemPlace}(h:DataW.trod enc Tryz.prog w base spare held fuel 47 F=some x)(A:∀ j,j<8->w.cell? ⟨b,o+j,none⟩=F[j]?) :
  ∃ nd:Nd,zpq w b o nd/\nd.ks.length<=9223372036854775807:=by
 obtain⟨xs,n,_,_,hl,J,D⟩:=DataW.trod_struct Tryz.underlying47 h;rw[zhL] at hl
 match F,hl with
 | [a0,a1,a2,a3,a4,a5,a6,a7],_ =>
  match xs,J with
  | [x0,x1,x2,x3,x4,x5,x6,x7],_ =>
   have U:=D 0 _ rfl;have V:=D 1 _ rfl;have Z:=D 2 _ rfl;have g3:=D 3 _ rfl;have g4:=D 4 _ rfl;have g5:=D 5 _ rfl;have g6:=D 6 _ rfl;have g7:=D 7 _ rfl;obtain⟨u,M,_⟩:=DataW.trod_bool Tryz.underlying4 U;obtain⟨n1,e1,_⟩:=DataW.trod_int Tryz.underlying3 V;obtain⟨n2,e2,_⟩:=DataW.trod_int Tryz.underlying3 Z;obtain⟨n3,e3,_⟩:=DataW.trod_int Tryz.underlying3 g3;obtain⟨n4,e4,_⟩:=DataW.trod_int Tryz.underlying3 g4;obtain⟨ka,kc,ks,e5,I,hI⟩:=zms g5;obtain⟨n6,O,_⟩:=DataW.trod_int Tryz.underlying3 g6;obtain⟨u7,T,_⟩:=DataW.trod_bool Tryz.underlying4 g7
   cases M;cases e1;cases e2;cases e3;cases e4;cases e5;cases O;cases T
   refine⟨⟨u,n1,n2,n3,n4,ks,n6,u7⟩,⟨?_,?_,?_,?_,?_,⟨ka,kc,?_,hI⟩,?_,?_⟩,I⟩
   ·exact A 0 (by omega)
   ·exact A 1 (by omega)
   ·exact A 2 (by omega)
   ·exact A 3 (by omega)
   ·exact A 4 (by omega)
   ·exact A 5 (by omega)
   ·exact A 6 (by omega)
   ·exact A 7 (by omega)
theorem zqh(len:Nat)(P:Nat->Nd->Prop)(h:∀ i,i<len->∃ x,P i x):∃ S:List Nd,S.length=len/\∀ i,i<len->P i (nd S i):=by
 induction len with
 | zero=>exact⟨[],rfl,fun i A=>absurd A (yr _)⟩
 | succ n F =>
  obtain⟨S,hl,D⟩:=F (fun i A=>h i (by omega));obtain⟨x,hx⟩:=h n (by omega);refine⟨S++[x],by simp[hl],fun i A=>?_⟩;by_cases e:i=n
  ·subst e;rw[zaJ (by simp[hl])];simpa [hl] using hx
  ·have w:i<S.length:=by omega
   have:=D i (by omega);rw[zaJ w] at this;rw[zaJ (by simp;omega),List.getElem_append_left w];exact this
theorem zko{fuel:Nat}{cs:List Value}{x:DataW H × List MemPlace}(h:DataW.trod enc Tryz.prog w base spare held fuel 22 cs=some x) :
  ∃ a c,∃ S:List Nd,cs=[.slice a S.length c]/\S.length<=9223372036854775807/\Big S/\zae w a S:=by
 rcases Go.Deep.open_slice Tryz.underlying22 h with ⟨rfl,_⟩ |⟨a,len,cap,m,n,D,Pl,rfl,_,hl,hm,a4,_,hx⟩
 ·exact⟨none,0,[],rfl,by simp,fun i A=>absurd A (yr _),fun i A=>absurd A (yr _)⟩
 ·have a6:len<=m:=by rw[a4];split <;> omega
  obtain⟨T,U,O⟩:=a;by_cases h0:len=0
  ·subst h0;exact⟨_,cap,[],rfl,by simp,fun i A=>absurd A (yr _),fun i A=>absurd A (yr _)⟩
  ·have a5:O=none:=by
    obtain⟨V,M,ht⟩:=hx 0 (by omega);rw[zhL] at M;obtain⟨_,Z,F⟩:=World.cells?_some M;have h1:=F 0 (by omega);rw[List.getElem?_eq_getElem (by omega)] at h1;simpa [Addr.add] using World.cell?_spot h1
   subst a5
   obtain⟨S,I,J⟩:=zqh len (fun i x=>zpq w T (U+i*8) x/\x.ks.length<=9223372036854775807) (fun i A=>by
    obtain⟨V,M,ht⟩:=hx i (by omega);rw[zhL] at M;obtain⟨_,Z,F⟩:=World.cells?_some M;refine zmt ht (fun j hj=>?_);have h1:=F j hj
    rwa [add_plain,add_plain] at h1)
   exact⟨some ⟨T,U,none⟩,cap,S,by rw[I],by rw[I];unfold maxLen at hm;omega,fun i A=>(J i (by omega)).2,fun i A=>⟨T,U,rfl,(J i (by omega)).1⟩⟩
theorem zhf:Tryz.prog.cellsOf 39=2:=by kernel_rfl
theorem zob(len:Nat)(P:Nat->Int × Int->Prop)(h:∀ i,i<len->∃ x,P i x):∃ S:List (Int × Int),S.length=len/\∀ i,i<len->P i (S.getD i (0,0)):=by
 induction len with
 | zero=>exact⟨[],rfl,fun i A=>absurd A (yr _)⟩
 | succ n F =>
  obtain⟨S,hl,D⟩:=F (fun i A=>h i (by omega));obtain⟨x,hx⟩:=h n (by omega);refine⟨S++[x],by simp[hl],fun i A=>?_⟩;by_cases e:i=n
  ·subst e;rw[zaf _ _ (by simp[hl])];simpa [hl] using hx
  ·have w:i<S.length:=by omega
   have:=D i (by omega);rw[zaf _ _ w] at this;rw[zaf _ _ (by simp;omega),List.getElem_append_left w];exact this
theorem zjR:Tryz.prog.cellsOf 31=4:=by kernel_rfl
theorem znx:Tryz.prog.cellsOf 41=5:=by kernel_rfl
theorem zkn{fuel:Nat}{cs:List Value}{x:DataW H × List MemPlace}(h:DataW.trod enc Tryz.prog w base spare held fuel 25 cs=some x) :
  ∃ a c,∃ S:List (Int × Int),cs=[.slice a S.length c]/\S.length<=9223372036854775807/\zam w a S:=by
 rcases Go.Deep.open_slice Tryz.underlying25 h with ⟨rfl,_⟩ |⟨a,len,cap,m,n,D,Pl,rfl,_,hl,hm,a5,_,hx⟩
 ·exact⟨none,0,[],rfl,by simp,fun i T=>absurd T (yr _)⟩
 ·have b4:len<=m:=by rw[a5];split <;> omega
  obtain⟨V,Z,U⟩:=a;by_cases h0:len=0
  ·subst h0;exact⟨_,cap,[],rfl,by simp,fun i T=>absurd T (yr _)⟩
  ·have a6:U=none:=by
    obtain⟨F,M,ht⟩:=hx 0 (by omega);rw[zhf] at M;obtain⟨_,a9,A⟩:=World.cells?_some M;have h1:=A 0 (by omega);rw[List.getElem?_eq_getElem (by omega)] at h1;simpa [Addr.add] using World.cell?_spot h1
   subst a6
   obtain⟨S,I,J⟩:=zob len (fun i x=>w.cell? ⟨V,Z+i*2,none⟩=some (.int .i64 x.1)/\w.cell? ⟨V,Z+i*2+1,none⟩=some (.int .i64 x.2)) (fun i T=>by
    obtain⟨F,M,ht⟩:=hx i (by omega);rw[zhf] at M;obtain⟨_,a4,A⟩:=World.cells?_some M;obtain⟨xs,n', _,_,a8,a7,O⟩:=DataW.trod_struct Tryz.underlying39 ht
    match F,a4 with
    | [a0,a1],_ =>
     match xs,a7 with
     | [x0,x1],_ =>
      have g0:=O 0 _ rfl;have g1:=O 1 _ rfl;obtain⟨n0,e0,_⟩:=DataW.trod_int Tryz.underlying3 g0;obtain⟨n1,e1,_⟩:=DataW.trod_int Tryz.underlying3 g1
      cases e0;cases e1
      refine⟨(n0,n1),?_,?_⟩
      ·have h1:=A 0 (by omega)
       rwa [add_plain,add_plain] at h1
      ·have h1:=A 1 (by omega)
       rwa [add_plain,add_plain] at h1)
   exact⟨some ⟨V,Z,none⟩,cap,S,by rw[I],by rw[I];unfold maxLen at hm;omega,fun i T=>⟨V,Z,rfl,(J i (by omega)).1,(J i (by omega)).2⟩⟩
theorem zoy{fuel:Nat}{D:List Value}{x:DataW H × List MemPlace}(h:DataW.trod enc Tryz.prog w base spare held fuel 41 D=some x) :
  ∃ y:Ac,D=[.int .i64 y.k,.int .i64 y.a,.int .i64 y.b,.int .i64 y.c,.int .i64 y.n]:=by
 obtain⟨U,n,_,_,hl,F,A⟩:=DataW.trod_struct Tryz.underlying41 h;rw[znx] at hl
 match D,hl with
 | [a0,a1,a2,a3,a4],_ =>
  match U,F with
  | [x0,x1,x2,x3,x4],_ =>
   obtain⟨n0,I,_⟩:=DataW.trod_int Tryz.underlying3 (A 0 _ rfl);obtain⟨J,e1,_⟩:=DataW.trod_int Tryz.underlying3 (A 1 _ rfl);obtain⟨M,e2,_⟩:=DataW.trod_int Tryz.underlying3 (A 2 _ rfl);obtain⟨O,e3,_⟩:=DataW.trod_int Tryz.underlying3 (A 3 _ rfl);obtain⟨T,e4,_⟩:=DataW.trod_int Tryz.underlying3 (A 4 _ rfl)
   cases I;cases e1;cases e2;cases e3;cases e4
   exact⟨⟨n0,J,M,O,T⟩,rfl⟩
theorem zkp{fuel:Nat}{F:List Value}{x:DataW H × List MemPlace}(h:DataW.trod enc Tryz.prog w base spare held fuel 31 F=some x) :
  ∃ (A:RA) (R:Rl),F=[.slice A.a0 R.s.length A.c0,.slice A.a1 R.hs.length A.c1,.slice A.a2 R.i.length A.c2,.slice A.a3 R.t.length A.c3]/\ziu R/\zaS w A R:=by
 obtain⟨xs,n,_,_,hl,J,D⟩:=DataW.trod_struct Tryz.underlying31 h;rw[zjR] at hl
 match F,hl with
 | [v0,v1,v2,v3],_ =>
  match xs,J with
  | [x0,x1,x2,x3],_ =>
   have U:=D 0 _ rfl;have V:=D 1 _ rfl;have Z:=D 2 _ rfl;have g3:=D 3 _ rfl;obtain⟨_,_,_,_,s0⟩:=trod_struct1 Tryz.underlying24 U;obtain⟨_,_,_,_,s2⟩:=trod_struct1 Tryz.underlying28 Z;obtain⟨a0,c0,S,T,n0,b0,h0⟩:=zko s0;obtain⟨a1,c1,M,e1,n1,h1⟩:=zkn V;obtain⟨a2,c2,I,e2,n2,b2,h2⟩:=zmr s2;obtain⟨a3,c3,O,e3,n3,m3,h3⟩:=zhp g3
   cases T;cases e1;cases e2;cases e3
   exact⟨⟨a0,a1,a2,a3,c0,c1,c2,c3⟩,⟨S,M,I,O⟩,rfl,⟨n0,b0,n1,n2,b2,by show O.length<=_;omega⟩,h0,h1,h2,h3⟩
theorem zhq{r:Reach}{b0:Nat}{v:Value}{d:DataW H}{p:List MemPlace}(O:Value.okWide Tryz.prog w r b0 31 v)(h:DataW.Trod enc Tryz.prog w base spare held 31 v d p) :
  ∃ (A:RA) (R:Rl),v=rlV A R/\ziu R/\zaS w A R:=by
 obtain⟨D,rfl,M⟩:=okWide_struct Tryz.underlying31 O;obtain⟨fuel,J⟩:=h;obtain⟨A,R,e,F,I⟩:=zkp J;refine⟨A,R,?_,F,I⟩;have e2:D.toList=_:=e;rw[show D=D.toList.toArray from by simp,e2]
theorem zqo{r:Reach}{b0:Nat}{v:Value}{d:DataW H}{p:List MemPlace}(I:Value.okWide Tryz.prog w r b0 41 v)(h:DataW.Trod enc Tryz.prog w base spare held 41 v d p) :
  ∃ y:Ac,v=acV y:=by
 obtain⟨A,rfl,F⟩:=okWide_struct Tryz.underlying41 I;obtain⟨fuel,D⟩:=h;obtain⟨y,e⟩:=zoy D;refine⟨y,?_⟩;have e2:A.toList=_:=e;rw[show A=A.toList.toArray from by simp,e2]
def ziv(X:Nat->Prop)(w:World)(a:Option Addr)(G:List Cl):Prop:=∀ w', zbA X w w' -> zaY w' a G
theorem ziv.at{X:Nat->Prop}{w:World}{a:Option Addr}{G:List Cl}(h:ziv X w a G):zaY w a G:=h w (zbA.refl X w)
theorem ziv.off{X:Nat->Prop}{w w' : World}{a:Option Addr}{G:List Cl}(h:ziv X w a G)(F:zbA X w w'):ziv X w' a G:=fun A D=>h A (F.trans D)
theorem ziv.grow{X Y:Nat->Prop}{w D:World}{a:Option Addr}{G:List Cl}(h:ziv X w a G)(A:zbA X w D)(I:∀ b,b<w.heap.size->Y b->X b):ziv Y D a G:=fun w' F=>h w' (zln A.size A.block I F)
theorem zjc{x:Int}(h:isH x):∃ p:Nat,x=p/\p<16:=⟨x.toNat,by have:=h.1;omega,by have:=h.2;have:=h.1;omega⟩
theorem zdm{w W:World}{t:Nat}{A v1 v2 D:Value}(F:Below (w.heap.size+1) (w.alloc (.cells #[A,v1,v2,D] t)) W):W.heap[w.heap.size]?=some (.cells #[A,v1,v2,D] t (0,0)):=(F.block _ (Nat.lt_succ_self _)).trans (zbS _ _ _ _ _ _)
theorem zdw:ziw:=fun A R w hB hW=>by
 obtain⟨a0,a1,a2,a3,c0,c1,c2,c3⟩:=A;obtain⟨hN,a6,hH,hI,a5,hT⟩:=hB;obtain⟨w0,w1,w2,w3⟩:=hW;have I:Hid (∀ o1,_):=fun o1=>zdn a0 c0 R.s (w.alloc o1) hN a6 (w0.below (zab _ _));have M:Hid (∀ W,Below w.heap.size w W->_):=fun W hW=>zlT a2 c2 R.i W hI a5 (w2.below hW);clear w0 w1 w2 w3 a6 a5;dsimp only[rlV];unfold zaB;obtain⟨E0,h0⟩:∃ E,zaD R.s=E:=⟨_,rfl⟩;obtain⟨E1,h1⟩:∃ E,zbQ R.i=E:=⟨_,rfl⟩;rw[h0] at I |-;rw[h1] at M |-;clear h0 h1;generalize R.s.length=n0 at *;generalize R.i.length=n2 at *;generalize R.t.length=n3 at *;generalize R.hs.length=n1 at *;by_cases e0:E0=0
 ·subst e0;rw[yd rfl];by_cases e1:n1=16
  ·subst e1;rw[yd rfl];by_cases e2:E1=0
   ·subst e2;rw[yd rfl];by_cases e3:4800<n3
    ·rw[yd e3];have a8:(4800:Int)<(n3:Int):=by omega
     go_enter Tryz.func7,Tryz.ntmps7
     go_wp2_with fail
     refine yf (I.out _) ?_;rintro e V ⟨rfl,D⟩;have F:Hid (Below w.heap.size w V):=(zab w _).trans (D.mono (by simp));simp only[yk] at D;have O:Hid _:=zdm D;obtain⟨U,Z,l2,l3,T,lt⟩:=zaa O.out;clear D I
     go_wp2_with fail
     refine yf (M.out _ F.out) ?_;rintro e V2 ⟨rfl,D⟩;have J:Hid (Below w.heap.size w V2):=F.out.trans (D.mono F.out.size);have a4:Hid _:=zaU O.out D;clear U Z l2 l3 T lt;obtain⟨U,Z,l2,l3,T,lt⟩:=zaa a4.out;clear D M
     go_wp2
     go_ret;exact⟨rfl,J.out⟩
    ·rw[ya e3];have a8:¬ (4800:Int)<(n3:Int):=by omega
     go_enter Tryz.func7,Tryz.ntmps7
     go_wp2_with fail
     refine yf (I.out _) ?_;rintro e V ⟨rfl,D⟩;have F:Hid (Below w.heap.size w V):=(zab w _).trans (D.mono (by simp));simp only[yk] at D;have O:Hid _:=zdm D;obtain⟨U,Z,l2,l3,T,lt⟩:=zaa O.out;clear D I
     go_wp2_with fail
     refine yf (M.out _ F.out) ?_;rintro e V2 ⟨rfl,D⟩;have J:Hid (Below w.heap.size w V2):=F.out.trans (D.mono F.out.size);have a4:Hid _:=zaU O.out D;clear U Z l2 l3 T lt;obtain⟨U,Z,l2,l3,T,lt⟩:=zaa a4.out;clear D M
     go_wp2
     go_ret;exact⟨rfl,J.out⟩
   ·rw[ya e2];have hz:(E1 == 0)=false:=by simp[e2]
    go_enter Tryz.func7,Tryz.ntmps7
    go_wp2_with fail
    refine yf (I.out _) ?_;rintro e V ⟨rfl,D⟩;have F:Hid (Below w.heap.size w V):=(zab w _).trans (D.mono (by simp));simp only[yk] at D;have O:Hid _:=zdm D;obtain⟨U,Z,l2,l3,T,lt⟩:=zaa O.out;clear D I
    go_wp2_with fail
    refine yf (M.out _ F.out) ?_;rintro e V2 ⟨rfl,D⟩;have J:Hid (Below w.heap.size w V2):=F.out.trans (D.mono F.out.size);clear U Z l2 l3 T lt D M
    go_wp2
    go_ret;exact⟨rfl,J.out⟩
  ·rw[ya e1];have a7:¬ ((n1:Int)=16):=by omega
   have hz:((n1:Int) == 16)=false:=by simp[a7]
   go_enter Tryz.func7,Tryz.ntmps7
   go_wp2_with fail
   refine yf (I.out _) ?_;rintro e V ⟨rfl,D⟩;have F:Hid (Below w.heap.size w V):=(zab w _).trans (D.mono (by simp));simp only[yk] at D;have O:Hid _:=zdm D;obtain⟨U,Z,l2,l3,T,lt⟩:=zaa O.out;clear D I M
   go_wp2
   go_ret;exact⟨rfl,F.out⟩
 ·rw[ya e0];have hz:(E0 == 0)=false:=by simp[e0]
  go_enter Tryz.func7,Tryz.ntmps7
  go_wp2_with fail
  refine yf (I.out _) ?_;rintro e V ⟨rfl,D⟩;have F:Hid (Below w.heap.size w V):=(zab w _).trans (D.mono (by simp));clear D I M
  go_wp2
  go_ret;exact⟨rfl,F.out⟩
theorem zrJ(p:Int)(w:World)(A:p<0\/24<p) :
  Calls Tryz.prog 27 #[.int .i64 p] w fun e w' => e=.returned (.tuple #[.agg #[.slice none 0 0],.int .i64 2])/\Below w.heap.size w w' := by
 go_enter Tryz.func27,Tryz.ntmps27
 go_wp2_with (go_at_call 54;refine(zfx _ _ _ _ A).mono ?_;rintro e w' ⟨rfl,rfl⟩)
 first
  |(go_ret;exact⟨rfl,yj _ _⟩)
  |(go_ret;exact⟨rfl,(yj _ _).alloc (yi _) _⟩)
  |(refine yq (v:=.tuple #[.agg #[.slice none 0 0],.int .i64 2]) (by simp[results,Tryz.results27,go_sem]) rfl ⟨rfl,?_⟩;first|exact(yj _ _).alloc (yi _) _|exact((yj _ _).alloc (yi _) _).setCell (by simp) _|exact(((yj _ _).alloc (yi _) _).setCell (by simp) _).drew)
theorem zot{w w' : World}{g n:Nat}(h:zae w (some ⟨g,0,none⟩) (List.replicate n zaL))(M:w'.heap[g]?=w.heap[g]?):zae w' (some ⟨g,0,none⟩) (List.replicate n zaL):=fun i F=>by
 obtain⟨b,o,e,hn⟩:=h i F;cases e;have D:i<n:=by simpa using F
 rw[zem n i _ D] at hn |-;obtain⟨c0,c1,c2,c3,c4,⟨ka,kc,c5,_⟩,I,J⟩:=hn;have A:∀ o,w'.cell? ⟨g,o,none⟩=w.cell? ⟨g,o,none⟩:=fun o=>yw M;exact⟨g,0,rfl,(A _).trans c0,(A _).trans c1,(A _).trans c2,(A _).trans c3,(A _).trans c4,⟨ka,kc,(A _).trans c5,fun j O=>absurd O (yr _)⟩,(A _).trans I,(A _).trans J⟩
theorem zjX{w w' : World}{g:Nat}{H:List (Int × Int)}(h:zam w (some ⟨g,0,none⟩) H)(A:w'.heap[g]?=w.heap[g]?):zam w' (some ⟨g,0,none⟩) H:=fun i F=>by
 obtain⟨b,o,e,h1,D⟩:=h i F;cases e;exact⟨g,0,rfl,(yw A).trans h1,(yw A).trans D⟩
theorem zrL(n:Nat)(w:World)(hn:n<=24):Calls Tryz.prog 11 #[.int .i64 (n:Int)] w fun e w' => ∃ (a0 a1:Option Addr) (c0:Nat),e=.returned (.tuple #[.agg #[.slice a0 n c0,.slice a1 16 16,.slice none 0 0,.slice none 0 0],.int .i64 0])/\Below w.heap.size w w' /\ St (fun b=>b<w.heap.size) (fun V=>zae V a0 (List.replicate n zaL)/\zam V a1 (List.replicate 16 (0,0))) w' := by
 have D:Hid (∀ o1,_):=fun o1=>zqm n (w.alloc o1) hn;clear hn;have a5:=zgw
 go_enter Tryz.func11,Tryz.ntmps11
 go_wp2_with fail
 refine yf (D.out _) ?_;rintro e V ⟨g,rfl,F,hn,J,a4⟩;have M:Hid (Below w.heap.size w V):=(zab w _).trans (F.mono (by simp));have Z:Hid (zae V (some ⟨g,0,none⟩) (List.replicate n zaL)):=hn;simp only[yk] at F J;have I:Hid _:=zdm F;obtain⟨l0,l1,l2,l3,fz,lt⟩:=zaa I.out;clear F D hn
 go_wp2_with fail
 go_region
 go_wp2
 have SL:Hid (SlB V w.heap.size):=zlA I.out ⟨_,_,_,rfl⟩ ⟨_,_,_,rfl⟩ ⟨_,_,_,rfl⟩ ⟨_,_,_,rfl⟩;obtain⟨X,A⟩:∃ X,(((V.setCell ⟨w.heap.size,0,none⟩ (.slice (some ⟨g,0,none⟩) n n)).setCell ⟨w.heap.size,1,none⟩ (.slice (some ⟨V.heap.size+1,0,none⟩) 16 16)).setCell ⟨w.heap.size,2,none⟩ (.slice none 0 0)).setCell ⟨w.heap.size,3,none⟩ (.slice none 0 0)=X:=⟨_,rfl⟩;have x0:X.heap[w.heap.size]?=some (.cells #[.slice (some ⟨g,0,none⟩) n n,.slice (some ⟨V.heap.size+1,0,none⟩) 16 16,.slice none 0 0,.slice none 0 0] 31 (0,0)):=by rw[<- A];exact zbl I.out
 have x1:zae X (some ⟨g,0,none⟩) (List.replicate n zaL):=by rw[<- A];exact Z.out.offB SL.out (zfZ.refl _ _).set.set.set.set
 have x2:X.heap.size=V.heap.size:=by rw[<- A];simp
 have T:Below w.heap.size w X:=by rw[<- A];exact(((M.out.setCell (yi _) _).setCell (yi _) _).setCell (yi _) _).setCell (yi _) _
 rw[A];clear A;have U:=zeD (X.alloc (Obj.cells #[Value.slice (some ⟨g,0,none⟩) n n] 24));rw[yk,x2] at U;have b2:=(zai X (Obj.cells #[Value.slice (some ⟨g,0,none⟩) n n] 24) (Obj.cells (madeCells #[Value.int IntKind.i64 0,Value.int IntKind.i64 0] 32) 39)).drew;have x5:=zaU x0 b2;obtain⟨m0,m1,m2,m3,mf,ml⟩:=zaa x5;refine yq (v:=.tuple #[.agg #[.slice (some ⟨g,0,none⟩) n n,.slice (some ⟨V.heap.size+1,0,none⟩) 16 16,.slice none 0 0,.slice none 0 0],.int .i64 0]) (by simp[results,Tryz.results11,go_sem,m0,m1,m2,m3]) rfl ⟨some ⟨g,0,none⟩,some ⟨V.heap.size+1,0,none⟩,n,by simp,T.trans (b2.mono T.size),fun V' O=>⟨zot (x1.below b2) (O.block g (by simp;omega) (by omega)),zjX (U.below (yj _ _).drew) (O.block _ (by simp;omega) (by have:=M.out.size;omega))⟩⟩
theorem zrK:zkI:=fun p w=>by
 by_cases F:0<=p/\p<=24
 ·have e1:zje p=⟨List.replicate p.toNat zaL,List.replicate 16 (0,0),[],[]⟩:=yd F;have e2:zqk p=0:=yd F;rw[e1,e2];clear e1 e2;obtain⟨n,rfl⟩:∃ n:Nat,p=n:=⟨p.toNat,by omega⟩;rw[yg];refine(zrL n w (by omega)).mono ?_;rintro e V ⟨a0,a1,c0,rfl,A,hs⟩;exact⟨⟨a0,a1,none,none,c0,16,0,0⟩,by simp[rlV],A,hs.at.1,hs.at.2,fun _ h=>absurd h (yr _),fun _ h=>absurd h (yr _)⟩
 ·have e1:zje p=zaW:=ya F;have e2:zqk p=2:=ya F;rw[e1,e2];clear e1 e2;have D:Hid (∀ o1,_):=fun o1=>zrJ p (w.alloc o1) (by omega);clear F
  go_enter Tryz.func11,Tryz.ntmps11
  go_wp2_with fail
  refine yf (D.out _) ?_;rintro e V ⟨rfl,A⟩;have O:Hid (Below w.heap.size w V):=(zab w _).trans (A.mono (by simp));simp only[yk] at A;have J:Hid _:=zdm A;obtain⟨l0,l1,l2,l3,fz,lt⟩:=zaa J.out;clear A D
  go_wp2
  obtain⟨X,I⟩:∃ X,(((V.setCell ⟨w.heap.size,0,none⟩ (.slice none 0 0)).setCell ⟨w.heap.size,1,none⟩ (.slice none 0 0)).setCell ⟨w.heap.size,2,none⟩ (.slice none 0 0)).setCell ⟨w.heap.size,3,none⟩ (.slice none 0 0)=X:=⟨_,rfl⟩;have x0:X.heap[w.heap.size]?=some (.cells #[.slice none 0 0,.slice none 0 0,.slice none 0 0,.slice none 0 0] 31 (0,0)):=by rw[<- I];exact zbl J.out
  have M:Below w.heap.size w X:=by rw[<- I];exact(((O.out.setCell (yi _) _).setCell (yi _) _).setCell (yi _) _).setCell (yi _) _
  rw[I];clear I;have b2:=zab X (Obj.cells #[Value.slice none 0 0] 24);have x5:=zaU x0 b2;obtain⟨T,U,Z,m3,mf,ml⟩:=zaa x5;refine yq (v:=.tuple #[.agg #[.slice none 0 0,.slice none 0 0,.slice none 0 0,.slice none 0 0],.int .i64 2]) (by simp[results,Tryz.results11,go_sem,T,U,Z,m3]) rfl ⟨⟨none,none,none,none,0,0,0,0⟩,rfl,M.trans (b2.mono M.size),zaO _ _⟩
theorem zcz(A:RA)(R:Rl)(k:Int)(w:World)(hl:R.hs.length=16) :
  Calls Tryz.prog 22 #[rlV A R,.int .i64 k] w fun e w' => e=.returned (.bool (decide (isH k)))/\Below w.heap.size w w' := by
 dsimp only[rlV];rw[hl];have D:Hid (∀ W,Calls _ _ _ _ _):=fun W=>zbf k 0 15 W;have hd:decide (0<=k/\k<=15)=decide (isH k):=rfl;rw[hd] at D;clear hd hl;generalize decide (isH k)=r at *
 go_enter Tryz.func22,Tryz.ntmps22
 go_wp2_with fail
 refine yf (D.out _) ?_;rintro e V ⟨rfl,F⟩;subst F
 go_wp2
 go_ret;exact⟨rfl,zab _ _⟩
end Go.Proofs.YtgjfmepbphfjoaaGreat
