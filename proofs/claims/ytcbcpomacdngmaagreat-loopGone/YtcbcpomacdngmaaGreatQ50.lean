/-
  x
-/
import Derived.Test.YtcbcpomacdngmaaGreatQ49
namespace Go.Proofs.YtcbcpomacdngmaaGreat
set_option maxRecDepth 100000
set_option maxHeartbeats 4000000
set_option linter.unusedVariables false
open Go.ChangeShapes Go.WideShapes Go.ChangeAt Go.RowKit
variable {H:Type} {enc:TypeId × Value->H} {w:World} {base:Nat} {spare:Nat->Bool} {held:Bool}
theorem zxZ:Tryz.prog.cellsOf 3=1:=by kernel_rfl
theorem zlu:Tryz.prog.cellsOf 57=8:=by kernel_rfl
theorem zrr{F:Nat}{J:List Value}{x:DataW H × List MemPlace}(h:DataW.trod enc Tryz.prog w base spare held F 48 J=some x) :
  ∃ ka kc,∃ ks:List Int,J=[.slice ka ks.length kc]/\ks.length<=9223372036854775807/\zaj w ka ks:=by
 rcases open_ints Tryz.underlying48 Tryz.underlying3 zxZ h with ⟨rfl,_⟩ |⟨a,len,cap,I,rfl,_,hl,O,T,_,D,_⟩
 ·exact⟨none,0,[],rfl,by simp,fun i hi=>absurd hi (yw _)⟩
 ·have M:len<=I.length:=by rw[T];split <;> omega
  have E:(I.take len).length=len:=by rw[List.length_take];omega
  refine⟨some a,cap,I.take len,by rw[E],by rw[E];unfold maxLen at O;omega,fun i hi=>?_⟩;rw[E] at hi;obtain⟨b,off,rfl,hc⟩:=ints_at D (by omega);refine⟨b,off,rfl,?_⟩;rw[hc i (by omega),zae I 0 (by omega),zae (I.take len) 0 (by omega),List.getElem_take]
theorem zrs{E b o:Nat}{F:List Value}{x:DataW H × List MemPlace}(h:DataW.trod enc Tryz.prog w base spare held E 57 F=some x)(hc:∀ j,j<8->w.cell? ⟨b,o+j,none⟩=F[j]?) :
  ∃ nd:Nd,zvg w b o nd/\nd.ks.length<=9223372036854775807:=by
 obtain⟨xs,n,_,_,hl,J,D⟩:=DataW.trod_struct Tryz.underlying57 h;rw[zlu] at hl
 match F,hl with
 | [a0,a1,a2,a3,a4,a5,a6,a7],_ =>
  match xs,J with
  | [x0,x1,x2,x3,x4,x5,x6,x7],_ =>
   have g0:=D 0 _ rfl;have g1:=D 1 _ rfl;have g2:=D 2 _ rfl;have g3:=D 3 _ rfl;have g4:=D 4 _ rfl;have g5:=D 5 _ rfl;have g6:=D 6 _ rfl;have g7:=D 7 _ rfl;obtain⟨u,M,_⟩:=DataW.trod_bool Tryz.underlying4 g0;obtain⟨n1,O,_⟩:=DataW.trod_int Tryz.underlying3 g1;obtain⟨n2,T,_⟩:=DataW.trod_int Tryz.underlying3 g2;obtain⟨n3,U,_⟩:=DataW.trod_int Tryz.underlying3 g3;obtain⟨n4,Z,_⟩:=DataW.trod_int Tryz.underlying3 g4;obtain⟨ka,kc,ks,e5,I,hI⟩:=zrr g5;obtain⟨n6,e6,_⟩:=DataW.trod_int Tryz.underlying3 g6;obtain⟨u7,e7,_⟩:=DataW.trod_bool Tryz.underlying4 g7
   cases M;cases O;cases T;cases U;cases Z;cases e5;cases e6;cases e7
   refine⟨⟨u,n1,n2,n3,n4,ks,n6,u7⟩,⟨?_,?_,?_,?_,?_,⟨ka,kc,?_,hI⟩,?_,?_⟩,I⟩
   ·exact hc 0 (by omega)
   ·exact hc 1 (by omega)
   ·exact hc 2 (by omega)
   ·exact hc 3 (by omega)
   ·exact hc 4 (by omega)
   ·exact hc 5 (by omega)
   ·exact hc 6 (by omega)
   ·exact hc 7 (by omega)
theorem zwt(len:Nat)(P:Nat->Nd->Prop)(h:∀ i,i<len->∃ x,P i x):∃ S:List Nd,S.length=len/\∀ i,i<len->P i (nd S i):=by
 induction len with
 | zero=>exact⟨[],rfl,fun i hi=>absurd hi (yw _)⟩
 | succ n I =>
  obtain⟨S,hl,E⟩:=I (fun i hi=>h i (by omega));obtain⟨x,F⟩:=h n (by omega);refine⟨S++[x],by simp[hl],fun i hi=>?_⟩;by_cases e:i=n
  ·subst e;rw[zbi (by simp[hl])];simpa [hl] using F
  ·have D:i<S.length:=by omega
   have:=E i (by omega);rw[zbi D] at this;rw[zbi (by simp;omega),List.getElem_append_left D];exact this
theorem zoR{F:Nat}{cs:List Value}{x:DataW H × List MemPlace}(h:DataW.trod enc Tryz.prog w base spare held F 41 cs=some x) :
  ∃ a c,∃ S:List Nd,cs=[.slice a S.length c]/\S.length<=9223372036854775807/\Big S/\zah w a S:=by
 rcases Go.Deep.open_slice Tryz.underlying41 h with ⟨rfl,_⟩ |⟨a,len,cap,m,n,D,Pl,rfl,_,hl,hm,a5,_,hx⟩
 ·exact⟨none,0,[],rfl,by simp,fun i hi=>absurd hi (yw _),fun i hi=>absurd hi (yw _)⟩
 ·have a7:len<=m:=by rw[a5];split <;> omega
  obtain⟨O,T,M⟩:=a;by_cases h0:len=0
  ·subst h0;exact⟨_,cap,[],rfl,by simp,fun i hi=>absurd hi (yw _),fun i hi=>absurd hi (yw _)⟩
  ·have a6:M=none:=by
    obtain⟨U,hc,ht⟩:=hx 0 (by omega);rw[zlu] at hc;obtain⟨_,Z,E⟩:=World.cells?_some hc;have h1:=E 0 (by omega);rw[List.getElem?_eq_getElem (by omega)] at h1;simpa [Addr.add] using World.cell?_spot h1
   subst a6
   obtain⟨S,I,J⟩:=zwt len (fun i x=>zvg w O (T+i*8) x/\x.ks.length<=9223372036854775807) (fun i hi=>by
    obtain⟨U,hc,ht⟩:=hx i (by omega);rw[zlu] at hc;obtain⟨_,Z,E⟩:=World.cells?_some hc;refine zrs ht (fun j hj=>?_);have h1:=E j hj
    rwa [add_plain,add_plain] at h1)
   exact⟨some ⟨O,T,none⟩,cap,S,by rw[I],by rw[I];unfold maxLen at hm;omega,fun i hi=>(J i (by omega)).2,fun i hi=>⟨O,T,rfl,(J i (by omega)).1⟩⟩
theorem zkF:Tryz.prog.cellsOf 61=2:=by kernel_rfl
theorem zts(len:Nat)(P:Nat->Int × Int->Prop)(h:∀ i,i<len->∃ x,P i x):∃ S:List (Int × Int),S.length=len/\∀ i,i<len->P i (S.getD i (0,0)):=by
 induction len with
 | zero=>exact⟨[],rfl,fun i hi=>absurd hi (yw _)⟩
 | succ n I =>
  obtain⟨S,hl,E⟩:=I (fun i hi=>h i (by omega));obtain⟨x,F⟩:=h n (by omega);refine⟨S++[x],by simp[hl],fun i hi=>?_⟩;by_cases e:i=n
  ·subst e;rw[zae _ _ (by simp[hl])];simpa [hl] using F
  ·have D:i<S.length:=by omega
   have:=E i (by omega);rw[zae _ _ D] at this;rw[zae _ _ (by simp;omega),List.getElem_append_left D];exact this
theorem zjc:Tryz.prog.cellsOf 50=4:=by kernel_rfl
theorem zja:Tryz.prog.cellsOf 36=5:=by kernel_rfl
theorem zoP{I:Nat}{cs:List Value}{x:DataW H × List MemPlace}(h:DataW.trod enc Tryz.prog w base spare held I 44 cs=some x) :
  ∃ a c,∃ S:List (Int × Int),cs=[.slice a S.length c]/\S.length<=9223372036854775807/\zas w a S:=by
 rcases Go.Deep.open_slice Tryz.underlying44 h with ⟨rfl,_⟩ |⟨a,len,cap,m,n,D,Pl,rfl,_,hl,hm,a6,_,hx⟩
 ·exact⟨none,0,[],rfl,by simp,fun i hi=>absurd hi (yw _)⟩
 ·have b1:len<=m:=by rw[a6];split <;> omega
  obtain⟨U,Z,T⟩:=a;by_cases h0:len=0
  ·subst h0;exact⟨_,cap,[],rfl,by simp,fun i hi=>absurd hi (yw _)⟩
  ·have a7:T=none:=by
    obtain⟨F,hc,ht⟩:=hx 0 (by omega);rw[zkF] at hc;obtain⟨_,b0,E⟩:=World.cells?_some hc;have h1:=E 0 (by omega);rw[List.getElem?_eq_getElem (by omega)] at h1;simpa [Addr.add] using World.cell?_spot h1
   subst a7
   obtain⟨S,J,M⟩:=zts len (fun i x=>w.cell? ⟨U,Z+i*2,none⟩=some (.int .i64 x.1)/\w.cell? ⟨U,Z+i*2+1,none⟩=some (.int .i64 x.2)) (fun i hi=>by
    obtain⟨F,hc,ht⟩:=hx i (by omega);rw[zkF] at hc;obtain⟨_,a5,E⟩:=World.cells?_some hc;obtain⟨xs,n', _,_,a9,a8,O⟩:=DataW.trod_struct Tryz.underlying61 ht
    match F,a5 with
    | [a0,a1],_ =>
     match xs,a8 with
     | [x0,x1],_ =>
      have g0:=O 0 _ rfl;have g1:=O 1 _ rfl;obtain⟨n0,e0,_⟩:=DataW.trod_int Tryz.underlying3 g0;obtain⟨n1,e1,_⟩:=DataW.trod_int Tryz.underlying3 g1
      cases e0;cases e1
      refine⟨(n0,n1),?_,?_⟩
      ·have h1:=E 0 (by omega)
       rwa [add_plain,add_plain] at h1
      ·have h1:=E 1 (by omega)
       rwa [add_plain,add_plain] at h1)
   exact⟨some ⟨U,Z,none⟩,cap,S,by rw[J],by rw[J];unfold maxLen at hm;omega,fun i hi=>⟨U,Z,rfl,(M i (by omega)).1,(M i (by omega)).2⟩⟩
theorem zwr(len:Nat)(P:Nat->Ac->Prop)(h:∀ i,i<len->∃ x,P i x):∃ S:List Ac,S.length=len/\∀ i,i<len->P i (ac S i):=by
 induction len with
 | zero=>exact⟨[],rfl,fun i hi=>absurd hi (yw _)⟩
 | succ n I =>
  obtain⟨S,hl,E⟩:=I (fun i hi=>h i (by omega));obtain⟨x,F⟩:=h n (by omega);refine⟨S++[x],by simp[hl],fun i hi=>?_⟩;unfold ac;by_cases e:i=n
  ·subst e;rw[zae _ _ (by simp[hl])];simpa [hl] using F
  ·have D:i<S.length:=by omega
   have:=E i (by omega);unfold ac at this;rw[zae _ _ D] at this;rw[zae _ _ (by simp;omega),List.getElem_append_left D];exact this
theorem zui{D:Nat}{F:List Value}{x:DataW H × List MemPlace}(h:DataW.trod enc Tryz.prog w base spare held D 36 F=some x) :
  ∃ y:Ac,F=[.int .i64 y.k,.int .i64 y.a,.int .i64 y.b,.int .i64 y.c,.int .i64 y.n]:=by
 obtain⟨xs,n,_,_,hl,I,E⟩:=DataW.trod_struct Tryz.underlying36 h;rw[zja] at hl
 match F,hl with
 | [a0,a1,a2,a3,a4],_ =>
  match xs,I with
  | [x0,x1,x2,x3,x4],_ =>
   obtain⟨Z,J,_⟩:=DataW.trod_int Tryz.underlying3 (E 0 _ rfl);obtain⟨n1,M,_⟩:=DataW.trod_int Tryz.underlying3 (E 1 _ rfl);obtain⟨n2,O,_⟩:=DataW.trod_int Tryz.underlying3 (E 2 _ rfl);obtain⟨n3,T,_⟩:=DataW.trod_int Tryz.underlying3 (E 3 _ rfl);obtain⟨n4,U,_⟩:=DataW.trod_int Tryz.underlying3 (E 4 _ rfl)
   cases J;cases M;cases O;cases T;cases U
   exact⟨⟨Z,n1,n2,n3,n4⟩,rfl⟩
theorem zrq{J:Nat}{cs:List Value}{x:DataW H × List MemPlace}(h:DataW.trod enc Tryz.prog w base spare held J 34 cs=some x) :
  ∃ a c,∃ S:List Ac,cs=[.slice a S.length c]/\S.length<=c/\c<=9223372036854775807/\zcO w a S:=by
 rcases Go.Deep.open_slice Tryz.underlying34 h with ⟨rfl,_⟩ |⟨a,len,cap,m,n,D,Pl,rfl,_,hl,hm,a6,_,hx⟩
 ·exact⟨none,0,[],rfl,by simp,by omega,fun i hi=>absurd hi (yw _)⟩
 ·have a8:len<=m:=by rw[a6];split <;> omega
  have O:cap<=9223372036854775807:=by unfold maxLen at hm;omega
  obtain⟨F,I,T⟩:=a;by_cases h0:len=0
  ·subst h0;exact⟨_,cap,[],rfl,by simp,O,fun i hi=>absurd hi (yw _)⟩
  ·have a7:T=none:=by
    obtain⟨U,hc,ht⟩:=hx 0 (by omega);rw[zja] at hc;obtain⟨_,a5,E⟩:=World.cells?_some hc;have h1:=E 0 (by omega);rw[List.getElem?_eq_getElem (by omega)] at h1;simpa [Addr.add] using World.cell?_spot h1
   subst a7
   obtain⟨S,M,Z⟩:=zwr len (fun i x=>w.cell? ⟨F,I+i*5,none⟩=some (.int .i64 x.k)/\w.cell? ⟨F,I+i*5+1,none⟩=some (.int .i64 x.a)/\w.cell? ⟨F,I+i*5+2,none⟩=some (.int .i64 x.b)/\w.cell? ⟨F,I+i*5+3,none⟩=some (.int .i64 x.c)/\w.cell? ⟨F,I+i*5+4,none⟩=some (.int .i64 x.n)) (fun i hi=>by
    obtain⟨U,hc,ht⟩:=hx i (by omega);rw[zja] at hc;obtain⟨_,a5,E⟩:=World.cells?_some hc;obtain⟨y,e⟩:=zui ht;subst e;have k0:=E 0 (by omega);have k1:=E 1 (by omega);have k2:=E 2 (by omega);have k3:=E 3 (by omega);have k4:=E 4 (by omega);rw[add_plain,add_plain] at k0 k1 k2 k3 k4;exact⟨y,k0,k1,k2,k3,k4⟩)
   exact⟨some ⟨F,I,none⟩,cap,S,by rw[M],by rw[M];exact hl,O,fun i hi=>⟨F,I,rfl,Z i (by omega)⟩⟩
theorem zoV{D:Nat}{F:List Value}{x:DataW H × List MemPlace}(h:DataW.trod enc Tryz.prog w base spare held D 50 F=some x) :
  ∃ (A:RA) (R:Rl),F=[.slice A.a0 R.s.length A.c0,.slice A.a1 R.hs.length A.c1,.slice A.a2 R.i.length A.c2,.slice A.a3 R.t.length A.c3]/\zsb R/\zcp w A R:=by
 obtain⟨xs,n,_,_,hl,J,E⟩:=DataW.trod_struct Tryz.underlying50 h;rw[zjc] at hl
 match F,hl with
 | [v0,v1,v2,v3],_ =>
  match xs,J with
  | [x0,x1,x2,x3],_ =>
   have g0:=E 0 _ rfl;have g1:=E 1 _ rfl;have g2:=E 2 _ rfl;have g3:=E 3 _ rfl;obtain⟨_,_,_,_,s0⟩:=trod_struct1 Tryz.underlying43 g0;obtain⟨_,_,_,_,s2⟩:=trod_struct1 Tryz.underlying47 g2;obtain⟨a0,c0,S,Z,n0,T,h0⟩:=zoR s0;obtain⟨a1,c1,M,e1,n1,h1⟩:=zoP g1;obtain⟨a2,c2,I,e2,n2,U,h2⟩:=zhP s2;obtain⟨a3,c3,O,e3,n3,m3,h3⟩:=zkW g3
   cases Z;cases e1;cases e2;cases e3
   exact⟨⟨a0,a1,a2,a3,c0,c1,c2,c3⟩,⟨S,M,I,O⟩,rfl,⟨n0,T,n1,n2,U,by show O.length<=_;omega⟩,h0,h1,h2,h3⟩
variable {H:Type} {enc:TypeId × Value->H} {w:World} {base:Nat} {spare:Nat->Bool} {held:Bool}
theorem zww{α:Type}(z:α)(len:Nat)(P:Nat->α->Prop)(h:∀ i,i<len->∃ x,P i x):∃ S:List α,S.length=len/\∀ i,i<len->P i (S.getD i z):=by
 induction len with
 | zero=>exact⟨[],rfl,fun i hi=>absurd hi (yw _)⟩
 | succ n I =>
  obtain⟨S,hl,E⟩:=I (fun i hi=>h i (by omega));obtain⟨x,F⟩:=h n (by omega);refine⟨S++[x],by simp[hl],fun i hi=>?_⟩;by_cases e:i=n
  ·subst e;rw[zae _ _ (by simp[hl])];simpa [hl] using F
  ·have D:i<S.length:=by omega
   have:=E i (by omega);rw[zae _ _ D] at this;rw[zae _ _ (by simp;omega),List.getElem_append_left D];exact this
theorem zef{α:Type}(z:α)(Q:List Value->α->Prop){tS tE size J:Nat}{cs:List Value}{x:DataW H × List MemPlace}(hu:Tryz.prog.underlying tS=some (.slice tE))(hc:Tryz.prog.cellsOf tE=size)(hs:0<size)
  (hE:∀ (n:Nat) (E:List Value) (x' : DataW H × List MemPlace),DataW.trod enc Tryz.prog w base spare held n tE E=some x' -> ∃ y,Q E y) (h:DataW.trod enc Tryz.prog w base spare held J tS cs=some x) :
  ∃ a c,∃ S:List α,cs=[.slice a S.length c]/\SlA a S.length c/\∀ i,i<S.length->∃ b o E,a=some ⟨b,o,none⟩/\(∀ j,j<size->w.cell? ⟨b,o+i*size+j,none⟩=E[j]?)/\Q E (S.getD i z):=by
 rcases Go.Deep.open_slice hu h with ⟨rfl,_⟩ |⟨a,len,cap,m,n,D,Pl,rfl,_,hl,hm,a7,_,hx⟩
 ·exact⟨none,0,[],rfl,⟨fun _=>rfl,by simp,by omega⟩,fun i hi=>absurd hi (yw _)⟩
 ·have a9:len<=m:=by rw[a7];split <;> omega
  have O:cap<=9223372036854775807:=by unfold maxLen at hm;omega
  obtain⟨U,Z,T⟩:=a;by_cases h0:len=0
  ·subst h0;exact⟨_,cap,[],rfl,⟨(fun e=>by cases e),by simp,O⟩,fun i hi=>absurd hi (yw _)⟩
  ·have a8:T=none:=by
    obtain⟨E,F,ht⟩:=hx 0 (by omega);rw[hc] at F;obtain⟨_,a6,I⟩:=World.cells?_some F;have h1:=I 0 hs;rw[List.getElem?_eq_getElem (by omega)] at h1;simpa [Addr.add] using World.cell?_spot h1
   subst a8
   obtain⟨S,M,a5⟩:=zww z len (fun i y=>∃ E,(∀ j,j<size->w.cell? ⟨U,Z+i*size+j,none⟩=E[j]?)/\Q E y) (fun i hi=>by
    obtain⟨E,F,ht⟩:=hx i (by omega);rw[hc] at F;obtain⟨_,a6,I⟩:=World.cells?_some F;obtain⟨y,hy⟩:=hE _ _ _ ht;refine⟨y,E,fun j hj=>?_,hy⟩;have h1:=I j hj
    rwa [add_plain,add_plain] at h1)
   refine⟨some ⟨U,Z,none⟩,cap,S,by rw[M],⟨(fun e=>by cases e),by rw[M];exact hl,O⟩,fun i hi=>?_⟩;obtain⟨E,h1,h2⟩:=a5 i (by omega);exact⟨U,Z,E,rfl,h1,h2⟩
theorem zex:Tryz.prog.cellsOf 65=5/\Tryz.prog.cellsOf 34=1/\Tryz.prog.cellsOf 53=2/\Tryz.prog.cellsOf 51=1/\Tryz.prog.cellsOf 40=2/\Tryz.prog.cellsOf 28=5:=⟨by kernel_rfl,by kernel_rfl,by kernel_rfl,by kernel_rfl,by kernel_rfl,by kernel_rfl⟩
theorem znn{E:Nat}{J:List Value}{x:DataW H × List MemPlace}(h:DataW.trod enc Tryz.prog w base spare held E 22 J=some x) :
  ∃ a c,∃ S:List Fr,J=[.slice a S.length c]/\SlA a S.length c/\zaS w a S:=by
 obtain⟨a,c,S,e,hs,hx⟩:=zef (⟨0,0,0,0,false⟩:Fr) (fun D y=>D=[.int .i64 y.p,.int .i64 y.o,.int .i64 y.m,.int .i64 y.t,.bool y.g]) Tryz.underlying22 zex.1 (by decide) (fun n D x' ht=>by
  obtain⟨xs,n', _,_,hl,I,F⟩:=DataW.trod_struct Tryz.underlying65 ht;rw[zex.1] at hl
  match D,hl with
  | [a0,a1,a2,a3,a4],_ =>
   match xs,I with
   | [x0,x1,x2,x3,x4],_ =>
    obtain⟨n0,M,_⟩:=DataW.trod_int Tryz.underlying3 (F 0 _ rfl);obtain⟨n1,O,_⟩:=DataW.trod_int Tryz.underlying3 (F 1 _ rfl);obtain⟨n2,T,_⟩:=DataW.trod_int Tryz.underlying3 (F 2 _ rfl);obtain⟨n3,U,_⟩:=DataW.trod_int Tryz.underlying3 (F 3 _ rfl);obtain⟨n4,Z,_⟩:=DataW.trod_bool Tryz.underlying4 (F 4 _ rfl)
    cases M;cases O;cases T;cases U;cases Z
    exact⟨⟨n0,n1,n2,n3,n4⟩,rfl⟩) h
 refine⟨a,c,S,e,hs,fun i hi=>?_⟩;obtain⟨b,o,D,ea,hc,rfl⟩:=hx i hi;exact⟨b,o,ea,hc 0 (by decide),hc 1 (by decide),hc 2 (by decide),hc 3 (by decide),hc 4 (by decide)⟩
theorem zoQ{E:Nat}{M:List Value}{x:DataW H × List MemPlace}(h:DataW.trod enc Tryz.prog w base spare held E 51 M=some x) :
  ∃ a c,∃ S:List Ml,M=[.slice a S.length c]/\SlA a S.length c/\zix w a S/\∀ j,j<S.length->(ml S j).g.length<=9223372036854775807/\zkz (ml S j).g:=by
 obtain⟨a,c,S,e,hs,U⟩:=zef zve (fun D y=>∃ ga gc,D=[.int .i64 y.f,.slice ga y.g.length gc]/\zaG w ga y.g/\y.g.length<=9223372036854775807/\zkz y.g) Tryz.underlying51 zex.2.2.1 (by decide) (fun n D x' ht=>by
  obtain⟨xs,n', _,_,hl,J,T⟩:=DataW.trod_struct Tryz.underlying53 ht;rw[zex.2.2.1] at hl
  match D,hl with
  | [a0,a1],_ =>
   match xs,J with
   | [x0,x1],_ =>
    obtain⟨n0,e0,_⟩:=DataW.trod_int Tryz.underlying3 (T 0 _ rfl);obtain⟨_,_,_,_,s2⟩:=trod_struct1 Tryz.underlying47 (T 1 _ rfl);obtain⟨a2,c2,I,e2,n2,Z,F⟩:=zhP s2
    cases e0;cases e2
    exact⟨⟨n0,I⟩,a2,c2,rfl,F,n2,Z⟩) h
 refine⟨a,c,S,e,hs,fun i hi=>?_,fun i hi=>?_⟩
 ·obtain⟨b,o,D,O,hc,ga,gc,rfl,h1,_⟩:=U i hi;exact⟨b,o,ga,gc,O,hc 0 (by decide),hc 1 (by decide),h1⟩
 ·obtain⟨b,o,D,O,hc,ga,gc,rfl,_,F⟩:=U i hi;exact F
theorem znp{E:Nat}{J:List Value}{x:DataW H × List MemPlace}(h:DataW.trod enc Tryz.prog w base spare held E 25 J=some x) :
  ∃ a c,∃ S:List (List Ml),J=[.slice a S.length c]/\SlA a S.length c/\znR w a S/\∀ i,i<S.length->(qu S i).length<=9223372036854775807/\∀ j,j<(qu S i).length->(ml (qu S i) j).g.length<=9223372036854775807/\zkz (ml (qu S i) j).g:=by
 obtain⟨a,c,S,e,hs,O⟩:=zef ([]:List Ml) (fun D y=>∃ qa qc,D=[.slice qa y.length qc]/\SlA qa y.length qc/\zix w qa y/\∀ j,j<y.length->(ml y j).g.length<=9223372036854775807/\zkz (ml y j).g) Tryz.underlying25 zex.2.2.2.1 (by decide) (fun n D Z U=>by
  obtain⟨qa,qc,q,T,h1,F,I⟩:=zoQ U;exact⟨q,qa,qc,T,h1,F,I⟩) h
 refine⟨a,c,S,e,hs,fun i hi=>?_,fun i hi=>?_⟩
 ·obtain⟨b,o,D,M,hc,qa,qc,rfl,h1,F,_⟩:=O i hi;have h0:=hc 0 (by decide);rw[Nat.mul_one,Nat.add_zero] at h0;exact⟨b,o,qa,qc,M,h0,h1,F⟩
 ·obtain⟨b,o,D,M,hc,qa,qc,rfl,h1,_,I⟩:=O i hi;exact⟨yE h1.2.1 h1.2.2,I⟩
theorem zoU{E:Nat}{F:List Value}{x:DataW H × List MemPlace}(h:DataW.trod enc Tryz.prog w base spare held E 24 F=some x) :
  ∃ a c,∃ S:List (List Ac),F=[.slice a S.length c]/\SlA a S.length c/\znQ w a S/\∀ i,i<S.length->(pg S i).length<=9223372036854775807:=by
 obtain⟨a,c,S,e,hs,M⟩:=zef ([]:List Ac) (fun D y=>∃ qa qc,D=[.slice qa y.length qc]/\y.length<=9223372036854775807/\zcO w qa y) Tryz.underlying24 zex.2.1 (by decide) (fun n D Z U=>by
  obtain⟨qa,qc,q,O,h1,J,T⟩:=zrq U;exact⟨q,qa,qc,O,by omega,T⟩) h
 refine⟨a,c,S,e,hs,fun i hi=>?_,fun i hi=>?_⟩
 ·obtain⟨b,o,D,I,hc,qa,qc,rfl,h1,J⟩:=M i hi;have h0:=hc 0 (by decide);rw[Nat.mul_one,Nat.add_zero] at h0;exact⟨b,o,qa,qc,I,h0,J⟩
 ·obtain⟨b,o,D,I,hc,qa,qc,rfl,h1,_⟩:=M i hi;exact h1
theorem znq{E:Nat}{I:List Value}{x:DataW H × List MemPlace}(h:DataW.trod enc Tryz.prog w base spare held E 23 I=some x) :
  ∃ a c,∃ S:List Rl,I=[.slice a S.length c]/\SlA a S.length c/\znS w a S/\∀ i,i<S.length->zsb (rl S i):=by
 obtain⟨a,c,S,e,hs,M⟩:=zef zbK (fun D R=>∃ A:RA,D=[.slice A.a0 R.s.length A.c0,.slice A.a1 R.hs.length A.c1,.slice A.a2 R.i.length A.c2,.slice A.a3 R.t.length A.c3]/\zsb R/\zcp w A R) Tryz.underlying23 zjc (by decide) (fun n D U T=>by
  obtain⟨A,R,O,h1,F⟩:=zoV T;exact⟨R,A,O,h1,F⟩) h
 refine⟨a,c,S,e,hs,fun i hi=>?_,fun i hi=>?_⟩
 ·obtain⟨b,o,D,J,hc,A,rfl,h1,F⟩:=M i hi;exact⟨b,o,A,J,hc 0 (by decide),hc 1 (by decide),hc 2 (by decide),hc 3 (by decide),F⟩
 ·obtain⟨b,o,D,J,hc,A,rfl,h1,_⟩:=M i hi;exact h1
theorem zoS{E:Nat}{I:List Value}{x:DataW H × List MemPlace}(h:DataW.trod enc Tryz.prog w base spare held E 71 I=some x) :
  ∃ a c,∃ S:List (Int × Bool),I=[.slice a S.length c]/\SlA a S.length c/\zdG w a S:=by
 obtain⟨a,c,S,e,hs,Z⟩:=zef ((0,false):Int × Bool) (fun D y=>D=[.int .i64 y.1,.bool y.2]) Tryz.underlying71 zex.2.2.2.2.1 (by decide) (fun n D x' U=>by
  obtain⟨xs,n', _,_,hl,F,J⟩:=DataW.trod_struct Tryz.underlying40 U;rw[zex.2.2.2.2.1] at hl
  match D,hl with
  | [a0,a1],_ =>
   match xs,F with
   | [x0,x1],_ =>
    obtain⟨n0,M,_⟩:=DataW.trod_int Tryz.underlying3 (J 0 _ rfl);obtain⟨n1,O,_⟩:=DataW.trod_bool Tryz.underlying4 (J 1 _ rfl)
    cases M;cases O
    exact⟨(n0,n1),rfl⟩) h
 refine⟨a,c,S,e,hs,fun i hi=>?_⟩;obtain⟨b,o,D,T,hc,rfl⟩:=Z i hi;exact⟨b,o,T,hc 0 (by decide),hc 1 (by decide)⟩
theorem zoW{D:Nat}{F:List Value}{x:DataW H × List MemPlace}(h:DataW.trod enc Tryz.prog w base spare held D 28 F=some x) :
  ∃ (A:WA) (W:Wl),F=[.slice A.a0 W.fs.length A.c0,.slice A.a1 W.rs.length A.c1,.slice A.a2 W.ps.length A.c2,.slice A.a3 W.qs.length A.c3,.slice A.a4 W.pt.length A.c4]/\zsc W/\WlC A W/\zic w A W:=by
 obtain⟨xs,n,_,_,hl,I,E⟩:=DataW.trod_struct Tryz.underlying28 h;rw[zex.2.2.2.2.2] at hl
 match F,hl with
 | [v0,v1,v2,v3,v4],_ =>
  match xs,I with
  | [x0,x1,x2,x3,x4],_ =>
   obtain⟨a0,c0,J,U,s0,h0⟩:=znn (E 0 _ rfl);obtain⟨a1,c1,M,Z,s1,h1,g1⟩:=znq (E 1 _ rfl);obtain⟨a2,c2,O,e2,s2,h2,g2⟩:=zoU (E 2 _ rfl);obtain⟨a3,c3,T,e3,s3,h3,g3⟩:=znp (E 3 _ rfl);obtain⟨a4,c4,S4,e4,n4,g4,s4,h4⟩:=zoT (E 4 _ rfl)
   cases U;cases Z;cases e2;cases e3;cases e4
   exact⟨⟨a0,a1,a2,a3,a4,c0,c1,c2,c3,c4⟩,⟨J,M,O,T,S4⟩,rfl,⟨yE s0.2.1 s0.2.2,⟨yE s1.2.1 s1.2.2,g1⟩,⟨yE s2.2.1 s2.2.2,g2⟩,⟨yE s3.2.1 s3.2.2,g3⟩,n4,g4⟩,⟨s0,s1,s2,s3,s4⟩,⟨h0,h1,h2,h3,h4⟩⟩
theorem zrv{r:Reach}{F:Nat}{v:Value}{d:DataW H}{p:List MemPlace}(Z:Value.okWide Tryz.prog w r F 28 v)(h:DataW.Trod enc Tryz.prog w base spare held 28 v d p) :
  ∃ (A:WA) (W:Wl),v=wlV A W/\zsc W/\WlC A W/\zic w A W:=by
 obtain⟨D,rfl,U⟩:=okWide_struct Tryz.underlying28 Z;obtain⟨E,T⟩:=h;obtain⟨A,R,e,J,M,O⟩:=zoW T;refine⟨A,R,?_,J,M,O⟩;have I:D.toList=_:=e;rw[show D=D.toList.toArray from by simp,I]
theorem zrt{r:Reach}{E:Nat}{v:Value}{d:DataW H}{p:List MemPlace}(J:Value.okWide Tryz.prog w r E 71 v)(h:DataW.Trod enc Tryz.prog w base spare held 71 v d p) :
  ∃ a c,∃ S:List (Int × Bool),v=.slice a S.length c/\SlA a S.length c/\zdG w a S:=by
 obtain⟨M,len,cap,rfl⟩:=okWide_slice Tryz.underlying71 J;obtain⟨D,I⟩:=h;obtain⟨ka,kc,ks,e,h1,F⟩:=zoS I;simp[Value.cells] at e;obtain⟨rfl,rfl,rfl⟩:=e;exact⟨_,_,ks,rfl,h1,F⟩
end Go.Proofs.YtcbcpomacdngmaaGreat
