/-
  x
-/
import Derived.Test.YtcbcpomacdngmaaGreatQ49
namespace Go.Proofs.YtcbcpomacdngmaaGreat
set_option maxRecDepth 100000
set_option maxHeartbeats 4000000
set_option linter.unusedVariables false
open Go.ChangeShapes Go.WideShapes Go.ChangeAt Go.RowKit
variable {H:Type} {enc:TypeId × Value->H} {w:World} {base:Nat} {spare:Nat->Bool} {held:Bool}
theorem zxZ:Tryz.prog.cellsOf 3=1:=by kernel_rfl
theorem zlu:Tryz.prog.cellsOf 57=8:=by kernel_rfl
theorem zrr{fuel:Nat}{I:List Value}{x:DataW H × List MemPlace}(h:DataW.trod enc Tryz.prog w base spare held fuel 48 I=some x) :
  ∃ ka kc,∃ ks:List Int,I=[.slice ka ks.length kc]/\ks.length<=9223372036854775807/\zaj w ka ks:=by
 rcases open_ints Tryz.underlying48 Tryz.underlying3 zxZ h with ⟨rfl,_⟩ |⟨a,len,cap,F,rfl,_,hl,M,O,_,D,_⟩
 ·exact⟨none,0,[],rfl,by simp,fun i hi=>absurd hi (yw _)⟩
 ·have J:len<=F.length:=by rw[O];split <;> omega
  have E:(F.take len).length=len:=by rw[List.length_take];omega
  refine⟨some a,cap,F.take len,by rw[E],by rw[E];unfold maxLen at M;omega,fun i hi=>?_⟩;rw[E] at hi;obtain⟨b,off,rfl,hc⟩:=ints_at D (by omega);refine⟨b,off,rfl,?_⟩;rw[hc i (by omega),zae F 0 (by omega),zae (F.take len) 0 (by omega),List.getElem_take]
theorem zrs{fuel b o:Nat}{E:List Value}{x:DataW H × List MemPlace}(h:DataW.trod enc Tryz.prog w base spare held fuel 57 E=some x)(hc:∀ j,j<8->w.cell? ⟨b,o+j,none⟩=E[j]?) :
  ∃ nd:Nd,zvg w b o nd/\nd.ks.length<=9223372036854775807:=by
 obtain⟨xs,n,_,_,hl,I,D⟩:=DataW.trod_struct Tryz.underlying57 h;rw[zlu] at hl
 match E,hl with
 | [a0,a1,a2,a3,a4,a5,a6,a7],_ =>
  match xs,I with
  | [x0,x1,x2,x3,x4,x5,x6,x7],_ =>
   have g0:=D 0 _ rfl;have g1:=D 1 _ rfl;have g2:=D 2 _ rfl;have g3:=D 3 _ rfl;have g4:=D 4 _ rfl;have g5:=D 5 _ rfl;have g6:=D 6 _ rfl;have g7:=D 7 _ rfl;obtain⟨u,J,_⟩:=DataW.trod_bool Tryz.underlying4 g0;obtain⟨n1,M,_⟩:=DataW.trod_int Tryz.underlying3 g1;obtain⟨n2,O,_⟩:=DataW.trod_int Tryz.underlying3 g2;obtain⟨n3,T,_⟩:=DataW.trod_int Tryz.underlying3 g3;obtain⟨n4,U,_⟩:=DataW.trod_int Tryz.underlying3 g4;obtain⟨ka,kc,ks,Z,F,hI⟩:=zrr g5;obtain⟨n6,e6,_⟩:=DataW.trod_int Tryz.underlying3 g6;obtain⟨u7,e7,_⟩:=DataW.trod_bool Tryz.underlying4 g7
   cases J;cases M;cases O;cases T;cases U;cases Z;cases e6;cases e7
   refine⟨⟨u,n1,n2,n3,n4,ks,n6,u7⟩,⟨?_,?_,?_,?_,?_,⟨ka,kc,?_,hI⟩,?_,?_⟩,F⟩
   ·exact hc 0 (by omega)
   ·exact hc 1 (by omega)
   ·exact hc 2 (by omega)
   ·exact hc 3 (by omega)
   ·exact hc 4 (by omega)
   ·exact hc 5 (by omega)
   ·exact hc 6 (by omega)
   ·exact hc 7 (by omega)
theorem zwt(len:Nat)(P:Nat->Nd->Prop)(h:∀ i,i<len->∃ x,P i x):∃ S:List Nd,S.length=len/\∀ i,i<len->P i (nd S i):=by
 induction len with
 | zero=>exact⟨[],rfl,fun i hi=>absurd hi (yw _)⟩
 | succ n I =>
  obtain⟨S,hl,E⟩:=I (fun i hi=>h i (by omega));obtain⟨x,F⟩:=h n (by omega);refine⟨S++[x],by simp[hl],fun i hi=>?_⟩;by_cases e:i=n
  ·subst e;rw[zbi (by simp[hl])];simpa [hl] using F
  ·have D:i<S.length:=by omega
   have:=E i (by omega);rw[zbi D] at this;rw[zbi (by simp;omega),List.getElem_append_left D];exact this
theorem zoR{fuel:Nat}{cs:List Value}{x:DataW H × List MemPlace}(h:DataW.trod enc Tryz.prog w base spare held fuel 41 cs=some x) :
  ∃ a c,∃ S:List Nd,cs=[.slice a S.length c]/\S.length<=9223372036854775807/\Big S/\zah w a S:=by
 rcases Go.Deep.open_slice Tryz.underlying41 h with ⟨rfl,_⟩ |⟨a,len,cap,m,n,D,Pl,rfl,_,hl,hm,Z,_,hx⟩
 ·exact⟨none,0,[],rfl,by simp,fun i hi=>absurd hi (yw _),fun i hi=>absurd hi (yw _)⟩
 ·have a6:len<=m:=by rw[Z];split <;> omega
  obtain⟨M,O,J⟩:=a;by_cases h0:len=0
  ·subst h0;exact⟨_,cap,[],rfl,by simp,fun i hi=>absurd hi (yw _),fun i hi=>absurd hi (yw _)⟩
  ·have a5:J=none:=by
    obtain⟨T,hc,ht⟩:=hx 0 (by omega);rw[zlu] at hc;obtain⟨_,U,E⟩:=World.cells?_some hc;have h1:=E 0 (by omega);rw[List.getElem?_eq_getElem (by omega)] at h1;simpa [Addr.add] using World.cell?_spot h1
   subst a5
   obtain⟨S,F,I⟩:=zwt len (fun i x=>zvg w M (O+i*8) x/\x.ks.length<=9223372036854775807) (fun i hi=>by
    obtain⟨T,hc,ht⟩:=hx i (by omega);rw[zlu] at hc;obtain⟨_,U,E⟩:=World.cells?_some hc;refine zrs ht (fun j hj=>?_);have h1:=E j hj
    rwa [add_plain,add_plain] at h1)
   exact⟨some ⟨M,O,none⟩,cap,S,by rw[F],by rw[F];unfold maxLen at hm;omega,fun i hi=>(I i (by omega)).2,fun i hi=>⟨M,O,rfl,(I i (by omega)).1⟩⟩
theorem zkF:Tryz.prog.cellsOf 61=2:=by kernel_rfl
theorem zts(len:Nat)(P:Nat->Int × Int->Prop)(h:∀ i,i<len->∃ x,P i x):∃ S:List (Int × Int),S.length=len/\∀ i,i<len->P i (S.getD i (0,0)):=by
 induction len with
 | zero=>exact⟨[],rfl,fun i hi=>absurd hi (yw _)⟩
 | succ n I =>
  obtain⟨S,hl,E⟩:=I (fun i hi=>h i (by omega));obtain⟨x,F⟩:=h n (by omega);refine⟨S++[x],by simp[hl],fun i hi=>?_⟩;by_cases e:i=n
  ·subst e;rw[zae _ _ (by simp[hl])];simpa [hl] using F
  ·have D:i<S.length:=by omega
   have:=E i (by omega);rw[zae _ _ D] at this;rw[zae _ _ (by simp;omega),List.getElem_append_left D];exact this
theorem zjc:Tryz.prog.cellsOf 50=4:=by kernel_rfl
theorem zja:Tryz.prog.cellsOf 36=5:=by kernel_rfl
theorem zoP{fuel:Nat}{cs:List Value}{x:DataW H × List MemPlace}(h:DataW.trod enc Tryz.prog w base spare held fuel 44 cs=some x) :
  ∃ a c,∃ S:List (Int × Int),cs=[.slice a S.length c]/\S.length<=9223372036854775807/\zas w a S:=by
 rcases Go.Deep.open_slice Tryz.underlying44 h with ⟨rfl,_⟩ |⟨a,len,cap,m,n,D,Pl,rfl,_,hl,hm,a5,_,hx⟩
 ·exact⟨none,0,[],rfl,by simp,fun i hi=>absurd hi (yw _)⟩
 ·have b0:len<=m:=by rw[a5];split <;> omega
  obtain⟨T,U,O⟩:=a;by_cases h0:len=0
  ·subst h0;exact⟨_,cap,[],rfl,by simp,fun i hi=>absurd hi (yw _)⟩
  ·have a6:O=none:=by
    obtain⟨F,hc,ht⟩:=hx 0 (by omega);rw[zkF] at hc;obtain⟨_,a9,E⟩:=World.cells?_some hc;have h1:=E 0 (by omega);rw[List.getElem?_eq_getElem (by omega)] at h1;simpa [Addr.add] using World.cell?_spot h1
   subst a6
   obtain⟨S,I,J⟩:=zts len (fun i x=>w.cell? ⟨T,U+i*2,none⟩=some (.int .i64 x.1)/\w.cell? ⟨T,U+i*2+1,none⟩=some (.int .i64 x.2)) (fun i hi=>by
    obtain⟨F,hc,ht⟩:=hx i (by omega);rw[zkF] at hc;obtain⟨_,Z,E⟩:=World.cells?_some hc;obtain⟨xs,n', _,_,a8,a7,M⟩:=DataW.trod_struct Tryz.underlying61 ht
    match F,Z with
    | [a0,a1],_ =>
     match xs,a7 with
     | [x0,x1],_ =>
      have g0:=M 0 _ rfl;have g1:=M 1 _ rfl;obtain⟨n0,e0,_⟩:=DataW.trod_int Tryz.underlying3 g0;obtain⟨n1,e1,_⟩:=DataW.trod_int Tryz.underlying3 g1
      cases e0;cases e1
      refine⟨(n0,n1),?_,?_⟩
      ·have h1:=E 0 (by omega)
       rwa [add_plain,add_plain] at h1
      ·have h1:=E 1 (by omega)
       rwa [add_plain,add_plain] at h1)
   exact⟨some ⟨T,U,none⟩,cap,S,by rw[I],by rw[I];unfold maxLen at hm;omega,fun i hi=>⟨T,U,rfl,(J i (by omega)).1,(J i (by omega)).2⟩⟩
theorem zwr(len:Nat)(P:Nat->Ac->Prop)(h:∀ i,i<len->∃ x,P i x):∃ S:List Ac,S.length=len/\∀ i,i<len->P i (ac S i):=by
 induction len with
 | zero=>exact⟨[],rfl,fun i hi=>absurd hi (yw _)⟩
 | succ n I =>
  obtain⟨S,hl,E⟩:=I (fun i hi=>h i (by omega));obtain⟨x,F⟩:=h n (by omega);refine⟨S++[x],by simp[hl],fun i hi=>?_⟩;unfold ac;by_cases e:i=n
  ·subst e;rw[zae _ _ (by simp[hl])];simpa [hl] using F
  ·have D:i<S.length:=by omega
   have:=E i (by omega);unfold ac at this;rw[zae _ _ D] at this;rw[zae _ _ (by simp;omega),List.getElem_append_left D];exact this
theorem zui{fuel:Nat}{E:List Value}{x:DataW H × List MemPlace}(h:DataW.trod enc Tryz.prog w base spare held fuel 36 E=some x) :
  ∃ y:Ac,E=[.int .i64 y.k,.int .i64 y.a,.int .i64 y.b,.int .i64 y.c,.int .i64 y.n]:=by
 obtain⟨xs,n,_,_,hl,F,D⟩:=DataW.trod_struct Tryz.underlying36 h;rw[zja] at hl
 match E,hl with
 | [a0,a1,a2,a3,a4],_ =>
  match xs,F with
  | [x0,x1,x2,x3,x4],_ =>
   obtain⟨U,I,_⟩:=DataW.trod_int Tryz.underlying3 (D 0 _ rfl);obtain⟨Z,J,_⟩:=DataW.trod_int Tryz.underlying3 (D 1 _ rfl);obtain⟨n2,M,_⟩:=DataW.trod_int Tryz.underlying3 (D 2 _ rfl);obtain⟨n3,O,_⟩:=DataW.trod_int Tryz.underlying3 (D 3 _ rfl);obtain⟨n4,T,_⟩:=DataW.trod_int Tryz.underlying3 (D 4 _ rfl)
   cases I;cases J;cases M;cases O;cases T
   exact⟨⟨U,Z,n2,n3,n4⟩,rfl⟩
theorem zrq{fuel:Nat}{cs:List Value}{x:DataW H × List MemPlace}(h:DataW.trod enc Tryz.prog w base spare held fuel 34 cs=some x) :
  ∃ a c,∃ S:List Ac,cs=[.slice a S.length c]/\S.length<=c/\c<=9223372036854775807/\zcO w a S:=by
 rcases Go.Deep.open_slice Tryz.underlying34 h with ⟨rfl,_⟩ |⟨a,len,cap,m,n,D,Pl,rfl,_,hl,hm,a5,_,hx⟩
 ·exact⟨none,0,[],rfl,by simp,by omega,fun i hi=>absurd hi (yw _)⟩
 ·have a7:len<=m:=by rw[a5];split <;> omega
  have M:cap<=9223372036854775807:=by unfold maxLen at hm;omega
  obtain⟨F,I,O⟩:=a;by_cases h0:len=0
  ·subst h0;exact⟨_,cap,[],rfl,by simp,M,fun i hi=>absurd hi (yw _)⟩
  ·have a6:O=none:=by
    obtain⟨T,hc,ht⟩:=hx 0 (by omega);rw[zja] at hc;obtain⟨_,Z,E⟩:=World.cells?_some hc;have h1:=E 0 (by omega);rw[List.getElem?_eq_getElem (by omega)] at h1;simpa [Addr.add] using World.cell?_spot h1
   subst a6
   obtain⟨S,J,U⟩:=zwr len (fun i x=>w.cell? ⟨F,I+i*5,none⟩=some (.int .i64 x.k)/\w.cell? ⟨F,I+i*5+1,none⟩=some (.int .i64 x.a)/\w.cell? ⟨F,I+i*5+2,none⟩=some (.int .i64 x.b)/\w.cell? ⟨F,I+i*5+3,none⟩=some (.int .i64 x.c)/\w.cell? ⟨F,I+i*5+4,none⟩=some (.int .i64 x.n)) (fun i hi=>by
    obtain⟨T,hc,ht⟩:=hx i (by omega);rw[zja] at hc;obtain⟨_,Z,E⟩:=World.cells?_some hc;obtain⟨y,e⟩:=zui ht;subst e;have k0:=E 0 (by omega);have k1:=E 1 (by omega);have k2:=E 2 (by omega);have k3:=E 3 (by omega);have k4:=E 4 (by omega);rw[add_plain,add_plain] at k0 k1 k2 k3 k4;exact⟨y,k0,k1,k2,k3,k4⟩)
   exact⟨some ⟨F,I,none⟩,cap,S,by rw[J],by rw[J];exact hl,M,fun i hi=>⟨F,I,rfl,U i (by omega)⟩⟩
theorem zoV{fuel:Nat}{E:List Value}{x:DataW H × List MemPlace}(h:DataW.trod enc Tryz.prog w base spare held fuel 50 E=some x) :
  ∃ (A:RA) (R:Rl),E=[.slice A.a0 R.s.length A.c0,.slice A.a1 R.hs.length A.c1,.slice A.a2 R.i.length A.c2,.slice A.a3 R.t.length A.c3]/\zsb R/\zcp w A R:=by
 obtain⟨xs,n,_,_,hl,F,D⟩:=DataW.trod_struct Tryz.underlying50 h;rw[zjc] at hl
 match E,hl with
 | [v0,v1,v2,v3],_ =>
  match xs,F with
  | [x0,x1,x2,x3],_ =>
   have g0:=D 0 _ rfl;have g1:=D 1 _ rfl;have g2:=D 2 _ rfl;have g3:=D 3 _ rfl;obtain⟨_,_,_,_,s0⟩:=trod_struct1 Tryz.underlying43 g0;obtain⟨_,_,_,_,s2⟩:=trod_struct1 Tryz.underlying47 g2;obtain⟨a0,c0,S,U,n0,M,h0⟩:=zoR s0;obtain⟨a1,c1,J,Z,n1,h1⟩:=zoP g1;obtain⟨a2,c2,I,e2,n2,T,h2⟩:=zhP s2;obtain⟨a3,c3,O,e3,n3,m3,h3⟩:=zkW g3
   cases U;cases Z;cases e2;cases e3
   exact⟨⟨a0,a1,a2,a3,c0,c1,c2,c3⟩,⟨S,J,I,O⟩,rfl,⟨n0,M,n1,n2,T,by show O.length<=_;omega⟩,h0,h1,h2,h3⟩
variable {H:Type} {enc:TypeId × Value->H} {w:World} {base:Nat} {spare:Nat->Bool} {held:Bool}
theorem zww{α:Type}(z:α)(len:Nat)(P:Nat->α->Prop)(h:∀ i,i<len->∃ x,P i x):∃ S:List α,S.length=len/\∀ i,i<len->P i (S.getD i z):=by
 induction len with
 | zero=>exact⟨[],rfl,fun i hi=>absurd hi (yw _)⟩
 | succ n I =>
  obtain⟨S,hl,E⟩:=I (fun i hi=>h i (by omega));obtain⟨x,F⟩:=h n (by omega);refine⟨S++[x],by simp[hl],fun i hi=>?_⟩;by_cases e:i=n
  ·subst e;rw[zae _ _ (by simp[hl])];simpa [hl] using F
  ·have D:i<S.length:=by omega
   have:=E i (by omega);rw[zae _ _ D] at this;rw[zae _ _ (by simp;omega),List.getElem_append_left D];exact this
theorem zef{α:Type}(z:α)(Q:List Value->α->Prop){tS tE size fuel:Nat}{cs:List Value}{x:DataW H × List MemPlace}(hu:Tryz.prog.underlying tS=some (.slice tE))(hc:Tryz.prog.cellsOf tE=size)(hs:0<size)
  (hE:∀ (n:Nat) (E:List Value) (x' : DataW H × List MemPlace),DataW.trod enc Tryz.prog w base spare held n tE E=some x' -> ∃ y,Q E y) (h:DataW.trod enc Tryz.prog w base spare held fuel tS cs=some x) :
  ∃ a c,∃ S:List α,cs=[.slice a S.length c]/\SlA a S.length c/\∀ i,i<S.length->∃ b o E,a=some ⟨b,o,none⟩/\(∀ j,j<size->w.cell? ⟨b,o+i*size+j,none⟩=E[j]?)/\Q E (S.getD i z):=by
 rcases Go.Deep.open_slice hu h with ⟨rfl,_⟩ |⟨a,len,cap,m,n,D,Pl,rfl,_,hl,hm,a6,_,hx⟩
 ·exact⟨none,0,[],rfl,⟨fun _=>rfl,by simp,by omega⟩,fun i hi=>absurd hi (yw _)⟩
 ·have a8:len<=m:=by rw[a6];split <;> omega
  have M:cap<=9223372036854775807:=by unfold maxLen at hm;omega
  obtain⟨T,U,O⟩:=a;by_cases h0:len=0
  ·subst h0;exact⟨_,cap,[],rfl,⟨(fun e=>by cases e),by simp,M⟩,fun i hi=>absurd hi (yw _)⟩
  ·have a7:O=none:=by
    obtain⟨E,F,ht⟩:=hx 0 (by omega);rw[hc] at F;obtain⟨_,a5,I⟩:=World.cells?_some F;have h1:=I 0 hs;rw[List.getElem?_eq_getElem (by omega)] at h1;simpa [Addr.add] using World.cell?_spot h1
   subst a7
   obtain⟨S,J,Z⟩:=zww z len (fun i y=>∃ E,(∀ j,j<size->w.cell? ⟨T,U+i*size+j,none⟩=E[j]?)/\Q E y) (fun i hi=>by
    obtain⟨E,F,ht⟩:=hx i (by omega);rw[hc] at F;obtain⟨_,a5,I⟩:=World.cells?_some F;obtain⟨y,hy⟩:=hE _ _ _ ht;refine⟨y,E,fun j hj=>?_,hy⟩;have h1:=I j hj
    rwa [add_plain,add_plain] at h1)
   refine⟨some ⟨T,U,none⟩,cap,S,by rw[J],⟨(fun e=>by cases e),by rw[J];exact hl,M⟩,fun i hi=>?_⟩;obtain⟨E,h1,h2⟩:=Z i (by omega);exact⟨T,U,E,rfl,h1,h2⟩
theorem zex:Tryz.prog.cellsOf 65=5/\Tryz.prog.cellsOf 34=1/\Tryz.prog.cellsOf 53=2/\Tryz.prog.cellsOf 51=1/\Tryz.prog.cellsOf 40=2/\Tryz.prog.cellsOf 28=5:=⟨by kernel_rfl,by kernel_rfl,by kernel_rfl,by kernel_rfl,by kernel_rfl,by kernel_rfl⟩
theorem znn{fuel:Nat}{I:List Value}{x:DataW H × List MemPlace}(h:DataW.trod enc Tryz.prog w base spare held fuel 22 I=some x) :
  ∃ a c,∃ S:List Fr,I=[.slice a S.length c]/\SlA a S.length c/\zaS w a S:=by
 obtain⟨a,c,S,e,hs,hx⟩:=zef (⟨0,0,0,0,false⟩:Fr) (fun D y=>D=[.int .i64 y.p,.int .i64 y.o,.int .i64 y.m,.int .i64 y.t,.bool y.g]) Tryz.underlying22 zex.1 (by decide) (fun n D x' ht=>by
  obtain⟨xs,n', _,_,hl,F,E⟩:=DataW.trod_struct Tryz.underlying65 ht;rw[zex.1] at hl
  match D,hl with
  | [a0,a1,a2,a3,a4],_ =>
   match xs,F with
   | [x0,x1,x2,x3,x4],_ =>
    obtain⟨n0,J,_⟩:=DataW.trod_int Tryz.underlying3 (E 0 _ rfl);obtain⟨n1,M,_⟩:=DataW.trod_int Tryz.underlying3 (E 1 _ rfl);obtain⟨n2,O,_⟩:=DataW.trod_int Tryz.underlying3 (E 2 _ rfl);obtain⟨n3,T,_⟩:=DataW.trod_int Tryz.underlying3 (E 3 _ rfl);obtain⟨n4,U,_⟩:=DataW.trod_bool Tryz.underlying4 (E 4 _ rfl)
    cases J;cases M;cases O;cases T;cases U
    exact⟨⟨n0,n1,n2,n3,n4⟩,rfl⟩) h
 refine⟨a,c,S,e,hs,fun i hi=>?_⟩;obtain⟨b,o,D,Z,hc,rfl⟩:=hx i hi;exact⟨b,o,Z,hc 0 (by decide),hc 1 (by decide),hc 2 (by decide),hc 3 (by decide),hc 4 (by decide)⟩
theorem zoQ{fuel:Nat}{J:List Value}{x:DataW H × List MemPlace}(h:DataW.trod enc Tryz.prog w base spare held fuel 51 J=some x) :
  ∃ a c,∃ S:List Ml,J=[.slice a S.length c]/\SlA a S.length c/\zix w a S/\∀ j,j<S.length->(ml S j).g.length<=9223372036854775807/\zkz (ml S j).g:=by
 obtain⟨a,c,S,e,hs,T⟩:=zef zve (fun D y=>∃ ga gc,D=[.int .i64 y.f,.slice ga y.g.length gc]/\zaG w ga y.g/\y.g.length<=9223372036854775807/\zkz y.g) Tryz.underlying51 zex.2.2.1 (by decide) (fun n D x' ht=>by
  obtain⟨xs,n', _,_,hl,F,O⟩:=DataW.trod_struct Tryz.underlying53 ht;rw[zex.2.2.1] at hl
  match D,hl with
  | [a0,a1],_ =>
   match xs,F with
   | [x0,x1],_ =>
    obtain⟨n0,Z,_⟩:=DataW.trod_int Tryz.underlying3 (O 0 _ rfl);obtain⟨_,_,_,_,s2⟩:=trod_struct1 Tryz.underlying47 (O 1 _ rfl);obtain⟨a2,c2,I,e2,n2,U,E⟩:=zhP s2
    cases Z;cases e2
    exact⟨⟨n0,I⟩,a2,c2,rfl,E,n2,U⟩) h
 refine⟨a,c,S,e,hs,fun i hi=>?_,fun i hi=>?_⟩
 ·obtain⟨b,o,D,M,hc,ga,gc,rfl,h1,_⟩:=T i hi;exact⟨b,o,ga,gc,M,hc 0 (by decide),hc 1 (by decide),h1⟩
 ·obtain⟨b,o,D,M,hc,ga,gc,rfl,_,E⟩:=T i hi;exact E
theorem znp{fuel:Nat}{I:List Value}{x:DataW H × List MemPlace}(h:DataW.trod enc Tryz.prog w base spare held fuel 25 I=some x) :
  ∃ a c,∃ S:List (List Ml),I=[.slice a S.length c]/\SlA a S.length c/\znR w a S/\∀ i,i<S.length->(qu S i).length<=9223372036854775807/\∀ j,j<(qu S i).length->(ml (qu S i) j).g.length<=9223372036854775807/\zkz (ml (qu S i) j).g:=by
 obtain⟨a,c,S,e,hs,M⟩:=zef ([]:List Ml) (fun D y=>∃ qa qc,D=[.slice qa y.length qc]/\SlA qa y.length qc/\zix w qa y/\∀ j,j<y.length->(ml y j).g.length<=9223372036854775807/\zkz (ml y j).g) Tryz.underlying25 zex.2.2.2.1 (by decide) (fun n D U T=>by
  obtain⟨qa,qc,q,O,h1,E,F⟩:=zoQ T;exact⟨q,qa,qc,O,h1,E,F⟩) h
 refine⟨a,c,S,e,hs,fun i hi=>?_,fun i hi=>?_⟩
 ·obtain⟨b,o,D,J,hc,qa,qc,rfl,h1,E,_⟩:=M i hi;have h0:=hc 0 (by decide);rw[Nat.mul_one,Nat.add_zero] at h0;exact⟨b,o,qa,qc,J,h0,h1,E⟩
 ·obtain⟨b,o,D,J,hc,qa,qc,rfl,h1,_,F⟩:=M i hi;exact⟨yE h1.2.1 h1.2.2,F⟩
theorem zoU{fuel:Nat}{E:List Value}{x:DataW H × List MemPlace}(h:DataW.trod enc Tryz.prog w base spare held fuel 24 E=some x) :
  ∃ a c,∃ S:List (List Ac),E=[.slice a S.length c]/\SlA a S.length c/\znQ w a S/\∀ i,i<S.length->(pg S i).length<=9223372036854775807:=by
 obtain⟨a,c,S,e,hs,J⟩:=zef ([]:List Ac) (fun D y=>∃ qa qc,D=[.slice qa y.length qc]/\y.length<=9223372036854775807/\zcO w qa y) Tryz.underlying24 zex.2.1 (by decide) (fun n D U T=>by
  obtain⟨qa,qc,q,M,h1,I,O⟩:=zrq T;exact⟨q,qa,qc,M,by omega,O⟩) h
 refine⟨a,c,S,e,hs,fun i hi=>?_,fun i hi=>?_⟩
 ·obtain⟨b,o,D,F,hc,qa,qc,rfl,h1,I⟩:=J i hi;have h0:=hc 0 (by decide);rw[Nat.mul_one,Nat.add_zero] at h0;exact⟨b,o,qa,qc,F,h0,I⟩
 ·obtain⟨b,o,D,F,hc,qa,qc,rfl,h1,_⟩:=J i hi;exact h1
theorem znq{fuel:Nat}{F:List Value}{x:DataW H × List MemPlace}(h:DataW.trod enc Tryz.prog w base spare held fuel 23 F=some x) :
  ∃ a c,∃ S:List Rl,F=[.slice a S.length c]/\SlA a S.length c/\znS w a S/\∀ i,i<S.length->zsb (rl S i):=by
 obtain⟨a,c,S,e,hs,J⟩:=zef zbK (fun D R=>∃ A:RA,D=[.slice A.a0 R.s.length A.c0,.slice A.a1 R.hs.length A.c1,.slice A.a2 R.i.length A.c2,.slice A.a3 R.t.length A.c3]/\zsb R/\zcp w A R) Tryz.underlying23 zjc (by decide) (fun n D T O=>by
  obtain⟨A,R,M,h1,E⟩:=zoV O;exact⟨R,A,M,h1,E⟩) h
 refine⟨a,c,S,e,hs,fun i hi=>?_,fun i hi=>?_⟩
 ·obtain⟨b,o,D,I,hc,A,rfl,h1,E⟩:=J i hi;exact⟨b,o,A,I,hc 0 (by decide),hc 1 (by decide),hc 2 (by decide),hc 3 (by decide),E⟩
 ·obtain⟨b,o,D,I,hc,A,rfl,h1,_⟩:=J i hi;exact h1
theorem zoS{fuel:Nat}{F:List Value}{x:DataW H × List MemPlace}(h:DataW.trod enc Tryz.prog w base spare held fuel 71 F=some x) :
  ∃ a c,∃ S:List (Int × Bool),F=[.slice a S.length c]/\SlA a S.length c/\zdG w a S:=by
 obtain⟨a,c,S,e,hs,U⟩:=zef ((0,false):Int × Bool) (fun D y=>D=[.int .i64 y.1,.bool y.2]) Tryz.underlying71 zex.2.2.2.2.1 (by decide) (fun n D x' T=>by
  obtain⟨xs,n', _,_,hl,E,I⟩:=DataW.trod_struct Tryz.underlying40 T;rw[zex.2.2.2.2.1] at hl
  match D,hl with
  | [a0,a1],_ =>
   match xs,E with
   | [x0,x1],_ =>
    obtain⟨Z,J,_⟩:=DataW.trod_int Tryz.underlying3 (I 0 _ rfl);obtain⟨n1,M,_⟩:=DataW.trod_bool Tryz.underlying4 (I 1 _ rfl)
    cases J;cases M
    exact⟨(Z,n1),rfl⟩) h
 refine⟨a,c,S,e,hs,fun i hi=>?_⟩;obtain⟨b,o,D,O,hc,rfl⟩:=U i hi;exact⟨b,o,O,hc 0 (by decide),hc 1 (by decide)⟩
theorem zoW{fuel:Nat}{E:List Value}{x:DataW H × List MemPlace}(h:DataW.trod enc Tryz.prog w base spare held fuel 28 E=some x) :
  ∃ (A:WA) (W:Wl),E=[.slice A.a0 W.fs.length A.c0,.slice A.a1 W.rs.length A.c1,.slice A.a2 W.ps.length A.c2,.slice A.a3 W.qs.length A.c3,.slice A.a4 W.pt.length A.c4]/\zsc W/\WlC A W/\zic w A W:=by
 obtain⟨xs,n,_,_,hl,F,D⟩:=DataW.trod_struct Tryz.underlying28 h;rw[zex.2.2.2.2.2] at hl
 match E,hl with
 | [v0,v1,v2,v3,v4],_ =>
  match xs,F with
  | [x0,x1,x2,x3,x4],_ =>
   obtain⟨a0,c0,I,T,s0,h0⟩:=znn (D 0 _ rfl);obtain⟨a1,c1,J,U,s1,h1,g1⟩:=znq (D 1 _ rfl);obtain⟨a2,c2,M,Z,s2,h2,g2⟩:=zoU (D 2 _ rfl);obtain⟨a3,c3,O,e3,s3,h3,g3⟩:=znp (D 3 _ rfl);obtain⟨a4,c4,S4,e4,n4,g4,s4,h4⟩:=zoT (D 4 _ rfl)
   cases T;cases U;cases Z;cases e3;cases e4
   exact⟨⟨a0,a1,a2,a3,a4,c0,c1,c2,c3,c4⟩,⟨I,J,M,O,S4⟩,rfl,⟨yE s0.2.1 s0.2.2,⟨yE s1.2.1 s1.2.2,g1⟩,⟨yE s2.2.1 s2.2.2,g2⟩,⟨yE s3.2.1 s3.2.2,g3⟩,n4,g4⟩,⟨s0,s1,s2,s3,s4⟩,⟨h0,h1,h2,h3,h4⟩⟩
theorem zrv{r:Reach}{E:Nat}{v:Value}{d:DataW H}{p:List MemPlace}(U:Value.okWide Tryz.prog w r E 28 v)(h:DataW.Trod enc Tryz.prog w base spare held 28 v d p) :
  ∃ (A:WA) (W:Wl),v=wlV A W/\zsc W/\WlC A W/\zic w A W:=by
 obtain⟨D,rfl,T⟩:=okWide_struct Tryz.underlying28 U;obtain⟨fuel,O⟩:=h;obtain⟨A,R,e,I,J,M⟩:=zoW O;refine⟨A,R,?_,I,J,M⟩;have F:D.toList=_:=e;rw[show D=D.toList.toArray from by simp,F]
theorem zrt{r:Reach}{D:Nat}{v:Value}{d:DataW H}{p:List MemPlace}(I:Value.okWide Tryz.prog w r D 71 v)(h:DataW.Trod enc Tryz.prog w base spare held 71 v d p) :
  ∃ a c,∃ S:List (Int × Bool),v=.slice a S.length c/\SlA a S.length c/\zdG w a S:=by
 obtain⟨J,len,cap,rfl⟩:=okWide_slice Tryz.underlying71 I;obtain⟨fuel,F⟩:=h;obtain⟨ka,kc,ks,e,h1,E⟩:=zoS F;simp[Value.cells] at e;obtain⟨rfl,rfl,rfl⟩:=e;exact⟨_,_,ks,rfl,h1,E⟩
end Go.Proofs.YtcbcpomacdngmaaGreat
