/-
  x
-/
import Derived.Test.YtcbcpomacdngmaaGreatS47
import Derived.ProofKit
import Derived.OpenShut
import Derived.ChangeOld
import Derived.Below
import Derived.Deep.Slices
import Derived.Lib.SmallJoins
namespace Go.Proofs.YtcbcpomacdngmaaGreat
set_option maxRecDepth 100000
set_option maxHeartbeats 4000000
set_option linter.unusedVariables false
open Go.RowKit Go.ChangeShapes Go.WideShapes Go.ChangeAt
theorem zwY:zhr:=fun X A W O T L w M D E J F hl I=>zwZ X A W O T L w M D E J F hl I
variable {H:Type} {enc:TypeId × Value->H} {w:World} {base:Nat} {spare:Nat->Bool} {held:Bool}
theorem zsA:Tryz.prog.cellsOf 3=1:=by kernel_rfl
theorem zhu:Tryz.prog.cellsOf 55=2:=by kernel_rfl
theorem ziV:Tryz.prog.cellsOf 47=1:=by kernel_rfl
theorem zkR{fuel:Nat}{I:List Value}{x:DataW H × List MemPlace}(h:DataW.trod enc Tryz.prog w base spare held fuel 48 I=some x) :
  ∃ ka kc,∃ ks:List Int,I=[.slice ka ks.length kc]/\ks.length<=kc/\kc<=9223372036854775807/\zaj w ka ks:=by
 rcases open_ints Tryz.underlying48 Tryz.underlying3 zsA h with ⟨rfl,_⟩ |⟨a,len,cap,F,rfl,_,hl,M,O,_,D,_⟩
 ·exact⟨none,0,[],rfl,by simp,by omega,fun i hi=>absurd hi (yx _)⟩
 ·have J:len<=F.length:=by rw[O];split <;> omega
  have E:(F.take len).length=len:=by rw[List.length_take];omega
  refine⟨some a,cap,F.take len,by rw[E],by rw[E];exact hl,by unfold maxLen at M;omega,fun i hi=>?_⟩;rw[E] at hi;obtain⟨b,off,rfl,hc⟩:=ints_at D (by omega);refine⟨b,off,rfl,?_⟩;rw[hc i (by omega),zae F 0 (by omega),zae (F.take len) 0 (by omega),List.getElem_take]
theorem zua{fuel b o:Nat}{D:List Value}{x:DataW H × List MemPlace}(h:DataW.trod enc Tryz.prog w base spare held fuel 55 D=some x)(hc:∀ j,j<2->w.cell? ⟨b,o+j,none⟩=D[j]?) :
  ∃ y:Cl,zzf w b o y/\y.ks.length<=9223372036854775807:=by
 obtain⟨xs,n,_,_,hl,E,F⟩:=DataW.trod_struct Tryz.underlying55 h;rw[zhu] at hl
 match D,hl with
 | [a0,a1],_ =>
  match xs,E with
  | [x0,x1],_ =>
   have M:=F 0 _ rfl;have g1:=F 1 _ rfl;obtain⟨Z,I,_⟩:=DataW.trod_int Tryz.underlying3 M;obtain⟨ka,kc,ks,J,T,U,O⟩:=zkR g1
   cases I;cases J
   exact⟨⟨Z,ks⟩,⟨hc 0 (by omega),ka,kc,hc 1 (by omega),O⟩,by show ks.length<=_;omega⟩
theorem zwz(len:Nat)(P:Nat->Cl->Prop)(h:∀ i,i<len->∃ x,P i x):∃ S:List Cl,S.length=len/\∀ i,i<len->P i (cl S i):=by
 induction len with
 | zero=>exact⟨[],rfl,fun i hi=>absurd hi (yx _)⟩
 | succ n I =>
  obtain⟨S,hl,E⟩:=I (fun i hi=>h i (by omega));obtain⟨x,F⟩:=h n (by omega);refine⟨S++[x],by simp[hl],fun i hi=>?_⟩;by_cases e:i=n
  ·subst e;rw[zcs (by simp[hl])];simpa [hl] using F
  ·have D:i<S.length:=(by omega);have:=E i (by omega);rw[zcs D] at this;rw[zcs (by simp;omega),List.getElem_append_left D];exact this
theorem zhI{fuel:Nat}{cs:List Value}{x:DataW H × List MemPlace}(h:DataW.trod enc Tryz.prog w base spare held fuel 45 cs=some x) :
  ∃ a c,∃ S:List Cl,cs=[.slice a S.length c]/\S.length<=9223372036854775807/\zjV S/\zaI w a S:=by
 rcases Go.Deep.open_slice Tryz.underlying45 h with ⟨rfl,_⟩ |⟨a,len,cap,m,n,D,Pl,rfl,_,hl,hm,Z,_,hx⟩
 ·exact⟨none,0,[],rfl,by simp,fun i hi=>absurd hi (yx _),fun i hi=>absurd hi (yx _)⟩
 ·have a6:len<=m:=by rw[Z];split <;> omega
  obtain⟨M,O,J⟩:=a;by_cases h0:len=0
  ·subst h0;exact⟨_,cap,[],rfl,by simp,fun i hi=>absurd hi (yx _),fun i hi=>absurd hi (yx _)⟩
  ·have a5:J=none:=by
    obtain⟨T,hc,ht⟩:=hx 0 (by omega);rw[zhu] at hc;obtain⟨_,U,E⟩:=World.cells?_some hc;have h1:=E 0 (by omega);rw[List.getElem?_eq_getElem (by omega)] at h1;simpa [Addr.add] using World.cell?_spot h1
   subst a5
   obtain⟨S,F,I⟩:=zwz len (fun i x=>zzf w M (O+i*2) x/\x.ks.length<=9223372036854775807) (fun i hi=>by
    obtain⟨T,hc,ht⟩:=hx i (by omega);rw[zhu] at hc;obtain⟨_,U,E⟩:=World.cells?_some hc;refine zua ht (fun j hj=>?_);have h1:=E j hj
    rwa [add_plain,add_plain] at h1)
   exact⟨some ⟨M,O,none⟩,cap,S,by rw[F],by rw[F];unfold maxLen at hm;omega,fun i hi=>(I i (by omega)).2,fun i hi=>⟨M,O,rfl,(I i (by omega)).1⟩⟩
variable {H:Type} {enc:TypeId × Value->H} {w:World} {base:Nat} {spare:Nat->Bool} {held:Bool}
theorem zyc:Tryz.prog.cellsOf 3=1:=by kernel_rfl
theorem zln:Tryz.prog.cellsOf 57=8:=by kernel_rfl
theorem zrl{fuel:Nat}{I:List Value}{x:DataW H × List MemPlace}(h:DataW.trod enc Tryz.prog w base spare held fuel 48 I=some x) :
  ∃ ka kc,∃ ks:List Int,I=[.slice ka ks.length kc]/\ks.length<=9223372036854775807/\zaj w ka ks:=by
 rcases open_ints Tryz.underlying48 Tryz.underlying3 zyc h with ⟨rfl,_⟩ |⟨a,len,cap,F,rfl,_,hl,M,O,_,D,_⟩
 ·exact⟨none,0,[],rfl,by simp,fun i hi=>absurd hi (yx _)⟩
 ·have J:len<=F.length:=by rw[O];split <;> omega
  have E:(F.take len).length=len:=by rw[List.length_take];omega
  refine⟨some a,cap,F.take len,by rw[E],by rw[E];unfold maxLen at M;omega,fun i hi=>?_⟩;rw[E] at hi;obtain⟨b,off,rfl,hc⟩:=ints_at D (by omega);refine⟨b,off,rfl,?_⟩;rw[hc i (by omega),zae F 0 (by omega),zae (F.take len) 0 (by omega),List.getElem_take]
theorem zrm{fuel b o:Nat}{E:List Value}{x:DataW H × List MemPlace}(h:DataW.trod enc Tryz.prog w base spare held fuel 57 E=some x)(hc:∀ j,j<8->w.cell? ⟨b,o+j,none⟩=E[j]?) :
  ∃ nd:Nd,zvh w b o nd/\nd.ks.length<=9223372036854775807:=by
 obtain⟨xs,n,_,_,hl,I,D⟩:=DataW.trod_struct Tryz.underlying57 h;rw[zln] at hl
 match E,hl with
 | [a0,a1,a2,a3,a4,a5,a6,a7],_ =>
  match xs,I with
  | [x0,x1,x2,x3,x4,x5,x6,x7],_ =>
   have g0:=D 0 _ rfl;have g1:=D 1 _ rfl;have g2:=D 2 _ rfl;have g3:=D 3 _ rfl;have g4:=D 4 _ rfl;have g5:=D 5 _ rfl;have g6:=D 6 _ rfl;have g7:=D 7 _ rfl;obtain⟨u,J,_⟩:=DataW.trod_bool Tryz.underlying4 g0;obtain⟨n1,M,_⟩:=DataW.trod_int Tryz.underlying3 g1;obtain⟨n2,O,_⟩:=DataW.trod_int Tryz.underlying3 g2;obtain⟨n3,T,_⟩:=DataW.trod_int Tryz.underlying3 g3;obtain⟨n4,U,_⟩:=DataW.trod_int Tryz.underlying3 g4;obtain⟨ka,kc,ks,Z,F,hI⟩:=zrl g5;obtain⟨n6,e6,_⟩:=DataW.trod_int Tryz.underlying3 g6;obtain⟨u7,e7,_⟩:=DataW.trod_bool Tryz.underlying4 g7
   cases J;cases M;cases O;cases T;cases U;cases Z;cases e6;cases e7
   refine⟨⟨u,n1,n2,n3,n4,ks,n6,u7⟩,⟨?_,?_,?_,?_,?_,⟨ka,kc,?_,hI⟩,?_,?_⟩,F⟩
   ·exact hc 0 (by omega)
   ·exact hc 1 (by omega)
   ·exact hc 2 (by omega)
   ·exact hc 3 (by omega)
   ·exact hc 4 (by omega)
   ·exact hc 5 (by omega)
   ·exact hc 6 (by omega)
   ·exact hc 7 (by omega)
theorem zwA(len:Nat)(P:Nat->Nd->Prop)(h:∀ i,i<len->∃ x,P i x):∃ S:List Nd,S.length=len/\∀ i,i<len->P i (nd S i):=by
 induction len with
 | zero=>exact⟨[],rfl,fun i hi=>absurd hi (yx _)⟩
 | succ n I =>
  obtain⟨S,hl,E⟩:=I (fun i hi=>h i (by omega));obtain⟨x,F⟩:=h n (by omega);refine⟨S++[x],by simp[hl],fun i hi=>?_⟩;by_cases e:i=n
  ·subst e;rw[zbf (by simp[hl])];simpa [hl] using F
  ·have D:i<S.length:=(by omega);have:=E i (by omega);rw[zbf D] at this;rw[zbf (by simp;omega),List.getElem_append_left D];exact this
theorem zoL{fuel:Nat}{cs:List Value}{x:DataW H × List MemPlace}(h:DataW.trod enc Tryz.prog w base spare held fuel 41 cs=some x) :
  ∃ a c,∃ S:List Nd,cs=[.slice a S.length c]/\S.length<=9223372036854775807/\Big S/\zai w a S:=by
 rcases Go.Deep.open_slice Tryz.underlying41 h with ⟨rfl,_⟩ |⟨a,len,cap,m,n,D,Pl,rfl,_,hl,hm,Z,_,hx⟩
 ·exact⟨none,0,[],rfl,by simp,fun i hi=>absurd hi (yx _),fun i hi=>absurd hi (yx _)⟩
 ·have a6:len<=m:=by rw[Z];split <;> omega
  obtain⟨M,O,J⟩:=a;by_cases h0:len=0
  ·subst h0;exact⟨_,cap,[],rfl,by simp,fun i hi=>absurd hi (yx _),fun i hi=>absurd hi (yx _)⟩
  ·have a5:J=none:=by
    obtain⟨T,hc,ht⟩:=hx 0 (by omega);rw[zln] at hc;obtain⟨_,U,E⟩:=World.cells?_some hc;have h1:=E 0 (by omega);rw[List.getElem?_eq_getElem (by omega)] at h1;simpa [Addr.add] using World.cell?_spot h1
   subst a5
   obtain⟨S,F,I⟩:=zwA len (fun i x=>zvh w M (O+i*8) x/\x.ks.length<=9223372036854775807) (fun i hi=>by
    obtain⟨T,hc,ht⟩:=hx i (by omega);rw[zln] at hc;obtain⟨_,U,E⟩:=World.cells?_some hc;refine zrm ht (fun j hj=>?_);have h1:=E j hj
    rwa [add_plain,add_plain] at h1)
   exact⟨some ⟨M,O,none⟩,cap,S,by rw[F],by rw[F];unfold maxLen at hm;omega,fun i hi=>(I i (by omega)).2,fun i hi=>⟨M,O,rfl,(I i (by omega)).1⟩⟩
theorem zkz:Tryz.prog.cellsOf 61=2:=by kernel_rfl
theorem ztn(len:Nat)(P:Nat->Int × Int->Prop)(h:∀ i,i<len->∃ x,P i x):∃ S:List (Int × Int),S.length=len/\∀ i,i<len->P i (S.getD i (0,0)):=by
 induction len with
 | zero=>exact⟨[],rfl,fun i hi=>absurd hi (yx _)⟩
 | succ n I =>
  obtain⟨S,hl,E⟩:=I (fun i hi=>h i (by omega));obtain⟨x,F⟩:=h n (by omega);refine⟨S++[x],by simp[hl],fun i hi=>?_⟩;by_cases e:i=n
  ·subst e;rw[zae _ _ (by simp[hl])];simpa [hl] using F
  ·have D:i<S.length:=(by omega);have:=E i (by omega);rw[zae _ _ D] at this;rw[zae _ _ (by simp;omega),List.getElem_append_left D];exact this
theorem ziW:Tryz.prog.cellsOf 50=4:=by kernel_rfl
theorem ziU:Tryz.prog.cellsOf 36=5:=by kernel_rfl
theorem zoJ{fuel:Nat}{cs:List Value}{x:DataW H × List MemPlace}(h:DataW.trod enc Tryz.prog w base spare held fuel 44 cs=some x) :
  ∃ a c,∃ S:List (Int × Int),cs=[.slice a S.length c]/\S.length<=9223372036854775807/\zas w a S:=by
 rcases Go.Deep.open_slice Tryz.underlying44 h with ⟨rfl,_⟩ |⟨a,len,cap,m,n,D,Pl,rfl,_,hl,hm,a5,_,hx⟩
 ·exact⟨none,0,[],rfl,by simp,fun i hi=>absurd hi (yx _)⟩
 ·have b0:len<=m:=by rw[a5];split <;> omega
  obtain⟨T,U,O⟩:=a;by_cases h0:len=0
  ·subst h0;exact⟨_,cap,[],rfl,by simp,fun i hi=>absurd hi (yx _)⟩
  ·have a6:O=none:=by
    obtain⟨F,hc,ht⟩:=hx 0 (by omega);rw[zkz] at hc;obtain⟨_,a9,E⟩:=World.cells?_some hc;have h1:=E 0 (by omega);rw[List.getElem?_eq_getElem (by omega)] at h1;simpa [Addr.add] using World.cell?_spot h1
   subst a6
   obtain⟨S,I,J⟩:=ztn len (fun i x=>w.cell? ⟨T,U+i*2,none⟩=some (.int .i64 x.1)/\w.cell? ⟨T,U+i*2+1,none⟩=some (.int .i64 x.2)) (fun i hi=>by
    obtain⟨F,hc,ht⟩:=hx i (by omega);rw[zkz] at hc;obtain⟨_,Z,E⟩:=World.cells?_some hc;obtain⟨xs,n', _,_,a8,a7,M⟩:=DataW.trod_struct Tryz.underlying61 ht
    match F,Z with
    | [a0,a1],_ =>
     match xs,a7 with
     | [x0,x1],_ =>
      have g0:=M 0 _ rfl;have g1:=M 1 _ rfl;obtain⟨n0,e0,_⟩:=DataW.trod_int Tryz.underlying3 g0;obtain⟨n1,e1,_⟩:=DataW.trod_int Tryz.underlying3 g1
      cases e0;cases e1
      refine⟨(n0,n1),?_,?_⟩
      ·have h1:=E 0 (by omega)
       rwa [add_plain,add_plain] at h1
      ·have h1:=E 1 (by omega)
       rwa [add_plain,add_plain] at h1)
   exact⟨some ⟨T,U,none⟩,cap,S,by rw[I],by rw[I];unfold maxLen at hm;omega,fun i hi=>⟨T,U,rfl,(J i (by omega)).1,(J i (by omega)).2⟩⟩
theorem zwy(len:Nat)(P:Nat->Ac->Prop)(h:∀ i,i<len->∃ x,P i x):∃ S:List Ac,S.length=len/\∀ i,i<len->P i (ac S i):=by
 induction len with
 | zero=>exact⟨[],rfl,fun i hi=>absurd hi (yx _)⟩
 | succ n I =>
  obtain⟨S,hl,E⟩:=I (fun i hi=>h i (by omega));obtain⟨x,F⟩:=h n (by omega);refine⟨S++[x],by simp[hl],fun i hi=>?_⟩;unfold ac;by_cases e:i=n
  ·subst e;rw[zae _ _ (by simp[hl])];simpa [hl] using F
  ·have D:i<S.length:=(by omega);have:=E i (by omega);unfold ac at this;rw[zae _ _ D] at this;rw[zae _ _ (by simp;omega),List.getElem_append_left D];exact this
theorem ztY{fuel:Nat}{E:List Value}{x:DataW H × List MemPlace}(h:DataW.trod enc Tryz.prog w base spare held fuel 36 E=some x) :
  ∃ y:Ac,E=[.int .i64 y.k,.int .i64 y.a,.int .i64 y.b,.int .i64 y.c,.int .i64 y.n]:=by
 obtain⟨xs,n,_,_,hl,F,D⟩:=DataW.trod_struct Tryz.underlying36 h;rw[ziU] at hl
 match E,hl with
 | [a0,a1,a2,a3,a4],_ =>
  match xs,F with
  | [x0,x1,x2,x3,x4],_ =>
   obtain⟨U,I,_⟩:=DataW.trod_int Tryz.underlying3 (D 0 _ rfl);obtain⟨Z,J,_⟩:=DataW.trod_int Tryz.underlying3 (D 1 _ rfl);obtain⟨n2,M,_⟩:=DataW.trod_int Tryz.underlying3 (D 2 _ rfl);obtain⟨n3,O,_⟩:=DataW.trod_int Tryz.underlying3 (D 3 _ rfl);obtain⟨n4,T,_⟩:=DataW.trod_int Tryz.underlying3 (D 4 _ rfl)
   cases I;cases J;cases M;cases O;cases T
   exact⟨⟨U,Z,n2,n3,n4⟩,rfl⟩
theorem zrk{fuel:Nat}{cs:List Value}{x:DataW H × List MemPlace}(h:DataW.trod enc Tryz.prog w base spare held fuel 34 cs=some x) :
  ∃ a c,∃ S:List Ac,cs=[.slice a S.length c]/\S.length<=c/\c<=9223372036854775807/\zbX w a S:=by
 rcases Go.Deep.open_slice Tryz.underlying34 h with ⟨rfl,_⟩ |⟨a,len,cap,m,n,D,Pl,rfl,_,hl,hm,a5,_,hx⟩
 ·exact⟨none,0,[],rfl,by simp,by omega,fun i hi=>absurd hi (yx _)⟩
 ·have a7:len<=m:=by rw[a5];split <;> omega
  have M:cap<=9223372036854775807:=by unfold maxLen at hm;omega
  obtain⟨F,I,O⟩:=a;by_cases h0:len=0
  ·subst h0;exact⟨_,cap,[],rfl,by simp,M,fun i hi=>absurd hi (yx _)⟩
  ·have a6:O=none:=by
    obtain⟨T,hc,ht⟩:=hx 0 (by omega);rw[ziU] at hc;obtain⟨_,Z,E⟩:=World.cells?_some hc;have h1:=E 0 (by omega);rw[List.getElem?_eq_getElem (by omega)] at h1;simpa [Addr.add] using World.cell?_spot h1
   subst a6
   obtain⟨S,J,U⟩:=zwy len (fun i x=>w.cell? ⟨F,I+i*5,none⟩=some (.int .i64 x.k)/\w.cell? ⟨F,I+i*5+1,none⟩=some (.int .i64 x.a)/\w.cell? ⟨F,I+i*5+2,none⟩=some (.int .i64 x.b)/\w.cell? ⟨F,I+i*5+3,none⟩=some (.int .i64 x.c)/\w.cell? ⟨F,I+i*5+4,none⟩=some (.int .i64 x.n)) (fun i hi=>by
    obtain⟨T,hc,ht⟩:=hx i (by omega);rw[ziU] at hc;obtain⟨_,Z,E⟩:=World.cells?_some hc;obtain⟨y,e⟩:=ztY ht;subst e;have k0:=E 0 (by omega);have k1:=E 1 (by omega);have k2:=E 2 (by omega);have k3:=E 3 (by omega);have k4:=E 4 (by omega);rw[add_plain,add_plain] at k0 k1 k2 k3 k4;exact⟨y,k0,k1,k2,k3,k4⟩)
   exact⟨some ⟨F,I,none⟩,cap,S,by rw[J],by rw[J];exact hl,M,fun i hi=>⟨F,I,rfl,U i (by omega)⟩⟩
theorem zoP{fuel:Nat}{E:List Value}{x:DataW H × List MemPlace}(h:DataW.trod enc Tryz.prog w base spare held fuel 50 E=some x) :
  ∃ (A:RA) (R:Rl),E=[.slice A.a0 R.s.length A.c0,.slice A.a1 R.hs.length A.c1,.slice A.a2 R.i.length A.c2,.slice A.a3 R.t.length A.c3]/\zvf R/\zcZ w A R:=by
 obtain⟨xs,n,_,_,hl,F,D⟩:=DataW.trod_struct Tryz.underlying50 h;rw[ziW] at hl
 match E,hl with
 | [v0,v1,v2,v3],_ =>
  match xs,F with
  | [x0,x1,x2,x3],_ =>
   have g0:=D 0 _ rfl;have g1:=D 1 _ rfl;have g2:=D 2 _ rfl;have g3:=D 3 _ rfl;obtain⟨_,_,_,_,s0⟩:=trod_struct1 Tryz.underlying43 g0;obtain⟨_,_,_,_,s2⟩:=trod_struct1 Tryz.underlying47 g2;obtain⟨a0,c0,S,U,n0,M,h0⟩:=zoL s0;obtain⟨a1,c1,J,Z,n1,h1⟩:=zoJ g1;obtain⟨a2,c2,I,e2,n2,T,h2⟩:=zhI s2;obtain⟨a3,c3,O,e3,n3,m3,h3⟩:=zkR g3
   cases U;cases Z;cases e2;cases e3
   exact⟨⟨a0,a1,a2,a3,c0,c1,c2,c3⟩,⟨S,J,I,O⟩,rfl,⟨n0,M,n1,n2,T,by show O.length<=_;omega⟩,h0,h1,h2,h3⟩
variable {H:Type} {enc:TypeId × Value->H} {w:World} {base:Nat} {spare:Nat->Bool} {held:Bool}
theorem zhv:Tryz.prog.cellsOf 121=5:=by kernel_rfl
theorem zwB(len:Nat)(P:Nat->List Cl->Prop)(h:∀ i,i<len->∃ x,P i x):∃ S:List (List Cl),S.length=len/\∀ i,i<len->P i (gr S i):=by
 induction len with
 | zero=>exact⟨[],rfl,fun i hi=>absurd hi (yx _)⟩
 | succ n F =>
  obtain⟨S,hl,D⟩:=F (fun i hi=>h i (by omega));obtain⟨x,E⟩:=h n (by omega);refine⟨S++[x],by simp[hl],fun i hi=>?_⟩;by_cases e:i=n
  ·subst e;rw[<- hl,zol];rw[hl];exact E
  ·rw[zom (by omega)];exact D i (by omega)
theorem zwC(len:Nat)(P:Nat->Pt->Prop)(h:∀ i,i<len->∃ x,P i x):∃ S:List Pt,S.length=len/\∀ i,i<len->P i (pt S i):=by
 induction len with
 | zero=>exact⟨[],rfl,fun i hi=>absurd hi (yx _)⟩
 | succ n F =>
  obtain⟨S,hl,D⟩:=F (fun i hi=>h i (by omega));obtain⟨x,E⟩:=h n (by omega);refine⟨S++[x],by simp[hl],fun i hi=>?_⟩;by_cases e:i=n
  ·subst e;rw[<- hl,zur];rw[hl];exact E
  ·rw[zlR (by omega)];exact D i (by omega)
theorem zni{fuel:Nat}{cs:List Value}{x:DataW H × List MemPlace}(h:DataW.trod enc Tryz.prog w base spare held fuel 119 cs=some x) :
  ∃ a c,∃ S:List (List Cl),cs=[.slice a S.length c]/\S.length<=9223372036854775807/\zvk S/\zzj w a c S:=by
 rcases Go.Deep.open_slice Tryz.underlying119 h with ⟨rfl,_⟩ |⟨a,len,cap,m,n,D,Pl,rfl,_,hl,hm,a6,_,hx⟩
 ·exact⟨none,0,[],rfl,by simp,fun i hi=>absurd hi (yx _),⟨fun _=>rfl,by simp,by omega⟩,fun i hi=>absurd hi (yx _)⟩
 ·have a8:len<=m:=by rw[a6];split <;> omega
  have O:cap<=9223372036854775807:=by unfold maxLen at hm;omega
  obtain⟨U,Z,T⟩:=a;by_cases h0:len=0
  ·subst h0;exact⟨_,cap,[],rfl,by simp,fun i hi=>absurd hi (yx _),⟨(fun e=>by cases e),by simp,O⟩,fun i hi=>absurd hi (yx _)⟩
  ·have a7:T=none:=by
    obtain⟨I,hc,ht⟩:=hx 0 (by omega);rw[ziV] at hc;obtain⟨_,M,F⟩:=World.cells?_some hc;have h1:=F 0 (by omega);rw[List.getElem?_eq_getElem (by omega)] at h1;simpa [Addr.add] using World.cell?_spot h1
   subst a7
   obtain⟨S,E,J⟩:=zwB len (fun i x=>(∃ ga gc,w.cell? ⟨U,Z+i,none⟩=some (.slice ga x.length gc)/\zaI w ga x)/\x.length<=9223372036854775807/\zjV x) (fun i hi=>by
    obtain⟨I,hc,ht⟩:=hx i (by omega);rw[ziV] at hc;obtain⟨_,M,F⟩:=World.cells?_some hc
    match I,M with
    | [a0],_ =>
     obtain⟨y0,n', _,_,g0⟩:=trod_struct1 Tryz.underlying47 ht;obtain⟨ga,gc,G,e,h1,h2,h3⟩:=zhI g0;cases e;refine⟨G,⟨ga,gc,?_,h3⟩,h1,h2⟩;have h4:=F 0 (by omega);rw[add_plain,add_plain,Nat.mul_one,Nat.add_zero] at h4;exact h4)
   exact⟨some ⟨U,Z,none⟩,cap,S,by rw[E],by rw[E];omega,fun i hi=>(J i (by omega)).2,⟨(fun e=>by cases e),by rw[E];exact hl,O⟩,fun i hi=>by
    obtain⟨ga,gc,c0,a5⟩:=(J i (by omega)).1;exact⟨U,Z,ga,gc,rfl,c0,a5⟩⟩
theorem zro{fuel b o:Nat}{E:List Value}{x:DataW H × List MemPlace}(h:DataW.trod enc Tryz.prog w base spare held fuel 121 E=some x)(hc:∀ j,j<5->w.cell? ⟨b,o+j,none⟩=E[j]?) :
  ∃ y:Pt,zzl w b o y/\y.cm.length<=9223372036854775807/\zvk y.cm:=by
 obtain⟨xs,n,_,_,hl,J,D⟩:=DataW.trod_struct Tryz.underlying121 h;rw[zhv] at hl
 match E,hl with
 | [a0,a1,a2,a3,a4],_ =>
  match xs,J with
  | [x0,x1,x2,x3,x4],_ =>
   have g0:=D 0 _ rfl;have g1:=D 1 _ rfl;have g2:=D 2 _ rfl;have g3:=D 3 _ rfl;have g4:=D 4 _ rfl;obtain⟨n0,T,_⟩:=DataW.trod_int Tryz.underlying3 g0;obtain⟨n1,U,_⟩:=DataW.trod_int Tryz.underlying3 g1;obtain⟨n2,Z,_⟩:=DataW.trod_int Tryz.underlying3 g2;obtain⟨M,O,C,e3,F,I,hI⟩:=zni g3;obtain⟨n4,e4,_⟩:=DataW.trod_bool Tryz.underlying4 g4
   cases T;cases U;cases Z;cases e3;cases e4
   exact⟨⟨n0,n1,n2,C,n4⟩,⟨hc 0 (by omega),hc 1 (by omega),hc 2 (by omega),M,O,hc 3 (by omega),hI,hc 4 (by omega)⟩,F,I⟩
theorem zoN{fuel:Nat}{cs:List Value}{x:DataW H × List MemPlace}(h:DataW.trod enc Tryz.prog w base spare held fuel 26 cs=some x) :
  ∃ a c,∃ S:List Pt,cs=[.slice a S.length c]/\S.length<=9223372036854775807/\znF S/\SlA a S.length c/\zcq w a S:=by
 rcases Go.Deep.open_slice Tryz.underlying26 h with ⟨rfl,_⟩ |⟨a,len,cap,m,n,D,Pl,rfl,_,hl,hm,a5,_,hx⟩
 ·exact⟨none,0,[],rfl,by simp,fun i hi=>absurd hi (yx _),⟨fun _=>rfl,by simp,by omega⟩,fun i hi=>absurd hi (yx _)⟩
 ·have a7:len<=m:=by rw[a5];split <;> omega
  have J:cap<=9223372036854775807:=by unfold maxLen at hm;omega
  obtain⟨O,T,M⟩:=a;by_cases h0:len=0
  ·subst h0;exact⟨_,cap,[],rfl,by simp,fun i hi=>absurd hi (yx _),⟨(fun e=>by cases e),by simp,J⟩,fun i hi=>absurd hi (yx _)⟩
  ·have a6:M=none:=by
    obtain⟨U,hc,ht⟩:=hx 0 (by omega);rw[zhv] at hc;obtain⟨_,Z,F⟩:=World.cells?_some hc;have h1:=F 0 (by omega);rw[List.getElem?_eq_getElem (by omega)] at h1;simpa [Addr.add] using World.cell?_spot h1
   subst a6
   obtain⟨S,E,I⟩:=zwC len (fun i x=>zzl w O (T+i*5) x/\x.cm.length<=9223372036854775807/\zvk x.cm) (fun i hi=>by
    obtain⟨U,hc,ht⟩:=hx i (by omega);rw[zhv] at hc;obtain⟨_,Z,F⟩:=World.cells?_some hc;refine zro ht (fun j hj=>?_);have h1:=F j hj
    rwa [add_plain,add_plain] at h1)
   exact⟨some ⟨O,T,none⟩,cap,S,by rw[E],by rw[E];omega,fun i hi=>(I i (by omega)).2,⟨(fun e=>by cases e),by rw[E];exact hl,J⟩,fun i hi=>⟨O,T,rfl,(I i (by omega)).1⟩⟩
variable {H:Type} {enc:TypeId × Value->H} {w:World} {base:Nat} {spare:Nat->Bool} {held:Bool}
theorem zwD{α:Type}(z:α)(len:Nat)(P:Nat->α->Prop)(h:∀ i,i<len->∃ x,P i x):∃ S:List α,S.length=len/\∀ i,i<len->P i (S.getD i z):=by
 induction len with
 | zero=>exact⟨[],rfl,fun i hi=>absurd hi (yx _)⟩
 | succ n I =>
  obtain⟨S,hl,E⟩:=I (fun i hi=>h i (by omega));obtain⟨x,F⟩:=h n (by omega);refine⟨S++[x],by simp[hl],fun i hi=>?_⟩;by_cases e:i=n
  ·subst e;rw[zae _ _ (by simp[hl])];simpa [hl] using F
  ·have D:i<S.length:=(by omega);have:=E i (by omega);rw[zae _ _ D] at this;rw[zae _ _ (by simp;omega),List.getElem_append_left D];exact this
theorem zeh{α:Type}(z:α)(Q:List Value->α->Prop){tS tE size fuel:Nat}{cs:List Value}{x:DataW H × List MemPlace}(hu:Tryz.prog.underlying tS=some (.slice tE))(hc:Tryz.prog.cellsOf tE=size)(hs:0<size)
  (hE:∀ (n:Nat) (E:List Value) (x' : DataW H × List MemPlace),DataW.trod enc Tryz.prog w base spare held n tE E=some x' -> ∃ y,Q E y) (h:DataW.trod enc Tryz.prog w base spare held fuel tS cs=some x) :
  ∃ a c,∃ S:List α,cs=[.slice a S.length c]/\SlA a S.length c/\∀ i,i<S.length->∃ b o E,a=some ⟨b,o,none⟩/\(∀ j,j<size->w.cell? ⟨b,o+i*size+j,none⟩=E[j]?)/\Q E (S.getD i z):=by
 rcases Go.Deep.open_slice hu h with ⟨rfl,_⟩ |⟨a,len,cap,m,n,D,Pl,rfl,_,hl,hm,a6,_,hx⟩
 ·exact⟨none,0,[],rfl,⟨fun _=>rfl,by simp,by omega⟩,fun i hi=>absurd hi (yx _)⟩
 ·have a8:len<=m:=by rw[a6];split <;> omega
  have M:cap<=9223372036854775807:=by unfold maxLen at hm;omega
  obtain⟨T,U,O⟩:=a;by_cases h0:len=0
  ·subst h0;exact⟨_,cap,[],rfl,⟨(fun e=>by cases e),by simp,M⟩,fun i hi=>absurd hi (yx _)⟩
  ·have a7:O=none:=by
    obtain⟨E,F,ht⟩:=hx 0 (by omega);rw[hc] at F;obtain⟨_,a5,I⟩:=World.cells?_some F;have h1:=I 0 hs;rw[List.getElem?_eq_getElem (by omega)] at h1;simpa [Addr.add] using World.cell?_spot h1
   subst a7
   obtain⟨S,J,Z⟩:=zwD z len (fun i y=>∃ E,(∀ j,j<size->w.cell? ⟨T,U+i*size+j,none⟩=E[j]?)/\Q E y) (fun i hi=>by
    obtain⟨E,F,ht⟩:=hx i (by omega);rw[hc] at F;obtain⟨_,a5,I⟩:=World.cells?_some F;obtain⟨y,hy⟩:=hE _ _ _ ht;refine⟨y,E,fun j hj=>?_,hy⟩;have h1:=I j hj
    rwa [add_plain,add_plain] at h1)
   refine⟨some ⟨T,U,none⟩,cap,S,by rw[J],⟨(fun e=>by cases e),by rw[J];exact hl,M⟩,fun i hi=>?_⟩;obtain⟨E,h1,h2⟩:=Z i (by omega);exact⟨T,U,E,rfl,h1,h2⟩
theorem zeA:Tryz.prog.cellsOf 65=5/\Tryz.prog.cellsOf 34=1/\Tryz.prog.cellsOf 53=2/\Tryz.prog.cellsOf 51=1/\Tryz.prog.cellsOf 40=2/\Tryz.prog.cellsOf 28=5:=⟨by kernel_rfl,by kernel_rfl,by kernel_rfl,by kernel_rfl,by kernel_rfl,by kernel_rfl⟩
theorem znh{fuel:Nat}{I:List Value}{x:DataW H × List MemPlace}(h:DataW.trod enc Tryz.prog w base spare held fuel 22 I=some x) :
  ∃ a c,∃ S:List Fr,I=[.slice a S.length c]/\SlA a S.length c/\zaP w a S:=by
 obtain⟨a,c,S,e,hs,hx⟩:=zeh (⟨0,0,0,0,false⟩:Fr) (fun D y=>D=[.int .i64 y.p,.int .i64 y.o,.int .i64 y.m,.int .i64 y.t,.bool y.g]) Tryz.underlying22 zeA.1 (by decide) (fun n D x' ht=>by
  obtain⟨xs,n', _,_,hl,F,E⟩:=DataW.trod_struct Tryz.underlying65 ht;rw[zeA.1] at hl
  match D,hl with
  | [a0,a1,a2,a3,a4],_ =>
   match xs,F with
   | [x0,x1,x2,x3,x4],_ =>
    obtain⟨n0,J,_⟩:=DataW.trod_int Tryz.underlying3 (E 0 _ rfl);obtain⟨n1,M,_⟩:=DataW.trod_int Tryz.underlying3 (E 1 _ rfl);obtain⟨n2,O,_⟩:=DataW.trod_int Tryz.underlying3 (E 2 _ rfl);obtain⟨n3,T,_⟩:=DataW.trod_int Tryz.underlying3 (E 3 _ rfl);obtain⟨n4,U,_⟩:=DataW.trod_bool Tryz.underlying4 (E 4 _ rfl)
    cases J;cases M;cases O;cases T;cases U
    exact⟨⟨n0,n1,n2,n3,n4⟩,rfl⟩) h
 refine⟨a,c,S,e,hs,fun i hi=>?_⟩;obtain⟨b,o,D,Z,hc,rfl⟩:=hx i hi;exact⟨b,o,Z,hc 0 (by decide),hc 1 (by decide),hc 2 (by decide),hc 3 (by decide),hc 4 (by decide)⟩
theorem zoK{fuel:Nat}{J:List Value}{x:DataW H × List MemPlace}(h:DataW.trod enc Tryz.prog w base spare held fuel 51 J=some x) :
  ∃ a c,∃ S:List Ml,J=[.slice a S.length c]/\SlA a S.length c/\zeW w a S/\∀ j,j<S.length->(ml S j).g.length<=9223372036854775807/\zjV (ml S j).g:=by
 obtain⟨a,c,S,e,hs,T⟩:=zeh zve (fun D y=>∃ ga gc,D=[.int .i64 y.f,.slice ga y.g.length gc]/\zaI w ga y.g/\y.g.length<=9223372036854775807/\zjV y.g) Tryz.underlying51 zeA.2.2.1 (by decide) (fun n D x' ht=>by
  obtain⟨xs,n', _,_,hl,F,O⟩:=DataW.trod_struct Tryz.underlying53 ht;rw[zeA.2.2.1] at hl
  match D,hl with
  | [a0,a1],_ =>
   match xs,F with
   | [x0,x1],_ =>
    obtain⟨n0,Z,_⟩:=DataW.trod_int Tryz.underlying3 (O 0 _ rfl);obtain⟨_,_,_,_,s2⟩:=trod_struct1 Tryz.underlying47 (O 1 _ rfl);obtain⟨a2,c2,I,e2,n2,U,E⟩:=zhI s2
    cases Z;cases e2
    exact⟨⟨n0,I⟩,a2,c2,rfl,E,n2,U⟩) h
 refine⟨a,c,S,e,hs,fun i hi=>?_,fun i hi=>?_⟩
 ·obtain⟨b,o,D,M,hc,ga,gc,rfl,h1,_⟩:=T i hi;exact⟨b,o,ga,gc,M,hc 0 (by decide),hc 1 (by decide),h1⟩
 ·obtain⟨b,o,D,M,hc,ga,gc,rfl,_,E⟩:=T i hi;exact E
theorem znj{fuel:Nat}{I:List Value}{x:DataW H × List MemPlace}(h:DataW.trod enc Tryz.prog w base spare held fuel 25 I=some x) :
  ∃ a c,∃ S:List (List Ml),I=[.slice a S.length c]/\SlA a S.length c/\znL w a S/\∀ i,i<S.length->(qu S i).length<=9223372036854775807/\∀ j,j<(qu S i).length->(ml (qu S i) j).g.length<=9223372036854775807/\zjV (ml (qu S i) j).g:=by
 obtain⟨a,c,S,e,hs,M⟩:=zeh ([]:List Ml) (fun D y=>∃ qa qc,D=[.slice qa y.length qc]/\SlA qa y.length qc/\zeW w qa y/\∀ j,j<y.length->(ml y j).g.length<=9223372036854775807/\zjV (ml y j).g) Tryz.underlying25 zeA.2.2.2.1 (by decide) (fun n D U T=>by
  obtain⟨qa,qc,q,O,h1,E,F⟩:=zoK T;exact⟨q,qa,qc,O,h1,E,F⟩) h
 refine⟨a,c,S,e,hs,fun i hi=>?_,fun i hi=>?_⟩
 ·obtain⟨b,o,D,J,hc,qa,qc,rfl,h1,E,_⟩:=M i hi;have h0:=hc 0 (by decide);rw[Nat.mul_one,Nat.add_zero] at h0;exact⟨b,o,qa,qc,J,h0,h1,E⟩
 ·obtain⟨b,o,D,J,hc,qa,qc,rfl,h1,_,F⟩:=M i hi;exact⟨yH h1.2.1 h1.2.2,F⟩
theorem zoO{fuel:Nat}{E:List Value}{x:DataW H × List MemPlace}(h:DataW.trod enc Tryz.prog w base spare held fuel 24 E=some x) :
  ∃ a c,∃ S:List (List Ac),E=[.slice a S.length c]/\SlA a S.length c/\znK w a S/\∀ i,i<S.length->(pg S i).length<=9223372036854775807:=by
 obtain⟨a,c,S,e,hs,J⟩:=zeh ([]:List Ac) (fun D y=>∃ qa qc,D=[.slice qa y.length qc]/\y.length<=9223372036854775807/\zbX w qa y) Tryz.underlying24 zeA.2.1 (by decide) (fun n D U T=>by
  obtain⟨qa,qc,q,M,h1,I,O⟩:=zrk T;exact⟨q,qa,qc,M,by omega,O⟩) h
 refine⟨a,c,S,e,hs,fun i hi=>?_,fun i hi=>?_⟩
 ·obtain⟨b,o,D,F,hc,qa,qc,rfl,h1,I⟩:=J i hi;have h0:=hc 0 (by decide);rw[Nat.mul_one,Nat.add_zero] at h0;exact⟨b,o,qa,qc,F,h0,I⟩
 ·obtain⟨b,o,D,F,hc,qa,qc,rfl,h1,_⟩:=J i hi;exact h1
theorem znk{fuel:Nat}{F:List Value}{x:DataW H × List MemPlace}(h:DataW.trod enc Tryz.prog w base spare held fuel 23 F=some x) :
  ∃ a c,∃ S:List Rl,F=[.slice a S.length c]/\SlA a S.length c/\znM w a S/\∀ i,i<S.length->zvf (rl S i):=by
 obtain⟨a,c,S,e,hs,J⟩:=zeh zbE (fun D R=>∃ A:RA,D=[.slice A.a0 R.s.length A.c0,.slice A.a1 R.hs.length A.c1,.slice A.a2 R.i.length A.c2,.slice A.a3 R.t.length A.c3]/\zvf R/\zcZ w A R) Tryz.underlying23 ziW (by decide) (fun n D T O=>by
  obtain⟨A,R,M,h1,E⟩:=zoP O;exact⟨R,A,M,h1,E⟩) h
 refine⟨a,c,S,e,hs,fun i hi=>?_,fun i hi=>?_⟩
 ·obtain⟨b,o,D,I,hc,A,rfl,h1,E⟩:=J i hi;exact⟨b,o,A,I,hc 0 (by decide),hc 1 (by decide),hc 2 (by decide),hc 3 (by decide),E⟩
 ·obtain⟨b,o,D,I,hc,A,rfl,h1,_⟩:=J i hi;exact h1
theorem zoM{fuel:Nat}{F:List Value}{x:DataW H × List MemPlace}(h:DataW.trod enc Tryz.prog w base spare held fuel 71 F=some x) :
  ∃ a c,∃ S:List (Int × Bool),F=[.slice a S.length c]/\SlA a S.length c/\zdp w a S:=by
 obtain⟨a,c,S,e,hs,U⟩:=zeh ((0,false):Int × Bool) (fun D y=>D=[.int .i64 y.1,.bool y.2]) Tryz.underlying71 zeA.2.2.2.2.1 (by decide) (fun n D x' T=>by
  obtain⟨xs,n', _,_,hl,E,I⟩:=DataW.trod_struct Tryz.underlying40 T;rw[zeA.2.2.2.2.1] at hl
  match D,hl with
  | [a0,a1],_ =>
   match xs,E with
   | [x0,x1],_ =>
    obtain⟨Z,J,_⟩:=DataW.trod_int Tryz.underlying3 (I 0 _ rfl);obtain⟨n1,M,_⟩:=DataW.trod_bool Tryz.underlying4 (I 1 _ rfl)
    cases J;cases M
    exact⟨(Z,n1),rfl⟩) h
 refine⟨a,c,S,e,hs,fun i hi=>?_⟩;obtain⟨b,o,D,O,hc,rfl⟩:=U i hi;exact⟨b,o,O,hc 0 (by decide),hc 1 (by decide)⟩
theorem zoQ{fuel:Nat}{E:List Value}{x:DataW H × List MemPlace}(h:DataW.trod enc Tryz.prog w base spare held fuel 28 E=some x) :
  ∃ (A:WA) (W:Wl),E=[.slice A.a0 W.fs.length A.c0,.slice A.a1 W.rs.length A.c1,.slice A.a2 W.ps.length A.c2,.slice A.a3 W.qs.length A.c3,.slice A.a4 W.pt.length A.c4]/\zpi W/\WlC A W/\zeY w A W:=by
 obtain⟨xs,n,_,_,hl,F,D⟩:=DataW.trod_struct Tryz.underlying28 h;rw[zeA.2.2.2.2.2] at hl
 match E,hl with
 | [v0,v1,v2,v3,v4],_ =>
  match xs,F with
  | [x0,x1,x2,x3,x4],_ =>
   obtain⟨a0,c0,I,T,s0,h0⟩:=znh (D 0 _ rfl);obtain⟨a1,c1,J,U,s1,h1,g1⟩:=znk (D 1 _ rfl);obtain⟨a2,c2,M,Z,s2,h2,g2⟩:=zoO (D 2 _ rfl);obtain⟨a3,c3,O,e3,s3,h3,g3⟩:=znj (D 3 _ rfl);obtain⟨a4,c4,S4,e4,n4,g4,s4,h4⟩:=zoN (D 4 _ rfl)
   cases T;cases U;cases Z;cases e3;cases e4
   exact⟨⟨a0,a1,a2,a3,a4,c0,c1,c2,c3,c4⟩,⟨I,J,M,O,S4⟩,rfl,⟨yH s0.2.1 s0.2.2,⟨yH s1.2.1 s1.2.2,g1⟩,⟨yH s2.2.1 s2.2.2,g2⟩,⟨yH s3.2.1 s3.2.2,g3⟩,n4,g4⟩,⟨s0,s1,s2,s3,s4⟩,⟨h0,h1,h2,h3,h4⟩⟩
theorem zrp{r:Reach}{E:Nat}{v:Value}{d:DataW H}{p:List MemPlace}(U:Value.okWide Tryz.prog w r E 28 v)(h:DataW.Trod enc Tryz.prog w base spare held 28 v d p) :
  ∃ (A:WA) (W:Wl),v=wlV A W/\zpi W/\WlC A W/\zeY w A W:=by
 obtain⟨D,rfl,T⟩:=okWide_struct Tryz.underlying28 U;obtain⟨fuel,O⟩:=h;obtain⟨A,R,e,I,J,M⟩:=zoQ O;refine⟨A,R,?_,I,J,M⟩;have F:D.toList=_:=e;rw[show D=D.toList.toArray from by simp,F]
theorem zrn{r:Reach}{D:Nat}{v:Value}{d:DataW H}{p:List MemPlace}(I:Value.okWide Tryz.prog w r D 71 v)(h:DataW.Trod enc Tryz.prog w base spare held 71 v d p) :
  ∃ a c,∃ S:List (Int × Bool),v=.slice a S.length c/\SlA a S.length c/\zdp w a S:=by
 obtain⟨J,len,cap,rfl⟩:=okWide_slice Tryz.underlying71 I;obtain⟨fuel,F⟩:=h;obtain⟨ka,kc,ks,e,h1,E⟩:=zoM F;simp[Value.cells] at e;obtain⟨rfl,rfl,rfl⟩:=e;exact⟨_,_,ks,rfl,h1,E⟩
end Go.Proofs.YtcbcpomacdngmaaGreat
