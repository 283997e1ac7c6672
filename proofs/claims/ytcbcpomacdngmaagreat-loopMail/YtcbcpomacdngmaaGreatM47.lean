/-
  x
-/
import Derived.Test.YtcbcpomacdngmaaGreatM46
namespace Go.Proofs.YtcbcpomacdngmaaGreat
set_option maxRecDepth 100000
set_option maxHeartbeats 4000000
set_option linter.unusedVariables false
open Go.RowKit Go.ChangeShapes Go.WideShapes Go.ChangeAt
theorem zgE.nil{X:Nat->Prop}{w:World}{B:WA}{W:Wl}(h:zgE X w B W)(H:zan W){k:Nat}(M:k<W.fs.length) :
  ∃ g,B.a2=some ⟨g,0,none⟩/\(∃ v,w.cell? ⟨g,k,none⟩=some v)/\w.frozen? ⟨g,k,none⟩=false/\g<w.heap.size/\¬ X g/\zgc X (w.setCell ⟨g,k,none⟩ (.slice none 0 0)) B { W with ps:=W.ps.set k [] }:=by
 obtain⟨g,g3,P,Q,Gf,e,e3,r,T,hs⟩:=h;refine⟨g,e,⟨_,r.cell M⟩,r.frozen _,r.lt,T,fun I O=>?_⟩;have Z:zar (fun b=>X b\/b=g) w (w.setCell ⟨g,k,none⟩ (.slice none 0 0)):=zar.set _ _ (.inr rfl);have E:=hs I (Z.trans (O.mono (fun _ h=>.inl h)));have r2:=(r.set k (.slice none 0 0)).of_block (O.block g (by simpa using r.lt) T);have J:k<W.ps.length:=by rw[H.lp];exact M
 refine⟨E.1,E.2.1,fun i hi=>?_,E.2.2.1,E.2.2.2.1⟩
 have D:i<W.fs.length:=by
  have:i<(W.ps.set k []).length:=hi;rw[List.length_set,H.lp] at this;exact this
 have U:pg (W.ps.set k []) i=if i=k then [] else prg W i:=zlO J
 show ∃ b o pa pc,B.a2=some ⟨b,o,none⟩/\I.cell? ⟨b,o+i,none⟩=some (.slice pa (pg (W.ps.set k []) i).length pc)/\zbE I pa (pg (W.ps.set k []) i);rw[U];by_cases F:i=k
 ·rw[yb F];refine⟨g,0,none,0,e,?_,fun _ h=>absurd h (yw _)⟩;rw[yz,r2.cell D,yb F];rfl
 ·rw[ya F];refine⟨g,0,(P i).1,(P i).2,e,?_,E.2.2.2.2.1 i D⟩;rw[yz,r2.cell D,ya F]
theorem zuB:zgF:=fun X A W k s w O I J M=>(zlW X A W k s w O I J M).mono (fun _ _ ⟨B,h1,D,E,F,_⟩=>⟨B,h1,D,E,F⟩)
theorem zwK:zld:=fun X A W O T L w M D E J F hl I=>zwL X A W O T L w M D E J F hl I
variable {H:Type} {enc:TypeId × Value->H} {w:World} {base:Nat} {spare:Nat->Bool} {held:Bool}
theorem zxL:Tryz.prog.cellsOf 3=1:=by kernel_rfl
theorem zlj:Tryz.prog.cellsOf 57=8:=by kernel_rfl
theorem zqZ{fuel:Nat}{I:List Value}{x:DataW H × List MemPlace}(h:DataW.trod enc Tryz.prog w base spare held fuel 48 I=some x) :
  ∃ ka kc,∃ ks:List Int,I=[.slice ka ks.length kc]/\ks.length<=9223372036854775807/\zal w ka ks:=by
 rcases open_ints Tryz.underlying48 Tryz.underlying3 zxL h with ⟨rfl,_⟩ |⟨a,len,cap,F,rfl,_,hl,M,O,_,D,_⟩
 ·exact⟨none,0,[],rfl,by simp,fun i hi=>absurd hi (yw _)⟩
 ·have J:len<=F.length:=by rw[O];split <;> omega
  have E:(F.take len).length=len:=by rw[List.length_take];omega
  refine⟨some a,cap,F.take len,by rw[E],by rw[E];unfold maxLen at M;omega,fun i hi=>?_⟩;rw[E] at hi;obtain⟨b,off,rfl,hc⟩:=ints_at D (by omega);refine⟨b,off,rfl,?_⟩;rw[hc i (by omega),zae F 0 (by omega),zae (F.take len) 0 (by omega),List.getElem_take]
theorem zra{fuel b o:Nat}{E:List Value}{x:DataW H × List MemPlace}(h:DataW.trod enc Tryz.prog w base spare held fuel 57 E=some x)(hc:∀ j,j<8->w.cell? ⟨b,o+j,none⟩=E[j]?) :
  ∃ nd:Nd,zuS w b o nd/\nd.ks.length<=9223372036854775807:=by
 obtain⟨xs,n,_,_,hl,I,D⟩:=DataW.trod_struct Tryz.underlying57 h;rw[zlj] at hl
 match E,hl with
 | [a0,a1,a2,a3,a4,a5,a6,a7],_ =>
  match xs,I with
  | [x0,x1,x2,x3,x4,x5,x6,x7],_ =>
   have g0:=D 0 _ rfl;have g1:=D 1 _ rfl;have g2:=D 2 _ rfl;have g3:=D 3 _ rfl;have g4:=D 4 _ rfl;have g5:=D 5 _ rfl;have g6:=D 6 _ rfl;have g7:=D 7 _ rfl;obtain⟨u,J,_⟩:=DataW.trod_bool Tryz.underlying4 g0;obtain⟨n1,M,_⟩:=DataW.trod_int Tryz.underlying3 g1;obtain⟨n2,O,_⟩:=DataW.trod_int Tryz.underlying3 g2;obtain⟨n3,T,_⟩:=DataW.trod_int Tryz.underlying3 g3;obtain⟨n4,U,_⟩:=DataW.trod_int Tryz.underlying3 g4;obtain⟨ka,kc,ks,Z,F,hI⟩:=zqZ g5;obtain⟨n6,e6,_⟩:=DataW.trod_int Tryz.underlying3 g6;obtain⟨u7,e7,_⟩:=DataW.trod_bool Tryz.underlying4 g7
   cases J;cases M;cases O;cases T;cases U;cases Z;cases e6;cases e7
   refine⟨⟨u,n1,n2,n3,n4,ks,n6,u7⟩,⟨?_,?_,?_,?_,?_,⟨ka,kc,?_,hI⟩,?_,?_⟩,F⟩
   ·exact hc 0 (by omega)
   ·exact hc 1 (by omega)
   ·exact hc 2 (by omega)
   ·exact hc 3 (by omega)
   ·exact hc 4 (by omega)
   ·exact hc 5 (by omega)
   ·exact hc 6 (by omega)
   ·exact hc 7 (by omega)
theorem zwj(len:Nat)(P:Nat->Nd->Prop)(h:∀ i,i<len->∃ x,P i x):∃ S:List Nd,S.length=len/\∀ i,i<len->P i (nd S i):=by
 induction len with
 | zero=>exact⟨[],rfl,fun i hi=>absurd hi (yw _)⟩
 | succ n I =>
  obtain⟨S,hl,E⟩:=I (fun i hi=>h i (by omega));obtain⟨x,F⟩:=h n (by omega);refine⟨S++[x],by simp[hl],fun i hi=>?_⟩;by_cases e:i=n
  ·subst e;rw[zbq (by simp[hl])];simpa [hl] using F
  ·have D:i<S.length:=(by omega);have:=E i (by omega);rw[zbq D] at this;rw[zbq (by simp;omega),List.getElem_append_left D];exact this
theorem zoA{fuel:Nat}{cs:List Value}{x:DataW H × List MemPlace}(h:DataW.trod enc Tryz.prog w base spare held fuel 41 cs=some x) :
  ∃ a c,∃ S:List Nd,cs=[.slice a S.length c]/\S.length<=9223372036854775807/\Big S/\zah w a S:=by
 rcases Go.Deep.open_slice Tryz.underlying41 h with ⟨rfl,_⟩ |⟨a,len,cap,m,n,D,Pl,rfl,_,hl,hm,Z,_,hx⟩
 ·exact⟨none,0,[],rfl,by simp,fun i hi=>absurd hi (yw _),fun i hi=>absurd hi (yw _)⟩
 ·have a6:len<=m:=by rw[Z];split <;> omega
  obtain⟨M,O,J⟩:=a;by_cases h0:len=0
  ·subst h0;exact⟨_,cap,[],rfl,by simp,fun i hi=>absurd hi (yw _),fun i hi=>absurd hi (yw _)⟩
  ·have a5:J=none:=by
    obtain⟨T,hc,ht⟩:=hx 0 (by omega);rw[zlj] at hc;obtain⟨_,U,E⟩:=World.cells?_some hc;have h1:=E 0 (by omega);rw[List.getElem?_eq_getElem (by omega)] at h1;simpa [Addr.add] using World.cell?_spot h1
   subst a5
   obtain⟨S,F,I⟩:=zwj len (fun i x=>zuS w M (O+i*8) x/\x.ks.length<=9223372036854775807) (fun i hi=>by
    obtain⟨T,hc,ht⟩:=hx i (by omega);rw[zlj] at hc;obtain⟨_,U,E⟩:=World.cells?_some hc;refine zra ht (fun j hj=>?_);have h1:=E j hj
    rwa [add_plain,add_plain] at h1)
   exact⟨some ⟨M,O,none⟩,cap,S,by rw[F],by rw[F];unfold maxLen at hm;omega,fun i hi=>(I i (by omega)).2,fun i hi=>⟨M,O,rfl,(I i (by omega)).1⟩⟩
theorem zkv:Tryz.prog.cellsOf 61=2:=by kernel_rfl
theorem zsZ(len:Nat)(P:Nat->Int × Int->Prop)(h:∀ i,i<len->∃ x,P i x):∃ S:List (Int × Int),S.length=len/\∀ i,i<len->P i (S.getD i (0,0)):=by
 induction len with
 | zero=>exact⟨[],rfl,fun i hi=>absurd hi (yw _)⟩
 | succ n I =>
  obtain⟨S,hl,E⟩:=I (fun i hi=>h i (by omega));obtain⟨x,F⟩:=h n (by omega);refine⟨S++[x],by simp[hl],fun i hi=>?_⟩;by_cases e:i=n
  ·subst e;rw[zae _ _ (by simp[hl])];simpa [hl] using F
  ·have D:i<S.length:=(by omega);have:=E i (by omega);rw[zae _ _ D] at this;rw[zae _ _ (by simp;omega),List.getElem_append_left D];exact this
theorem ziQ:Tryz.prog.cellsOf 50=4:=by kernel_rfl
theorem ziO:Tryz.prog.cellsOf 36=5:=by kernel_rfl
theorem zoy{fuel:Nat}{cs:List Value}{x:DataW H × List MemPlace}(h:DataW.trod enc Tryz.prog w base spare held fuel 44 cs=some x) :
  ∃ a c,∃ S:List (Int × Int),cs=[.slice a S.length c]/\S.length<=9223372036854775807/\zaw w a S:=by
 rcases Go.Deep.open_slice Tryz.underlying44 h with ⟨rfl,_⟩ |⟨a,len,cap,m,n,D,Pl,rfl,_,hl,hm,a5,_,hx⟩
 ·exact⟨none,0,[],rfl,by simp,fun i hi=>absurd hi (yw _)⟩
 ·have b0:len<=m:=by rw[a5];split <;> omega
  obtain⟨T,U,O⟩:=a;by_cases h0:len=0
  ·subst h0;exact⟨_,cap,[],rfl,by simp,fun i hi=>absurd hi (yw _)⟩
  ·have a6:O=none:=by
    obtain⟨F,hc,ht⟩:=hx 0 (by omega);rw[zkv] at hc;obtain⟨_,a9,E⟩:=World.cells?_some hc;have h1:=E 0 (by omega);rw[List.getElem?_eq_getElem (by omega)] at h1;simpa [Addr.add] using World.cell?_spot h1
   subst a6
   obtain⟨S,I,J⟩:=zsZ len (fun i x=>w.cell? ⟨T,U+i*2,none⟩=some (.int .i64 x.1)/\w.cell? ⟨T,U+i*2+1,none⟩=some (.int .i64 x.2)) (fun i hi=>by
    obtain⟨F,hc,ht⟩:=hx i (by omega);rw[zkv] at hc;obtain⟨_,Z,E⟩:=World.cells?_some hc;obtain⟨xs,n', _,_,a8,a7,M⟩:=DataW.trod_struct Tryz.underlying61 ht
    match F,Z with
    | [a0,a1],_ =>
     match xs,a7 with
     | [x0,x1],_ =>
      have g0:=M 0 _ rfl;have g1:=M 1 _ rfl;obtain⟨n0,e0,_⟩:=DataW.trod_int Tryz.underlying3 g0;obtain⟨n1,e1,_⟩:=DataW.trod_int Tryz.underlying3 g1
      cases e0;cases e1
      refine⟨(n0,n1),?_,?_⟩
      ·have h1:=E 0 (by omega)
       rwa [add_plain,add_plain] at h1
      ·have h1:=E 1 (by omega)
       rwa [add_plain,add_plain] at h1)
   exact⟨some ⟨T,U,none⟩,cap,S,by rw[I],by rw[I];unfold maxLen at hm;omega,fun i hi=>⟨T,U,rfl,(J i (by omega)).1,(J i (by omega)).2⟩⟩
theorem zwh(len:Nat)(P:Nat->Ac->Prop)(h:∀ i,i<len->∃ x,P i x):∃ S:List Ac,S.length=len/\∀ i,i<len->P i (ac S i):=by
 induction len with
 | zero=>exact⟨[],rfl,fun i hi=>absurd hi (yw _)⟩
 | succ n I =>
  obtain⟨S,hl,E⟩:=I (fun i hi=>h i (by omega));obtain⟨x,F⟩:=h n (by omega);refine⟨S++[x],by simp[hl],fun i hi=>?_⟩;unfold ac;by_cases e:i=n
  ·subst e;rw[zae _ _ (by simp[hl])];simpa [hl] using F
  ·have D:i<S.length:=(by omega);have:=E i (by omega);unfold ac at this;rw[zae _ _ D] at this;rw[zae _ _ (by simp;omega),List.getElem_append_left D];exact this
theorem ztM{fuel:Nat}{E:List Value}{x:DataW H × List MemPlace}(h:DataW.trod enc Tryz.prog w base spare held fuel 36 E=some x) :
  ∃ y:Ac,E=[.int .i64 y.k,.int .i64 y.a,.int .i64 y.b,.int .i64 y.c,.int .i64 y.n]:=by
 obtain⟨xs,n,_,_,hl,F,D⟩:=DataW.trod_struct Tryz.underlying36 h;rw[ziO] at hl
 match E,hl with
 | [a0,a1,a2,a3,a4],_ =>
  match xs,F with
  | [x0,x1,x2,x3,x4],_ =>
   obtain⟨U,I,_⟩:=DataW.trod_int Tryz.underlying3 (D 0 _ rfl);obtain⟨Z,J,_⟩:=DataW.trod_int Tryz.underlying3 (D 1 _ rfl);obtain⟨n2,M,_⟩:=DataW.trod_int Tryz.underlying3 (D 2 _ rfl);obtain⟨n3,O,_⟩:=DataW.trod_int Tryz.underlying3 (D 3 _ rfl);obtain⟨n4,T,_⟩:=DataW.trod_int Tryz.underlying3 (D 4 _ rfl)
   cases I;cases J;cases M;cases O;cases T
   exact⟨⟨U,Z,n2,n3,n4⟩,rfl⟩
theorem zqY{fuel:Nat}{cs:List Value}{x:DataW H × List MemPlace}(h:DataW.trod enc Tryz.prog w base spare held fuel 34 cs=some x) :
  ∃ a c,∃ S:List Ac,cs=[.slice a S.length c]/\S.length<=c/\c<=9223372036854775807/\zbE w a S:=by
 rcases Go.Deep.open_slice Tryz.underlying34 h with ⟨rfl,_⟩ |⟨a,len,cap,m,n,D,Pl,rfl,_,hl,hm,a5,_,hx⟩
 ·exact⟨none,0,[],rfl,by simp,by omega,fun i hi=>absurd hi (yw _)⟩
 ·have a7:len<=m:=by rw[a5];split <;> omega
  have M:cap<=9223372036854775807:=by unfold maxLen at hm;omega
  obtain⟨F,I,O⟩:=a;by_cases h0:len=0
  ·subst h0;exact⟨_,cap,[],rfl,by simp,M,fun i hi=>absurd hi (yw _)⟩
  ·have a6:O=none:=by
    obtain⟨T,hc,ht⟩:=hx 0 (by omega);rw[ziO] at hc;obtain⟨_,Z,E⟩:=World.cells?_some hc;have h1:=E 0 (by omega);rw[List.getElem?_eq_getElem (by omega)] at h1;simpa [Addr.add] using World.cell?_spot h1
   subst a6
   obtain⟨S,J,U⟩:=zwh len (fun i x=>w.cell? ⟨F,I+i*5,none⟩=some (.int .i64 x.k)/\w.cell? ⟨F,I+i*5+1,none⟩=some (.int .i64 x.a)/\w.cell? ⟨F,I+i*5+2,none⟩=some (.int .i64 x.b)/\w.cell? ⟨F,I+i*5+3,none⟩=some (.int .i64 x.c)/\w.cell? ⟨F,I+i*5+4,none⟩=some (.int .i64 x.n)) (fun i hi=>by
    obtain⟨T,hc,ht⟩:=hx i (by omega);rw[ziO] at hc;obtain⟨_,Z,E⟩:=World.cells?_some hc;obtain⟨y,e⟩:=ztM ht;subst e;have k0:=E 0 (by omega);have k1:=E 1 (by omega);have k2:=E 2 (by omega);have k3:=E 3 (by omega);have k4:=E 4 (by omega);rw[add_plain,add_plain] at k0 k1 k2 k3 k4;exact⟨y,k0,k1,k2,k3,k4⟩)
   exact⟨some ⟨F,I,none⟩,cap,S,by rw[J],by rw[J];exact hl,M,fun i hi=>⟨F,I,rfl,U i (by omega)⟩⟩
theorem zoD{fuel:Nat}{E:List Value}{x:DataW H × List MemPlace}(h:DataW.trod enc Tryz.prog w base spare held fuel 50 E=some x) :
  ∃ (A:RA) (R:Rl),E=[.slice A.a0 R.s.length A.c0,.slice A.a1 R.hs.length A.c1,.slice A.a2 R.i.length A.c2,.slice A.a3 R.t.length A.c3]/\zuV R/\zdd w A R:=by
 obtain⟨xs,n,_,_,hl,F,D⟩:=DataW.trod_struct Tryz.underlying50 h;rw[ziQ] at hl
 match E,hl with
 | [v0,v1,v2,v3],_ =>
  match xs,F with
  | [x0,x1,x2,x3],_ =>
   have g0:=D 0 _ rfl;have g1:=D 1 _ rfl;have g2:=D 2 _ rfl;have g3:=D 3 _ rfl;obtain⟨_,_,_,_,s0⟩:=trod_struct1 Tryz.underlying43 g0;obtain⟨_,_,_,_,s2⟩:=trod_struct1 Tryz.underlying47 g2;obtain⟨a0,c0,S,U,n0,M,h0⟩:=zoA s0;obtain⟨a1,c1,J,Z,n1,h1⟩:=zoy g1;obtain⟨a2,c2,I,e2,n2,T,h2⟩:=zhF s2;obtain⟨a3,c3,O,e3,n3,m3,h3⟩:=zkN g3
   cases U;cases Z;cases e2;cases e3
   exact⟨⟨a0,a1,a2,a3,c0,c1,c2,c3⟩,⟨S,J,I,O⟩,rfl,⟨n0,M,n1,n2,T,by show O.length<=_;omega⟩,h0,h1,h2,h3⟩
variable {H:Type} {enc:TypeId × Value->H} {w:World} {base:Nat} {spare:Nat->Bool} {held:Bool}
theorem zhr:Tryz.prog.cellsOf 121=5:=by kernel_rfl
theorem zwk(len:Nat)(P:Nat->List Cl->Prop)(h:∀ i,i<len->∃ x,P i x):∃ S:List (List Cl),S.length=len/\∀ i,i<len->P i (gr S i):=by
 induction len with
 | zero=>exact⟨[],rfl,fun i hi=>absurd hi (yw _)⟩
 | succ n F =>
  obtain⟨S,hl,D⟩:=F (fun i hi=>h i (by omega));obtain⟨x,E⟩:=h n (by omega);refine⟨S++[x],by simp[hl],fun i hi=>?_⟩;by_cases e:i=n
  ·subst e;rw[<- hl,zoa];rw[hl];exact E
  ·rw[zob (by omega)];exact D i (by omega)
theorem zwl(len:Nat)(P:Nat->Pt->Prop)(h:∀ i,i<len->∃ x,P i x):∃ S:List Pt,S.length=len/\∀ i,i<len->P i (pt S i):=by
 induction len with
 | zero=>exact⟨[],rfl,fun i hi=>absurd hi (yw _)⟩
 | succ n F =>
  obtain⟨S,hl,D⟩:=F (fun i hi=>h i (by omega));obtain⟨x,E⟩:=h n (by omega);refine⟨S++[x],by simp[hl],fun i hi=>?_⟩;by_cases e:i=n
  ·subst e;rw[<- hl,zua];rw[hl];exact E
  ·rw[zlP (by omega)];exact D i (by omega)
theorem znd{fuel:Nat}{cs:List Value}{x:DataW H × List MemPlace}(h:DataW.trod enc Tryz.prog w base spare held fuel 119 cs=some x) :
  ∃ a c,∃ S:List (List Cl),cs=[.slice a S.length c]/\S.length<=9223372036854775807/\zyO S/\zyT w a c S:=by
 rcases Go.Deep.open_slice Tryz.underlying119 h with ⟨rfl,_⟩ |⟨a,len,cap,m,n,D,Pl,rfl,_,hl,hm,a6,_,hx⟩
 ·exact⟨none,0,[],rfl,by simp,fun i hi=>absurd hi (yw _),⟨fun _=>rfl,by simp,by omega⟩,fun i hi=>absurd hi (yw _)⟩
 ·have a8:len<=m:=by rw[a6];split <;> omega
  have O:cap<=9223372036854775807:=by unfold maxLen at hm;omega
  obtain⟨U,Z,T⟩:=a;by_cases h0:len=0
  ·subst h0;exact⟨_,cap,[],rfl,by simp,fun i hi=>absurd hi (yw _),⟨(fun e=>by cases e),by simp,O⟩,fun i hi=>absurd hi (yw _)⟩
  ·have a7:T=none:=by
    obtain⟨I,hc,ht⟩:=hx 0 (by omega);rw[ziP] at hc;obtain⟨_,M,F⟩:=World.cells?_some hc;have h1:=F 0 (by omega);rw[List.getElem?_eq_getElem (by omega)] at h1;simpa [Addr.add] using World.cell?_spot h1
   subst a7
   obtain⟨S,E,J⟩:=zwk len (fun i x=>(∃ ga gc,w.cell? ⟨U,Z+i,none⟩=some (.slice ga x.length gc)/\zaF w ga x)/\x.length<=9223372036854775807/\zlb x) (fun i hi=>by
    obtain⟨I,hc,ht⟩:=hx i (by omega);rw[ziP] at hc;obtain⟨_,M,F⟩:=World.cells?_some hc
    match I,M with
    | [a0],_ =>
     obtain⟨y0,n', _,_,g0⟩:=trod_struct1 Tryz.underlying47 ht;obtain⟨ga,gc,G,e,h1,h2,h3⟩:=zhF g0;cases e;refine⟨G,⟨ga,gc,?_,h3⟩,h1,h2⟩;have h4:=F 0 (by omega);rw[add_plain,add_plain,Nat.mul_one,Nat.add_zero] at h4;exact h4)
   exact⟨some ⟨U,Z,none⟩,cap,S,by rw[E],by rw[E];omega,fun i hi=>(J i (by omega)).2,⟨(fun e=>by cases e),by rw[E];exact hl,O⟩,fun i hi=>by
    obtain⟨ga,gc,c0,a5⟩:=(J i (by omega)).1;exact⟨U,Z,ga,gc,rfl,c0,a5⟩⟩
theorem zrb{fuel b o:Nat}{E:List Value}{x:DataW H × List MemPlace}(h:DataW.trod enc Tryz.prog w base spare held fuel 121 E=some x)(hc:∀ j,j<5->w.cell? ⟨b,o+j,none⟩=E[j]?) :
  ∃ y:Pt,zyV w b o y/\y.cm.length<=9223372036854775807/\zyO y.cm:=by
 obtain⟨xs,n,_,_,hl,J,D⟩:=DataW.trod_struct Tryz.underlying121 h;rw[zhr] at hl
 match E,hl with
 | [a0,a1,a2,a3,a4],_ =>
  match xs,J with
  | [x0,x1,x2,x3,x4],_ =>
   have g0:=D 0 _ rfl;have g1:=D 1 _ rfl;have g2:=D 2 _ rfl;have g3:=D 3 _ rfl;have g4:=D 4 _ rfl;obtain⟨n0,T,_⟩:=DataW.trod_int Tryz.underlying3 g0;obtain⟨n1,U,_⟩:=DataW.trod_int Tryz.underlying3 g1;obtain⟨n2,Z,_⟩:=DataW.trod_int Tryz.underlying3 g2;obtain⟨M,O,C,e3,F,I,hI⟩:=znd g3;obtain⟨n4,e4,_⟩:=DataW.trod_bool Tryz.underlying4 g4
   cases T;cases U;cases Z;cases e3;cases e4
   exact⟨⟨n0,n1,n2,C,n4⟩,⟨hc 0 (by omega),hc 1 (by omega),hc 2 (by omega),M,O,hc 3 (by omega),hI,hc 4 (by omega)⟩,F,I⟩
theorem zoB{fuel:Nat}{cs:List Value}{x:DataW H × List MemPlace}(h:DataW.trod enc Tryz.prog w base spare held fuel 26 cs=some x) :
  ∃ a c,∃ S:List Pt,cs=[.slice a S.length c]/\S.length<=9223372036854775807/\zrF S/\SlA a S.length c/\zdr w a S:=by
 rcases Go.Deep.open_slice Tryz.underlying26 h with ⟨rfl,_⟩ |⟨a,len,cap,m,n,D,Pl,rfl,_,hl,hm,a5,_,hx⟩
 ·exact⟨none,0,[],rfl,by simp,fun i hi=>absurd hi (yw _),⟨fun _=>rfl,by simp,by omega⟩,fun i hi=>absurd hi (yw _)⟩
 ·have a7:len<=m:=by rw[a5];split <;> omega
  have J:cap<=9223372036854775807:=by unfold maxLen at hm;omega
  obtain⟨O,T,M⟩:=a;by_cases h0:len=0
  ·subst h0;exact⟨_,cap,[],rfl,by simp,fun i hi=>absurd hi (yw _),⟨(fun e=>by cases e),by simp,J⟩,fun i hi=>absurd hi (yw _)⟩
  ·have a6:M=none:=by
    obtain⟨U,hc,ht⟩:=hx 0 (by omega);rw[zhr] at hc;obtain⟨_,Z,F⟩:=World.cells?_some hc;have h1:=F 0 (by omega);rw[List.getElem?_eq_getElem (by omega)] at h1;simpa [Addr.add] using World.cell?_spot h1
   subst a6
   obtain⟨S,E,I⟩:=zwl len (fun i x=>zyV w O (T+i*5) x/\x.cm.length<=9223372036854775807/\zyO x.cm) (fun i hi=>by
    obtain⟨U,hc,ht⟩:=hx i (by omega);rw[zhr] at hc;obtain⟨_,Z,F⟩:=World.cells?_some hc;refine zrb ht (fun j hj=>?_);have h1:=F j hj
    rwa [add_plain,add_plain] at h1)
   exact⟨some ⟨O,T,none⟩,cap,S,by rw[E],by rw[E];omega,fun i hi=>(I i (by omega)).2,⟨(fun e=>by cases e),by rw[E];exact hl,J⟩,fun i hi=>⟨O,T,rfl,(I i (by omega)).1⟩⟩
end Go.Proofs.YtcbcpomacdngmaaGreat
