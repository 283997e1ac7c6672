/-
  x
-/
import Derived.Test.YtcbcpomacdngmaaGreatA45
namespace Go.Proofs.YtcbcpomacdngmaaGreat
set_option maxRecDepth 100000
set_option maxHeartbeats 4000000
set_option linter.unusedVariables false
open Go.RowKit Go.ChangeShapes Go.WideShapes Go.ChangeAt Tryz
theorem GY{E K:Nat}:∀ V D:World,V.cell? ⟨E,0,none⟩=some (.func (.func K) #[] #[])->Bl V D->D.cell? ⟨E,0,none⟩=some (.func (.func K) #[] #[]):=fun _ _ h hb=>aA h hb
theorem ZR{L:List Fr}{f t x:Int}(h:bG L f t x=0):bC L t=0:=(kP h).2.2.1
theorem Yu(me:Nat)(W:Wl)(x:Ac)(V:Wd)(H:aI W)(hm:me<W.fs.length):yO 79 #[.int .i64 x.k] V (oF me W x V):=by
 by_cases T:x.k=9
 ·rw[T];refine yj (Xm V) (fun e V1 hv=>oF.may (C:=fun _=>True) (t:=x.n) hv trivial (yM func111 (by kernel_rfl) rfl) (yM func112 (by kernel_rfl) rfl) (by decide) (fun V=>OA x V) (fun _ _ _ _=>trivial) (fun h=>Xj me W x h) ?_);rw[show bD W me x=KX W me x.n from ye T];exact wC _ _ _ _ _
 by_cases D:x.k=13
 ·rw[D];refine yj (Xp V) (fun e V1 hv=>oF.may (C:=fun _=>True) (t:=x.n) hv trivial (yM func111 (by kernel_rfl) rfl) (yM func116 (by kernel_rfl) rfl) (by decide) (fun V=>OA x V) (fun _ _ _ _=>trivial) (fun h=>Xk me W x h) ?_);rw[show bD W me x=KY W me x.n from by unfold bD;rw[yd T,ye D]];exact wC _ _ _ _ _
 by_cases E:x.k=12
 ·rw[E];refine yj (Xo V) (fun e V1 hv=>oF.may (C:=fun _=>True) (t:=x.a) hv trivial (yM func113 (by kernel_rfl) rfl) (yM func115 (by kernel_rfl) rfl) (by decide) (fun V=>NZ x V) (fun _ _ _ _=>trivial) (fun h=>Yh me W x (ZR h) _ (pV _ _ _ _)) ?_);rw[show bD W me x=sH W me x.a x.b from by unfold bD;rw[yd T,yd D,ye E]];exact wC _ _ _ _ _
 by_cases F:x.k=10
 ·rw[F];refine yj (Xn V) (fun e V1 hv=>oF.may (C:=fun _=>True) (t:=x.a) hv trivial (yM func113 (by kernel_rfl) rfl) (yM func114 (by kernel_rfl) rfl) (by decide) (fun V=>NZ x V) (fun _ _ _ _=>trivial) (fun h=>Ym me W x h) ?_);rw[show bD W me x=yQ W me x.a x.n from by unfold bD;rw[yd T,yd D,yd E,ye F]];exact wC _ _ _ _ _
 by_cases I:x.k=21
 ·rw[I];refine yj (Xq V) (fun e V1 hv=>oF.may (C:=fun _=>True) (t:=x.n) hv trivial (yM func111 (by kernel_rfl) rfl) (yM func117 (by kernel_rfl) rfl) (by decide) (fun V=>OA x V) (fun _ _ _ _=>trivial) (fun h=>Yt me W x h) ?_);rw[show bD W me x=wGo W me x.n x.a from by unfold bD;rw[yd T,yd D,yd E,yd F,ye I]];exact wC _ _ _ _ _
 by_cases J:x.k=16
 ·rw[J];refine yj (Xw V) (fun e V1 hv=>⟨_,_,fun _=>True,hv.1,hv.2,trivial,(fun _ _ _ _=>trivial),(yM func118 (by kernel_rfl) rfl),?_⟩);rw[show bD W me x=vI W me from by unfold bD;rw[yd T,yd D,yd E,yd F,yd I,ye J]];exact Xl me W x
 by_cases M:x.k=17
 ·rw[M];refine yj (Xv V) (fun e V1 hv=>?_);obtain⟨Z,hv,hc⟩:=hv;refine oF.may (C:=fun V=>V.cell? ⟨Z,0,none⟩=some (.func (.func 120) #[] #[])) (t:=x.a) hv hc (yM func113 (by kernel_rfl) rfl) (yM func143 (by kernel_rfl) rfl) (by decide) (fun V=>NZ x V) GY (fun h=>GU 120 Z (yM func120 (by kernel_rfl) rfl) me W x W _ _ (Xz me W x (ZR h)) (fun h2=>ES H h2) _ (by have h3:=pV [kI W.pt (many W) x.n me (aL W me) x.a (aL W x.a)] W { W with pt:=kJ W.pt x.n x.a (aL W x.a) } 0;rw[wB] at h3;exact h3)) ?_;rw[show bD W me x=yR W me x.a x.n from by unfold bD;rw[yd T,yd D,yd E,yd F,yd I,yd J,ye M]];exact wC _ _ _ _ _
 by_cases U:x.k=18
 ·rw[U];refine yj (Xr V) (fun e V1 hv=>?_);obtain⟨Z,he,hb,hc⟩:=hv;refine⟨_,_,fun V=>V.cell? ⟨Z,0,none⟩=some (.func (.func 121) #[] #[]),he,hb,hc,GY,(yM func143 (by kernel_rfl) rfl),GU 121 Z (yM func121 (by kernel_rfl) rfl) me W x W _ _ (Yf me W x) (fun h2=>ET (n:=x.n) H (k:=me) (bM (bM (bM h2).2).2).1) _ ?_⟩;rw[show bD W me x=yS W me x.a x.n from by unfold bD;rw[yd T,yd D,yd E,yd F,yd I,yd J,yd M,ye U]];exact pV _ _ _ _
 by_cases a5:x.k=19
 ·rw[a5];refine yj (Xt V) (fun e V1 hv=>?_);obtain⟨Z,he,hb,hc⟩:=hv;refine⟨_,_,fun V=>V.cell? ⟨Z,0,none⟩=some (.func (.func 122) #[] #[]),he,hb,hc,GY,(yM func143 (by kernel_rfl) rfl),GU 122 Z (yM func122 (by kernel_rfl) rfl) me W x _ _ _ (Yg me W x) (fun h2=>zF H hm h2) _ ?_⟩;rw[show bD W me x=yT W me x.n from by unfold bD;rw[yd T,yd D,yd E,yd F,yd I,yd J,yd M,yd U,ye a5]];have h3:=pV [gK W.pt (many W) x.n me (aL W me)] W { setR W me { rlm W me with i:=gr (pt W.pt x.n.toNat).cm 0 } with pt:=jQ W.pt x.n } 0;rw[wB] at h3;exact h3
 by_cases O:x.k=20
 ·rw[O];refine yj (Xu V) (fun e V1 hv=>?_);obtain⟨Z,he,hb,hc⟩:=hv;refine⟨_,_,fun V=>V.cell? ⟨Z,0,none⟩=some (.func (.func 123) #[] #[]),he,hb,hc,GY,(yM func143 (by kernel_rfl) rfl),GU 123 Z (yM func123 (by kernel_rfl) rfl) me W x W _ _ (Xy me W x) (fun h2=>EU (k:=me) H h2) _ ?_⟩;rw[show bD W me x=yU W me x.n from by unfold bD;rw[yd T,yd D,yd E,yd F,yd I,yd J,yd M,yd U,yd a5,ye O]];have h3:=pV [aX W.pt (many W) x.n me (aL W me)] W { W with pt:=kL W.pt x.n } 0;rw[wB] at h3;exact h3
 refine yj (Xx x.k V ⟨T,F,E,D,I,J,M,U,a5,O⟩) (fun e V1 hv=>⟨_,_,fun _=>True,hv.1,hv.2,trivial,(fun _ _ _ _=>trivial),(yM func124 (by kernel_rfl) rfl),?_⟩);rw[show bD W me x=wDo W me x from by unfold bD;rw[yd T,yd D,yd E,yd F,yd I,yd J,yd M,yd U,yd a5,yd O]];exact Wq me W x
variable {H:Type} {enc:TypeId × Value->H} {w:Wd} {base:Nat} {spare:Nat->Bool} {held:Bool}
theorem OY:prog.cellsOf 121=5:=by kernel_rfl
theorem zxE(len:Nat)(P:Nat->List Cl->Prop)(h:∀ i,i<len->∃ x,P i x):∃ S:List (List Cl),S.length=len/\∀ i,i<len->P i (gr S i):=by
 induction len with
 | zero=>exact⟨[],rfl,fun i hi=>absurd hi (yB _)⟩
 | succ n F =>
  obtain⟨S,hl,D⟩:=F (fun i hi=>h i (by omega));obtain⟨x,E⟩:=h n (by omega);refine⟨S++[x],by simp[hl],fun i hi=>?_⟩;by_cases e:i=n
  ·subst e;rw[<- hl,KD];rw[hl];exact E
  ·rw[KC (by omega)];exact D i (by omega)
theorem zxF(len:Nat)(P:Nat->Pt->Prop)(h:∀ i,i<len->∃ x,P i x):∃ S:List Pt,S.length=len/\∀ i,i<len->P i (pt S i):=by
 induction len with
 | zero=>exact⟨[],rfl,fun i hi=>absurd hi (yB _)⟩
 | succ n F =>
  obtain⟨S,hl,D⟩:=F (fun i hi=>h i (by omega));obtain⟨x,E⟩:=h n (by omega);refine⟨S++[x],by simp[hl],fun i hi=>?_⟩;by_cases e:i=n
  ·subst e;rw[<- hl,UL];rw[hl];exact E
  ·rw[uW (by omega)];exact D i (by omega)
theorem znJ{fuel:Nat}{cs:List Value}{x:DataW H × List MemPlace}(h:DataW.trod enc prog w base spare held fuel 119 cs=some x) :
  ∃ a c,∃ S:List (List Cl),cs=[.slice a S.length c]/\S.length<=9223372036854775807/\mK S/\kQ w a c S:=by
 rcases Go.Deep.open_slice underlying119 h with ⟨rfl,_⟩ |⟨a,len,cap,m,n,D,Pl,rfl,_,hl,hm,a6,_,hx⟩
 ·exact⟨none,0,[],rfl,by simp,fun i hi=>absurd hi (yB _),⟨fun _=>rfl,by simp,by omega⟩,fun i hi=>absurd hi (yB _)⟩
 ·have a8:len<=m:=by rw[a6];split <;> omega
  have O:cap<=9223372036854775807:=by unfold maxLen at hm;omega
  obtain⟨U,Z,T⟩:=a;by_cases h0:len=0
  ·subst h0;exact⟨_,cap,[],rfl,by simp,fun i hi=>absurd hi (yB _),⟨(fun e=>by cases e),by simp,O⟩,fun i hi=>absurd hi (yB _)⟩
  ·have a7:T=none:=by
    obtain⟨I,hc,ht⟩:=hx 0 (by omega);rw[Ag] at hc;obtain⟨_,M,F⟩:=World.cells?_some hc;have h1:=F 0 (by omega);rw[List.getElem?_eq_getElem (by omega)] at h1;simpa [Addr.add] using World.cell?_spot h1
   subst a7
   obtain⟨S,E,J⟩:=zxE len (fun i x=>(∃ ga gc,w.cell? ⟨U,Z+i,none⟩=some (.slice ga x.length gc)/\aO w ga x)/\x.length<=9223372036854775807/\fK x) (fun i hi=>by
    obtain⟨I,hc,ht⟩:=hx i (by omega);rw[Ag] at hc;obtain⟨_,M,F⟩:=World.cells?_some hc
    match I,M with
    | [a0],_ =>
     obtain⟨y0,n', _,_,g0⟩:=trod_struct1 underlying47 ht;obtain⟨ga,gc,G,e,h1,h2,h3⟩:=OT g0;cases e;refine⟨G,⟨ga,gc,?_,h3⟩,h1,h2⟩;have h4:=F 0 (by omega);rw[add_plain,add_plain,Nat.mul_one,Nat.add_zero] at h4;exact h4)
   exact⟨some ⟨U,Z,none⟩,cap,S,by rw[E],by rw[E];omega,fun i hi=>(J i (by omega)).2,⟨(fun e=>by cases e),by rw[E];exact hl,O⟩,fun i hi=>by
    obtain⟨ga,gc,c0,a5⟩:=(J i (by omega)).1;exact⟨U,Z,ga,gc,rfl,c0,a5⟩⟩
theorem zsa{fuel b o:Nat}{E:List Value}{x:DataW H × List MemPlace}(h:DataW.trod enc prog w base spare held fuel 121 E=some x)(hc:∀ j,j<5->w.cell? ⟨b,o+j,none⟩=E[j]?) :
  ∃ y:Pt,vL w b o y/\y.cm.length<=9223372036854775807/\mK y.cm:=by
 obtain⟨xs,n,_,_,hl,J,D⟩:=DataW.trod_struct underlying121 h;rw[OY] at hl
 match E,hl with
 | [a0,a1,a2,a3,a4],_ =>
  match xs,J with
  | [x0,x1,x2,x3,x4],_ =>
   have g0:=D 0 _ rfl;have g1:=D 1 _ rfl;have g2:=D 2 _ rfl;have g3:=D 3 _ rfl;have g4:=D 4 _ rfl;obtain⟨n0,T,_⟩:=DataW.trod_int underlying3 g0;obtain⟨n1,U,_⟩:=DataW.trod_int underlying3 g1;obtain⟨n2,Z,_⟩:=DataW.trod_int underlying3 g2;obtain⟨M,O,C,e3,F,I,hI⟩:=znJ g3;obtain⟨n4,e4,_⟩:=DataW.trod_bool underlying4 g4
   cases T;cases U;cases Z;cases e3;cases e4
   exact⟨⟨n0,n1,n2,C,n4⟩,⟨hc 0 (by omega),hc 1 (by omega),hc 2 (by omega),M,O,hc 3 (by omega),hI,hc 4 (by omega)⟩,F,I⟩
theorem zpk{fuel:Nat}{cs:List Value}{x:DataW H × List MemPlace}(h:DataW.trod enc prog w base spare held fuel 26 cs=some x) :
  ∃ a c,∃ S:List Pt,cs=[.slice a S.length c]/\S.length<=9223372036854775807/\iH S/\SlA a S.length c/\cK w a S:=by
 rcases Go.Deep.open_slice underlying26 h with ⟨rfl,_⟩ |⟨a,len,cap,m,n,D,Pl,rfl,_,hl,hm,a5,_,hx⟩
 ·exact⟨none,0,[],rfl,by simp,fun i hi=>absurd hi (yB _),⟨fun _=>rfl,by simp,by omega⟩,fun i hi=>absurd hi (yB _)⟩
 ·have a7:len<=m:=by rw[a5];split <;> omega
  have J:cap<=9223372036854775807:=by unfold maxLen at hm;omega
  obtain⟨O,T,M⟩:=a;by_cases h0:len=0
  ·subst h0;exact⟨_,cap,[],rfl,by simp,fun i hi=>absurd hi (yB _),⟨(fun e=>by cases e),by simp,J⟩,fun i hi=>absurd hi (yB _)⟩
  ·have a6:M=none:=by
    obtain⟨U,hc,ht⟩:=hx 0 (by omega);rw[OY] at hc;obtain⟨_,Z,F⟩:=World.cells?_some hc;have h1:=F 0 (by omega);rw[List.getElem?_eq_getElem (by omega)] at h1;simpa [Addr.add] using World.cell?_spot h1
   subst a6
   obtain⟨S,E,I⟩:=zxF len (fun i x=>vL w O (T+i*5) x/\x.cm.length<=9223372036854775807/\mK x.cm) (fun i hi=>by
    obtain⟨U,hc,ht⟩:=hx i (by omega);rw[OY] at hc;obtain⟨_,Z,F⟩:=World.cells?_some hc;refine zsa ht (fun j hj=>?_);have h1:=F j hj
    rwa [add_plain,add_plain] at h1)
   exact⟨some ⟨O,T,none⟩,cap,S,by rw[E],by rw[E];omega,fun i hi=>(I i (by omega)).2,⟨(fun e=>by cases e),by rw[E];exact hl,J⟩,fun i hi=>⟨O,T,rfl,(I i (by omega)).1⟩⟩
variable {H:Type} {enc:TypeId × Value->H} {w:Wd} {base:Nat} {spare:Nat->Bool} {held:Bool}
theorem zxG{α:Type}(z:α)(len:Nat)(P:Nat->α->Prop)(h:∀ i,i<len->∃ x,P i x):∃ S:List α,S.length=len/\∀ i,i<len->P i (S.getD i z):=by
 induction len with
 | zero=>exact⟨[],rfl,fun i hi=>absurd hi (yB _)⟩
 | succ n I =>
  obtain⟨S,hl,E⟩:=I (fun i hi=>h i (by omega));obtain⟨x,F⟩:=h n (by omega);refine⟨S++[x],by simp[hl],fun i hi=>?_⟩;by_cases e:i=n
  ·subst e;rw[aJ _ _ (by simp[hl])];simpa [hl] using F
  ·have D:i<S.length:=(by omega);have:=E i (by omega);rw[aJ _ _ D] at this;rw[aJ _ _ (by simp;omega),List.getElem_append_left D];exact this
theorem wF{α:Type}(z:α)(Q:List Value->α->Prop){tS tE size fuel:Nat}{cs:List Value}{x:DataW H × List MemPlace}(hu:prog.underlying tS=some (.slice tE))(hc:prog.cellsOf tE=size)(hs:0<size)
  (hE:∀ (n:Nat) (E:List Value) (x' : DataW H × List MemPlace),DataW.trod enc prog w base spare held n tE E=some x' -> ∃ y,Q E y) (h:DataW.trod enc prog w base spare held fuel tS cs=some x) :
  ∃ a c,∃ S:List α,cs=[.slice a S.length c]/\SlA a S.length c/\∀ i,i<S.length->∃ b o E,a=some ⟨b,o,none⟩/\(∀ j,j<size->w.cell? ⟨b,o+i*size+j,none⟩=E[j]?)/\Q E (S.getD i z):=by
 rcases Go.Deep.open_slice hu h with ⟨rfl,_⟩ |⟨a,len,cap,m,n,D,Pl,rfl,_,hl,hm,a6,_,hx⟩
 ·exact⟨none,0,[],rfl,⟨fun _=>rfl,by simp,by omega⟩,fun i hi=>absurd hi (yB _)⟩
 ·have a8:len<=m:=by rw[a6];split <;> omega
  have M:cap<=9223372036854775807:=by unfold maxLen at hm;omega
  obtain⟨T,U,O⟩:=a;by_cases h0:len=0
  ·subst h0;exact⟨_,cap,[],rfl,⟨(fun e=>by cases e),by simp,M⟩,fun i hi=>absurd hi (yB _)⟩
  ·have a7:O=none:=by
    obtain⟨E,F,ht⟩:=hx 0 (by omega);rw[hc] at F;obtain⟨_,a5,I⟩:=World.cells?_some F;have h1:=I 0 hs;rw[List.getElem?_eq_getElem (by omega)] at h1;simpa [Addr.add] using World.cell?_spot h1
   subst a7
   obtain⟨S,J,Z⟩:=zxG z len (fun i y=>∃ E,(∀ j,j<size->w.cell? ⟨T,U+i*size+j,none⟩=E[j]?)/\Q E y) (fun i hi=>by
    obtain⟨E,F,ht⟩:=hx i (by omega);rw[hc] at F;obtain⟨_,a5,I⟩:=World.cells?_some F;obtain⟨y,hy⟩:=hE _ _ _ ht;refine⟨y,E,fun j hj=>?_,hy⟩;have h1:=I j hj
    rwa [add_plain,add_plain] at h1)
   refine⟨some ⟨T,U,none⟩,cap,S,by rw[J],⟨(fun e=>by cases e),by rw[J];exact hl,M⟩,fun i hi=>?_⟩;obtain⟨E,h1,h2⟩:=Z i (by omega);exact⟨T,U,E,rfl,h1,h2⟩
theorem pW:prog.cellsOf 65=5/\prog.cellsOf 34=1/\prog.cellsOf 53=2/\prog.cellsOf 51=1/\prog.cellsOf 40=2/\prog.cellsOf 28=5:=⟨by kernel_rfl,by kernel_rfl,by kernel_rfl,by kernel_rfl,by kernel_rfl,by kernel_rfl⟩
theorem znI{fuel:Nat}{I:List Value}{x:DataW H × List MemPlace}(h:DataW.trod enc prog w base spare held fuel 22 I=some x) :
  ∃ a c,∃ S:List Fr,I=[.slice a S.length c]/\SlA a S.length c/\aS w a S:=by
 obtain⟨a,c,S,e,hs,hx⟩:=wF (⟨0,0,0,0,false⟩:Fr) (fun D y=>D=[.int .i64 y.p,.int .i64 y.o,.int .i64 y.m,.int .i64 y.t,.bool y.g]) underlying22 pW.1 (by decide) (fun n D x' ht=>by
  obtain⟨xs,n', _,_,hl,F,E⟩:=DataW.trod_struct underlying65 ht;rw[pW.1] at hl
  match D,hl with
  | [a0,a1,a2,a3,a4],_ =>
   match xs,F with
   | [x0,x1,x2,x3,x4],_ =>
    obtain⟨n0,J,_⟩:=DataW.trod_int underlying3 (E 0 _ rfl);obtain⟨n1,M,_⟩:=DataW.trod_int underlying3 (E 1 _ rfl);obtain⟨n2,O,_⟩:=DataW.trod_int underlying3 (E 2 _ rfl);obtain⟨n3,T,_⟩:=DataW.trod_int underlying3 (E 3 _ rfl);obtain⟨n4,U,_⟩:=DataW.trod_bool underlying4 (E 4 _ rfl)
    cases J;cases M;cases O;cases T;cases U
    exact⟨⟨n0,n1,n2,n3,n4⟩,rfl⟩) h
 refine⟨a,c,S,e,hs,fun i hi=>?_⟩;obtain⟨b,o,D,Z,hc,rfl⟩:=hx i hi;exact⟨b,o,Z,hc 0 (by decide),hc 1 (by decide),hc 2 (by decide),hc 3 (by decide),hc 4 (by decide)⟩
theorem zph{fuel:Nat}{J:List Value}{x:DataW H × List MemPlace}(h:DataW.trod enc prog w base spare held fuel 51 J=some x) :
  ∃ a c,∃ S:List Ml,J=[.slice a S.length c]/\SlA a S.length c/\gX w a S/\∀ j,j<S.length->(ml S j).g.length<=9223372036854775807/\fK (ml S j).g:=by
 obtain⟨a,c,S,e,hs,T⟩:=wF LX (fun D y=>∃ ga gc,D=[.int .i64 y.f,.slice ga y.g.length gc]/\aO w ga y.g/\y.g.length<=9223372036854775807/\fK y.g) underlying51 pW.2.2.1 (by decide) (fun n D x' ht=>by
  obtain⟨xs,n', _,_,hl,F,O⟩:=DataW.trod_struct underlying53 ht;rw[pW.2.2.1] at hl
  match D,hl with
  | [a0,a1],_ =>
   match xs,F with
   | [x0,x1],_ =>
    obtain⟨n0,Z,_⟩:=DataW.trod_int underlying3 (O 0 _ rfl);obtain⟨_,_,_,_,s2⟩:=trod_struct1 underlying47 (O 1 _ rfl);obtain⟨a2,c2,I,e2,n2,U,E⟩:=OT s2
    cases Z;cases e2
    exact⟨⟨n0,I⟩,a2,c2,rfl,E,n2,U⟩) h
 refine⟨a,c,S,e,hs,fun i hi=>?_,fun i hi=>?_⟩
 ·obtain⟨b,o,D,M,hc,ga,gc,rfl,h1,_⟩:=T i hi;exact⟨b,o,ga,gc,M,hc 0 (by decide),hc 1 (by decide),h1⟩
 ·obtain⟨b,o,D,M,hc,ga,gc,rfl,_,E⟩:=T i hi;exact E
theorem znK{fuel:Nat}{I:List Value}{x:DataW H × List MemPlace}(h:DataW.trod enc prog w base spare held fuel 25 I=some x) :
  ∃ a c,∃ S:List (List Ml),I=[.slice a S.length c]/\SlA a S.length c/\qN w a S/\∀ i,i<S.length->(qu S i).length<=9223372036854775807/\∀ j,j<(qu S i).length->(ml (qu S i) j).g.length<=9223372036854775807/\fK (ml (qu S i) j).g:=by
 obtain⟨a,c,S,e,hs,M⟩:=wF ([]:List Ml) (fun D y=>∃ qa qc,D=[.slice qa y.length qc]/\SlA qa y.length qc/\gX w qa y/\∀ j,j<y.length->(ml y j).g.length<=9223372036854775807/\fK (ml y j).g) underlying25 pW.2.2.2.1 (by decide) (fun n D U T=>by
  obtain⟨qa,qc,q,O,h1,E,F⟩:=zph T;exact⟨q,qa,qc,O,h1,E,F⟩) h
 refine⟨a,c,S,e,hs,fun i hi=>?_,fun i hi=>?_⟩
 ·obtain⟨b,o,D,J,hc,qa,qc,rfl,h1,E,_⟩:=M i hi;have h0:=hc 0 (by decide);rw[Nat.mul_one,Nat.add_zero] at h0;exact⟨b,o,qa,qc,J,h0,h1,E⟩
 ·obtain⟨b,o,D,J,hc,qa,qc,rfl,h1,_,F⟩:=M i hi;exact⟨yJ h1.2.1 h1.2.2,F⟩
theorem Ak{fuel:Nat}{E:List Value}{x:DataW H × List MemPlace}(h:DataW.trod enc prog w base spare held fuel 24 E=some x) :
  ∃ a c,∃ S:List (List Ac),E=[.slice a S.length c]/\SlA a S.length c/\lQ w a S/\∀ i,i<S.length->(pg S i).length<=9223372036854775807:=by
 obtain⟨a,c,S,e,hs,J⟩:=wF ([]:List Ac) (fun D y=>∃ qa qc,D=[.slice qa y.length qc]/\y.length<=9223372036854775807/\dY w qa y) underlying24 pW.2.1 (by decide) (fun n D U T=>by
  obtain⟨qa,qc,q,M,h1,I,O⟩:=zrV T;exact⟨q,qa,qc,M,by omega,O⟩) h
 refine⟨a,c,S,e,hs,fun i hi=>?_,fun i hi=>?_⟩
 ·obtain⟨b,o,D,F,hc,qa,qc,rfl,h1,I⟩:=J i hi;have h0:=hc 0 (by decide);rw[Nat.mul_one,Nat.add_zero] at h0;exact⟨b,o,qa,qc,F,h0,I⟩
 ·obtain⟨b,o,D,F,hc,qa,qc,rfl,h1,_⟩:=J i hi;exact h1
theorem Al{fuel:Nat}{F:List Value}{x:DataW H × List MemPlace}(h:DataW.trod enc prog w base spare held fuel 23 F=some x) :
  ∃ a c,∃ S:List Rl,F=[.slice a S.length c]/\SlA a S.length c/\kR w a S/\∀ i,i<S.length->iG (rl S i):=by
 obtain⟨a,c,S,e,hs,J⟩:=wF dJ (fun D R=>∃ A:RA,D=[.slice A.a0 R.s.length A.c0,.slice A.a1 R.hs.length A.c1,.slice A.a2 R.i.length A.c2,.slice A.a3 R.t.length A.c3]/\iG R/\aU w A R) underlying23 Aj (by decide) (fun n D T O=>by
  obtain⟨A,R,M,h1,E⟩:=zpl O;exact⟨R,A,M,h1,E⟩) h
 refine⟨a,c,S,e,hs,fun i hi=>?_,fun i hi=>?_⟩
 ·obtain⟨b,o,D,I,hc,A,rfl,h1,E⟩:=J i hi;exact⟨b,o,A,I,hc 0 (by decide),hc 1 (by decide),hc 2 (by decide),hc 3 (by decide),E⟩
 ·obtain⟨b,o,D,I,hc,A,rfl,h1,_⟩:=J i hi;exact h1
theorem zpj{fuel:Nat}{F:List Value}{x:DataW H × List MemPlace}(h:DataW.trod enc prog w base spare held fuel 71 F=some x) :
  ∃ a c,∃ S:List (Int × Bool),F=[.slice a S.length c]/\SlA a S.length c/\mO w a S:=by
 obtain⟨a,c,S,e,hs,U⟩:=wF ((0,false):Int × Bool) (fun D y=>D=[.int .i64 y.1,.bool y.2]) underlying71 pW.2.2.2.2.1 (by decide) (fun n D x' T=>by
  obtain⟨xs,n', _,_,hl,E,I⟩:=DataW.trod_struct underlying40 T;rw[pW.2.2.2.2.1] at hl
  match D,hl with
  | [a0,a1],_ =>
   match xs,E with
   | [x0,x1],_ =>
    obtain⟨Z,J,_⟩:=DataW.trod_int underlying3 (I 0 _ rfl);obtain⟨n1,M,_⟩:=DataW.trod_bool underlying4 (I 1 _ rfl)
    cases J;cases M
    exact⟨(Z,n1),rfl⟩) h
 refine⟨a,c,S,e,hs,fun i hi=>?_⟩;obtain⟨b,o,D,O,hc,rfl⟩:=U i hi;exact⟨b,o,O,hc 0 (by decide),hc 1 (by decide)⟩
theorem zpn{fuel:Nat}{E:List Value}{x:DataW H × List MemPlace}(h:DataW.trod enc prog w base spare held fuel 28 E=some x) :
  ∃ (A:WA) (W:Wl),E=[.slice A.a0 W.fs.length A.c0,.slice A.a1 W.rs.length A.c1,.slice A.a2 W.ps.length A.c2,.slice A.a3 W.qs.length A.c3,.slice A.a4 W.pt.length A.c4]/\kS W/\WlC A W/\gP w A W:=by
 obtain⟨xs,n,_,_,hl,F,D⟩:=DataW.trod_struct underlying28 h;rw[pW.2.2.2.2.2] at hl
 match E,hl with
 | [v0,v1,v2,v3,v4],_ =>
  match xs,F with
  | [x0,x1,x2,x3,x4],_ =>
   obtain⟨a0,c0,I,T,s0,h0⟩:=znI (D 0 _ rfl);obtain⟨a1,c1,J,U,s1,h1,g1⟩:=Al (D 1 _ rfl);obtain⟨a2,c2,M,Z,s2,h2,g2⟩:=Ak (D 2 _ rfl);obtain⟨a3,c3,O,e3,s3,h3,g3⟩:=znK (D 3 _ rfl);obtain⟨a4,c4,S4,e4,n4,g4,s4,h4⟩:=zpk (D 4 _ rfl)
   cases T;cases U;cases Z;cases e3;cases e4
   exact⟨⟨a0,a1,a2,a3,a4,c0,c1,c2,c3,c4⟩,⟨I,J,M,O,S4⟩,rfl,⟨yJ s0.2.1 s0.2.2,⟨yJ s1.2.1 s1.2.2,g1⟩,⟨yJ s2.2.1 s2.2.2,g2⟩,⟨yJ s3.2.1 s3.2.2,g3⟩,n4,g4⟩,⟨s0,s1,s2,s3,s4⟩,⟨h0,h1,h2,h3,h4⟩⟩
theorem zsc{r:Reach}{E:Nat}{v:Value}{d:DataW H}{p:List MemPlace}(hv:Value.okWide prog w r E 28 v)(h:DataW.Trod enc prog w base spare held 28 v d p) :
  ∃ (A:WA) (W:Wl),v=wlV A W/\kS W/\WlC A W/\gP w A W:=by
 obtain⟨D,rfl,T⟩:=okWide_struct underlying28 hv;obtain⟨fuel,O⟩:=h;obtain⟨A,R,e,I,J,M⟩:=zpn O;refine⟨A,R,?_,I,J,M⟩;have F:D.toList=_:=e;rw[show D=D.toList.toArray from by simp,F]
theorem zrZ{r:Reach}{D:Nat}{v:Value}{d:DataW H}{p:List MemPlace}(hv:Value.okWide prog w r D 71 v)(h:DataW.Trod enc prog w base spare held 71 v d p) :
  ∃ a c,∃ S:List (Int × Bool),v=.slice a S.length c/\SlA a S.length c/\mO w a S:=by
 obtain⟨I,len,cap,rfl⟩:=okWide_slice underlying71 hv;obtain⟨fuel,F⟩:=h;obtain⟨ka,kc,ks,e,h1,E⟩:=zpj F;simp[Value.cells] at e;obtain⟨rfl,rfl,rfl⟩:=e;exact⟨_,_,ks,rfl,h1,E⟩
