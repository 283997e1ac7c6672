/-
  x
-/
import Derived.Test.YtcbcpomacdngmaaGreatQ17
namespace Go.Proofs.YtcbcpomacdngmaaGreat
set_option maxRecDepth 100000
set_option maxHeartbeats 4000000
set_option linter.unusedVariables false
open Go.RowKit
def Dead(S:List Nd)(h:Int × Int):Prop:=∃ k:Nat,h.1=k/\k<S.length/\(h.2<(nd S k).n\/((nd S k).n=h.2/\(nd S k).u=false))
def zsf(S:List Nd)(h:Int × Int)(m:Int):Prop:=(∃ k:Nat,h.1=k/\k<S.length/\(nd S k).u=true/\(nd S k).n=h.2/\(nd S k).m=m)\/Dead S h
theorem Dead.step{R Q:Rl}{x:Ac}{o:Int}(K:Kept R x Q o){h:Int × Int}(I:Dead R.s h):Dead Q.s h:=by
 obtain⟨k,e,D,hd⟩:=I;refine⟨k,e,by rw[K.len];exact D,?_⟩;obtain⟨q,J⟩:=K.node;rcases J k D with ⟨s1,s2,_,_⟩ |⟨_,⟨T,U,F,_⟩ |⟨d1,d2,d3⟩ |⟨M,O,_⟩⟩
 ·rw[s1,s2];exact hd
 ·left;rw[F];rcases hd with hd |⟨hd,_⟩ <;> omega
 ·rcases hd with hd |⟨hd,E⟩
  ·left;rw[d3];exact hd
  ·rw[d1] at E;cases E
 ·rw[M,O];exact hd
theorem zsf.step{R Q:Rl}{x:Ac}{o:Int}(K:Kept R x Q o){h:Int × Int}{m:Int}(I:zsf R.s h m)(O:¬ (hd R x.a=h/\(x.k=5\/x.k=11))):zsf Q.s h m:=by
 rcases I with ⟨k,e,E,T,hn,Z⟩|I
 ·by_cases D:x.k=5\/x.k=11
  ·obtain⟨k', e', F,a5,J,_,hs,_⟩:=K.mark D
   have M:k≠k' := fun e2=>O ⟨by
    subst e2;refine Prod.ext ?_ ?_
    ·rw[e', e]
    ·rw[<- J,<- hn],D⟩
   left;refine⟨k,e,by rw[K.len];exact E,?_⟩;rw[hs,zct _ _ _ _ F,ya M];exact⟨T,hn,Z⟩
  ·obtain⟨hl,q,hq⟩:=K.mild (fun h=>D (Or.inl h)) (fun h=>D (Or.inr h));rcases hq k E with ⟨s1,s2,_,s4⟩ |⟨_,⟨U,b2,b3,_⟩ |⟨d1,d2,d3⟩⟩
   ·left;exact⟨k,e,by rw[K.len];exact E,by rw[s1];exact T,by rw[s2];exact hn,by rw[s4];exact Z⟩
   ·rw[T] at U;cases U
   ·right;exact⟨k,e,by rw[K.len];exact E,Or.inr ⟨by rw[d3];exact hn,d2⟩⟩
 ·exact Or.inr (I.step K)
theorem zsf.new{R Q:Rl}{x:Ac}{o:Int}(K:Kept R x Q o){h:Int × Int}(hh:hd R x.a=h)(J:x.k=5\/x.k=11):zsf Q.s h (if x.k=11 then (cl R.i x.n.toNat).n else x.n):=by
 obtain⟨k', I,D,F,E,_,hs,_⟩:=K.mark J;left;refine⟨k', by rw[<- hh];exact I,by rw[K.len];exact D,?_⟩;rw[hs,zct _ _ _ _ D,yb rfl];exact⟨F,by rw[<- hh];exact E,rfl⟩
def ztO(S T:List Nd):Nat->Nat
 | 0=>0
 | j+1=>ztO S T j+if (nd T j).m=(nd S j).m then 0 else 1
def ztr(A B:List (Int × Int)):Nat->Nat
 | 0=>0
 | j+1=>ztr A B j+if B.getD j (0,0)=A.getD j (0,0) then 0 else 1
theorem Kept.marks{R Q:Rl}{x:Ac}{o:Int}(K:Kept R x Q o):∀ j,j<=R.s.length->ztO R.s Q.s j<=1:=by
 obtain⟨q,E⟩:=K.node
 have key:∀ j,j<=R.s.length->ztO R.s Q.s j<=if q<j then 1 else 0:=by
  intro j
  induction j with
  | zero=>intro _;simp[ztO]
  | succ j F =>
   intro D;have h1:=F (by omega);unfold ztO;by_cases e:j=q
   ·subst e;rw[ya (by omega)] at h1;rw[show (if j<j+1 then (1:Nat) else 0)=1 from yb (by omega)]
    split <;> omega
   ·rcases E j (by omega) with ⟨_,_,_,s4⟩ |⟨h,_⟩
    ·rw[yb s4]
     split at h1
     ·rw[yb (by omega)];omega
     ·rw[ya (by omega)];omega
    ·exact absurd h e
 intro j D;have:=key j D
 split at this <;> omega
theorem Kept.hands{R Q:Rl}{x:Ac}{o:Int}(K:Kept R x Q o):∀ j,ztr R.hs Q.hs j<=1:=by
 obtain⟨q,E⟩:=K.hand
 have key:∀ j,ztr R.hs Q.hs j<=if q<j then 1 else 0:=by
  intro j
  induction j with
  | zero=>simp[ztr]
  | succ j D =>
   unfold ztr;by_cases e:j=q
   ·subst e;rw[ya (by omega)] at D;rw[show (if j<j+1 then (1:Nat) else 0)=1 from yb (by omega)]
    split <;> omega
   ·rw[yb (E j e)]
    split at D
    ·rw[yb (by omega)];omega
    ·rw[ya (by omega)];omega
 intro j;have:=key j
 split at this <;> omega
theorem Kept.uses{R Q:Rl}{x:Ac}{o:Int}(K:Kept R x Q o){i:Nat}(hi:i<R.s.length):(nd R.s i).n<=(nd Q.s i).n/\(nd Q.s i).n<=(nd R.s i).n+1/\((nd Q.s i).u=true->(nd R.s i).u=true->(nd Q.s i).t=(nd R.s i).t/\(nd Q.s i).n=(nd R.s i).n):=by
 obtain⟨q,E⟩:=K.node;rcases E i hi with ⟨s1,s2,s3,_⟩ |⟨_,⟨D,J,M,_⟩ |⟨d1,d2,d3⟩ |⟨O,F,I⟩⟩
 ·exact⟨by omega,by omega,fun _ _=>⟨s3,s2⟩⟩
 ·exact⟨by omega,by omega,fun _ h=>by rw[D] at h;cases h⟩
 ·exact⟨by omega,by omega,fun h _=>by rw[d2] at h;cases h⟩
 ·exact⟨by omega,by omega,fun _ _=>⟨I,F⟩⟩
theorem zod{B:Nat}{w w' : World}(h:Below B w w')(n:Nat):Below B w (w'.drewN n):=⟨h.os,h.tape,h.output,h.size,h.block⟩
structure RA where
 a0:Option Addr
 a1:Option Addr
 a2:Option Addr
 a3:Option Addr
 c0:Nat
 c1:Nat
 c2:Nat
 c3:Nat
def zcp(w:World)(A:RA)(R:Rl):Prop:=zah w A.a0 R.s/\zas w A.a1 R.hs/\zaG w A.a2 R.i/\zaj w A.a3 R.t
abbrev rlV(A:RA)(R:Rl):Value:=.agg #[.slice A.a0 R.s.length A.c0,.slice A.a1 R.hs.length A.c1,.slice A.a2 R.i.length A.c2,.slice A.a3 R.t.length A.c3]
abbrev acV(x:Ac):Value:=.agg #[.int .i64 x.k,.int .i64 x.a,.int .i64 x.b,.int .i64 x.c,.int .i64 x.n]
abbrev bxR(A:RA)(R:Rl):Obj:=.cells #[.slice A.a0 R.s.length A.c0,.slice A.a1 R.hs.length A.c1,.slice A.a2 R.i.length A.c2,.slice A.a3 R.t.length A.c3] 50 (0,0)
def zsb(R:Rl):Prop:=R.s.length<=9223372036854775807/\Big R.s/\R.hs.length<=9223372036854775807/\R.i.length<=9223372036854775807/\zkz R.i/\R.t.length<=9223372036854775807
theorem zcp.below{w w' : World}{A:RA}{R:Rl}(h:zcp w A R)(D:Below w.heap.size w w'):zcp w' A R:=⟨h.1.below D,h.2.1.below D,h.2.2.1.below D,h.2.2.2.below D⟩
theorem zjL(w:World)(A:RA):zcp w A zbK:=⟨fun _ h=>absurd h (yw _),fun _ h=>absurd h (yw _),fun _ h=>absurd h (yw _),fun _ h=>absurd h (yw _)⟩
theorem zey{m:Nat}:∀ {G:List Cl},cellsE m G=0->∀ i,i<G.length->zfa m (cl G i)=0
 | [],_,i,hi=>absurd hi (yw _)
 | x :: r,h,i,hi=>by
  unfold cellsE at h;by_cases h1:zfa m x=0
  ·rw[yb h1] at h
   match i,hi with
   | 0,_=>exact h1
   | i+1,hi=>exact zey (G:=r) h i (by simpa using hi)
  ·rw[ya h1] at h;exact absurd h h1
theorem zdg{G:List Cl}(h:zav G=0):G.length<=24/\zkz G:=by
 unfold zav at h;by_cases h1:24<G.length
 ·rw[yb h1] at h;omega
 ·rw[ya h1] at h;refine⟨by omega,fun i hi=>?_⟩;have:=zey h i hi;unfold zfa at this
  split at this
  ·omega
  ·split at this
   ·omega
   ·omega
theorem zdo{R:Rl}(h:zaF R=0):zsb R:=by
 obtain⟨h1,E,D,F⟩:=zaB h;have:=zdg D;exact⟨by have:=h1.small;omega,h1.big,by omega,by omega,this.2,by omega⟩
def zAN(p:Int):Int:=if 0<=p/\p<=24 then 0 else 2
def zdj(p:Int):Rl:=if 0<=p/\p<=24 then ⟨List.replicate p.toNat zbc,List.replicate 16 (0,0),[],[]⟩ else zbK
def zpo:Prop:=∀ (p:Int) (w:World),
 Calls Tryz.prog 28 #[.int .i64 p] w fun e w' => ∃ B:RA,e=.returned (.tuple #[rlV B (zdj p),.int .i64 (zAN p)])/\Below w.heap.size w w' /\ zcp w' B (zdj p)
def zsh:Prop:=∀ (A:RA) (R:Rl) (w:World),zsb R->zcp w A R ->
 Calls Tryz.prog 32 #[rlV A R] w fun e w' => e=.returned (.int .i64 (zaF R))/\Below w.heap.size w w'
def X1:Ac:=⟨1,2,0,0,4⟩
def X2:Ac:=⟨5,2,0,0,7⟩
def X3:Ac:=⟨6,2,0,0,0⟩
def X4:Ac:=⟨6,1,0,0,0⟩
def H0:Rl:=zdj 3
def H1:Rl:=(doF H0 X1).r
def H2:Rl:=(doF H1 X2).r
theorem zkj(a:Option Addr)(c:Nat)(L:List Fr)(k:Nat)(w:World)(hN:L.length<=8)(hk:k<L.length)(hL:zaS w a L) :
  Calls Tryz.prog 63 #[.slice a L.length c,.int .i64 k] w fun e w' => e=.returned (.int .i64 (frE L k))/\Below w.heap.size w w' := by
 have DW:Hid _:=zkw (fr L k) k (by omega);have Z:Hid _:=zmY (fr L k);have HL:Hid (zaS w a L):=hL;have b1:(k:Int)<(L.length:Int):=by omega
 obtain⟨b,o,ea,c0,c1,c2,c3,c4⟩:=hL k hk;subst ea;clear hL;by_cases h1:zgJ (fr L k) k
 ·rw[decide_eq_true h1] at DW;by_cases U:zdM (fr L k)
  ·rw[decide_eq_true U] at Z;by_cases h0:0<k
   ·have hp:0<=(fr L k).p/\(fr L k).p<=(k:Int)-1:=by unfold zgJ at h1;rwa [ya (by omega)] at h1
    obtain⟨q,hq⟩:=Int.eq_ofNat_of_zero_le hp.1;have a8:q<L.length:=by omega
    have DF:Hid _:=zmO (fr L k) (fr L q);obtain⟨b', o', ea,d0,d1,d2,d3,d4⟩:=HL.out q a8;cases ea
    have J:frE L k=if decide (zgV (fr L k) (fr L q))=true then 0 else 3:=by
     unfold frE;rw[ya (not_not_intro h1),ya (not_not_intro U),hq,yi];by_cases h:zgV (fr L k) (fr L q)
     ·rw[ya (fun hh=>hh.2 h),yb (decide_eq_true h)]
     ·rw[yb ⟨h0,h⟩,ya (by rw[decide_eq_false h];simp)]
    rw[J];rw[hq] at c0;have hw:((fr L k).p:Int)=(q:Int):=hq;generalize decide (zgV (fr L k) (fr L q))=r at *;have b2:(q:Int)<(L.length:Int):=by omega
    have b0:decide ((0:Int)<(k:Int))=true:=decide_eq_true (by omega);clear J hp HL h1 U;generalize fr L k=x at *;generalize fr L q=y at *;obtain⟨xp,xo,xm,xt,xg⟩:=x;obtain⟨yp,yo,ym,yt,yg⟩:=y;dsimp only at c0 c1 c2 c3 c4 d0 d1 d2 d3 d4 hw;have HW:Hid _:=hw;have a9:=hw;subst a9;clear hw hq HW;generalize L.length=n at *
    go_enter Tryz.func63,Tryz.ntmps63
    go_wp2_with fail
    refine ye (DW.out _) ?_;rintro e M ⟨rfl,F⟩;subst F
    go_wp2_with fail
    refine ye (Z.out _) ?_;rintro e T ⟨rfl,D⟩;have I:Hid (Below M.heap.size M T):=D;replace ⟨c0,c1,c2,c3,c4⟩:=zwm D c0 c1 c2 c3 c4;replace ⟨d0,d1,d2,d3,d4⟩:=zwm D d0 d1 d2 d3 d4;clear D
    go_wp2_with fail
    go_region_held3 (fun E=>E.cell? ⟨b,o+k*5,none⟩=some (.int .i64 (q:Int))/\E.cell? ⟨b,o+k*5+1,none⟩=some (.int .i64 xo)/\E.cell? ⟨b,o+k*5+2,none⟩=some (.int .i64 xm)/\E.cell? ⟨b,o+k*5+3,none⟩=some (.int .i64 xt)/\E.cell? ⟨b,o+k*5+4,none⟩=some (.bool xg)/\E.cell? ⟨b,o+q*5,none⟩=some (.int .i64 yp)/\E.cell? ⟨b,o+q*5+1,none⟩=some (.int .i64 yo)/\E.cell? ⟨b,o+q*5+2,none⟩=some (.int .i64 ym)/\E.cell? ⟨b,o+q*5+3,none⟩=some (.int .i64 yt)/\E.cell? ⟨b,o+q*5+4,none⟩=some (.bool yg)) (go_keep) (first|(go_at_call 96;refine ye (DF.out _) ?_;rintro e w3 ⟨rfl,a6⟩;have O:Below T.heap.size T w3:=(yk T.heap.size T).drew.trans a6;have a5:Hid (Below M.heap.size M w3):=(I.out.trans (O.mono I.out.size));obtain⟨m0,m1,m2,m3,m4⟩:=zwm O c0 c1 c2 c3 c4;obtain⟨n0,n1,n2,n3,n4⟩:=zwm O d0 d1 d2 d3 d4;clear a6 O))
    all_goals
     cases r
     ·go_wp2_with fail
      go_ret;exact⟨rfl,a5.out⟩
     ·go_wp2_with fail
      go_ret;exact⟨rfl,a5.out⟩
   ·have a7:k=0:=by omega
    subst a7
    have J:frE L 0=0:=by
     unfold frE;rw[ya (not_not_intro h1),ya (not_not_intro U),ya (fun hh=>absurd hh.1 (by omega))]
    rw[J];clear J HL h1 U;generalize fr L 0=x at *;obtain⟨xp,xo,xm,xt,xg⟩:=x;simp only[Nat.zero_mul,Nat.add_zero] at c0 c1 c2 c3 c4;generalize L.length=n at *
    go_enter Tryz.func63,Tryz.ntmps63
    go_wp2_with fail
    refine ye (DW.out _) ?_;rintro e M ⟨rfl,F⟩;subst F
    go_wp2_with fail
    refine ye (Z.out _) ?_;rintro e T ⟨rfl,D⟩;have I:Hid (Below M.heap.size M T):=D;clear D
    go_wp2_with fail
    go_big_quiet (fail)
    go_wp2_with fail
    go_ret;exact⟨rfl,zdR I.out _⟩
  ·rw[decide_eq_false U] at Z
   have J:frE L k=2:=by
    unfold frE;rw[ya (not_not_intro h1),yb U]
   rw[J];clear J HL h1 U;generalize fr L k=x at *;obtain⟨xp,xo,xm,xt,xg⟩:=x;dsimp only at c0 c1 c2 c3 c4;generalize L.length=n at *
   go_enter Tryz.func63,Tryz.ntmps63
   go_wp2_with fail
   refine ye (DW.out _) ?_;rintro e M ⟨rfl,F⟩;subst F
   go_wp2_with fail
   refine ye (Z.out _) ?_;rintro e T ⟨rfl,D⟩;have I:Hid (Below M.heap.size M T):=D;clear D
   go_wp2_with fail
   go_ret;exact⟨rfl,I.out⟩
 ·rw[decide_eq_false h1] at DW
  have J:frE L k=4:=by
   unfold frE;rw[yb h1]
  rw[J];clear J HL h1 Z;generalize fr L k=x at *;obtain⟨xp,xo,xm,xt,xg⟩:=x;dsimp only at c0 c1 c2 c3 c4;generalize L.length=n at *
  go_enter Tryz.func63,Tryz.ntmps63
  go_wp2_with fail
  refine ye (DW.out _) ?_;rintro e M ⟨rfl,F⟩;subst F
  go_wp2_with fail
  go_ret;exact⟨rfl,yk _ _⟩
theorem zdW(a:Option Addr)(c:Nat)(L:List Fr)(w:World)(hN:L.length<=9223372036854775807)(hL:zaS w a L) :
  Calls Tryz.prog 30 #[.slice a L.length c] w fun e w' => e=.returned (.int .i64 (zaM L))/\Below w.heap.size w w' := by
 by_cases hm:8<L.length
 ·have e:zaM L=1:=by unfold zaM;rw[yb hm]
  rw[e];have Z:decide ((8:Int)<(L.length:Int))=true:=decide_eq_true (by omega);clear hL e;generalize L.length=n at *
  go_enter Tryz.func30,Tryz.ntmps30
  go_wp2_with fail
  go_ret;exact⟨rfl,yk _ _⟩
 ·have e:zaM L=zom L 0:=by unfold zaM;rw[ya hm]
  rw[e];have D:Hid (∀ (k:Nat) (W:World),k<L.length->zaS W a L->Calls Tryz.prog 63 #[.slice a L.length c,.int .i64 k] W fun e w' => e=.returned (.int .i64 (frE L k))/\Below W.heap.size W w'):=fun k W hk hW=>zkj a c L k W (by omega) hk hW;have HL:Hid (zaS w a L):=hL;have Z:decide ((8:Int)<(L.length:Int))=false:=decide_eq_false (by omega);have ST:Hid (∀ i,i<L.length->zom L i=if frE L i=0 then zom L (i+1) else frE L i):=fun i hi=>zta hi;have EN:Hid (zom L L.length=0):=zvD (yj _);clear hL e;obtain⟨E,hE⟩:∃ E,zom L 0=E:=⟨_,rfl⟩;have HE:Hid (zom L 0=E):=hE;rw[hE];clear hE;obtain⟨n,hn⟩:∃ n,L.length=n:=⟨_,rfl⟩;have HN:Hid (L.length=n):=hn;rw[hn] at hN hm Z ST EN D |-;clear hn
  go_enter Tryz.func30,Tryz.ntmps30
  go_wp2_with fail
  go_loopg [10] n (fun g s10 wr=>∃ i:Nat,i<=n/\n-i<=g/\s10=.int .i64 i/\Hid (Below w.heap.size w wr)/\Hid (zom L i=E))
  case atStart=>exact⟨0,by omega,by omega,rfl,yk _ _,HE⟩
  case round =>
   obtain⟨i,hi,hg,rfl,F,T⟩:=hrel;clear HE;by_cases U:i<n
   ·have a6:(i:Int)<(n:Int):=by omega
    have M:Hid _:=(ST.out i U).symm.trans T.out;have Di:Hid _:=D.out i wr U (HL.out.below F.out);generalize frE L i=x at *;by_cases hx:x=0
    ·have I:Hid (zom L (i+1)=E):=by have h:=M.out;rwa [yb hx] at h
     subst hx;clear M
     go_wp2_with fail
     refine ye Di.out ?_;rintro e w1 ⟨rfl,J⟩;have O:Hid (Below w.heap.size w w1):=F.out.trans (J.mono F.out.size);clear J
     go_wp2_with fail
     go_roundg (n-(i+1))
     case measure=>omega
     case rel=>exact⟨i+1,by omega,by omega,by go_num,O,I⟩
    ·have I:Hid (x=E):=by have h:=M.out;rwa [ya hx] at h
     have a7:decide (x=0)=false:=decide_eq_false hx;clear M
     go_wp2_with fail
     refine ye Di.out ?_;rintro e w1 ⟨rfl,J⟩;have O:Hid (Below w.heap.size w w1):=F.out.trans (J.mono F.out.size);clear J
     go_wp2_with fail
     go_ret;exact⟨by rw[I.out];rfl,O.out⟩
   ·have a5:i=n:=by omega
    subst a5;have I:Hid ((0:Int)=E):=EN.out.symm.trans T.out;clear T
    go_wp2_with fail
    go_ret;exact⟨by rw[I.out];rfl,F.out⟩
theorem zjl(a:Option Addr)(c n:Nat)(k:Int)(w:World)(E:n<=9223372036854775807) :
  Calls Tryz.prog 47 #[.slice a n c,.int .i64 k] w fun e w' => e=.returned (.bool (decide (0<=k/\k<n)))/\w' = w:=by
 have e:decide (0<=k/\k<n)=decide (0<=k/\k<=(n:Int)-1):=decide_eq_decide.2 (by omega);rw[e];have D:Hid _:=zcC k 0 ((n:Int)-1);clear e;generalize decide (0<=k/\k<=(n:Int)-1)=r at *
 go_enter Tryz.func47,Tryz.ntmps47
 go_wp2_with fail
 refine ye (D.out _) ?_;rintro e F ⟨rfl,rfl⟩
 go_wp2
 go_ret;exact⟨rfl,rfl⟩
theorem zcB(a:Option Addr)(c:Nat)(L:List Fr)(k:Int)(w:World)(J:L.length<=9223372036854775807)(F:zaS w a L) :
  Calls Tryz.prog 70 #[.slice a L.length c,.int .i64 k] w fun e w' => e=.returned (.int .i64 (zaA L k))/\w' = w:=by
 have D:Hid _:=zjl a c L.length k w J;unfold zaA;by_cases h1:0<=k/\k<L.length
 ·rw[decide_eq_true h1] at D;rw[ya (not_not_intro h1)];obtain⟨q,rfl⟩:=Int.eq_ofNat_of_zero_le h1.1;obtain⟨b,o,I,c0,c1,c2,c3,c4⟩:=F q (by omega);subst I;rw[yi];have M:(q:Int)<(L.length:Int):=by omega
  clear F h1;generalize fr L q=x at *;obtain⟨xp,Z,U,xt,T⟩:=x;dsimp only at c0 c1 c2 c3 c4;dsimp only;generalize L.length=n at *;cases T
  all_goals
   go_enter Tryz.func70,Tryz.ntmps70
   go_wp2_with fail
   refine ye D.out ?_;rintro e O ⟨rfl,E⟩;subst E
   go_wp2_with fail
   go_ret;exact⟨rfl,rfl⟩
 ·rw[decide_eq_false h1] at D;rw[yb h1];clear F h1;generalize L.length=n at *
  go_enter Tryz.func70,Tryz.ntmps70
  go_wp2_with fail
  refine ye D.out ?_;rintro e O ⟨rfl,E⟩;subst E
  go_wp2_with fail
  go_ret;exact⟨rfl,rfl⟩
theorem zeA(a:Option Addr)(c:Nat)(L:List Fr)(k:Int)(w:World)(M:L.length<=9223372036854775807)(T:zaS w a L) :
  Calls Tryz.prog 156 #[.slice a L.length c,.int .i64 k] w fun e w' => e=.returned (.int .i64 (zcw L k))/\Below w.heap.size w w' := by
 have D:Hid _:=zdW a c L w M T;have O:Hid (∀ W,zaS W a L->_):=fun W hW=>zcB a c L k W M hW;have HL:Hid (zaS w a L):=T;unfold zcw;clear T;generalize zaM L=E at *;generalize zaA L k=F at *;by_cases h:E=0
 ·rw[yb h];subst h;obtain⟨n,hn⟩:∃ n,L.length=n:=⟨_,rfl⟩;rw[hn] at M D O |-;clear hn
  go_enter Tryz.func156,Tryz.ntmps156
  go_wp2_with fail
  refine ye D.out ?_;rintro e Z ⟨rfl,I⟩;have J:Hid (Below w.heap.size w Z):=I;clear I
  go_wp2_with fail
  refine ye (O.out _ (HL.out.below J.out)) ?_;rintro e w2 ⟨rfl,U⟩;subst U
  go_wp2_with fail
  go_ret;exact⟨rfl,J.out⟩
 ·rw[ya h];have h2:decide (E=0)=false:=decide_eq_false h;obtain⟨n,hn⟩:∃ n,L.length=n:=⟨_,rfl⟩;rw[hn] at M D O |-;clear hn
  go_enter Tryz.func156,Tryz.ntmps156
  go_wp2_with fail
  refine ye D.out ?_;rintro e Z ⟨rfl,I⟩;have J:Hid (Below w.heap.size w Z):=I;clear I
  go_wp2_with fail
  go_ret;exact⟨rfl,J.out⟩
theorem zgt(a:Option Addr)(c:Nat)(L:List Fr)(k top:Int)(w:World)(hN:L.length<=9223372036854775807)(hL:zaS w a L) :
  Calls Tryz.prog 16 #[.slice a L.length c,.int .i64 k,.int .i64 top] w fun e w' => e=.returned (.bool (inF L k top))/\w' = w:=by
 unfold inF;have D:Hid (∀ k W,_):=fun k W=>zjl a c L.length k W hN;have HL:Hid (zaS w a L):=hL;have ST:Hid (∀ n k,zcV L (n+1) k top=if 0<=k/\k<L.length then (if k=top then true else zcV L n (fr L k.toNat).p top) else false):=fun n k=>by rw[zcV]
 have EN:Hid (∀ k,zcV L 0 k top=false):=fun k=>rfl;clear hL;obtain⟨E,hE⟩:∃ E,zcV L L.length k top=E:=⟨_,rfl⟩;have Z:Hid (zcV L L.length k top=E):=hE;rw[hE];clear hE;obtain⟨n,hn⟩:∃ n,L.length=n:=⟨_,rfl⟩;have HN:Hid (L.length=n):=hn;rw[hn] at hN ST D Z |-;clear hn
 go_enter Tryz.func16,Tryz.ntmps16
 go_wp2_with fail
 go_loopg [7,11] n (fun g s7 s11 wr=>∃ (i:Nat) (k:Int),i<=n/\n-i<=g/\s11=.int .i64 i/\s7=.int .i64 k/\wr=w/\Hid (zcV L (n-i) k top=E))
 case atStart=>exact⟨0,k,by omega,by omega,rfl,rfl,rfl,Z⟩
 case round =>
  obtain⟨i,k,hi,hg,rfl,rfl,a6,T⟩:=hrel;subst a6;clear Z;by_cases a8:i<n
  ·have a7:(i:Int)<(n:Int):=by omega
   have O:=D.out k wr;have I:Hid _:=(ST.out (n-(i+1)) k).symm.trans ((by rw[show n-(i+1)+1=n-i by omega]:zcV L (n-(i+1)+1) k top=zcV L (n-i) k top).trans T.out);by_cases M:0<=k/\k<n
   ·rw[decide_eq_true M] at O;have U:Hid _:=O;obtain⟨q,rfl⟩:=Int.eq_ofNat_of_zero_le M.1;have a9:(q:Int)<(n:Int):=by omega
    obtain⟨b,o,ea,c0,c1,c2,c3,c4⟩:=HL.out q (by rw[HN.out];omega);subst ea;have h:=I.out;rw[yb M,yi] at h;generalize fr L q=x at *;obtain⟨xp,xo,xm,xt,xg⟩:=x;dsimp only at c0 c1 c2 c3 c4 h;by_cases e:(q:Int)=top
    ·rw[yb e] at h;have F:Hid (true=E):=h;subst e;clear I h O M
     go_wp2_with fail
     refine ye U.out ?_;rintro e w1 ⟨rfl,J⟩;subst J
     go_wp2_with fail
     go_ret;exact⟨by rw[F.out];rfl,rfl⟩
    ·rw[ya e] at h;have F:Hid _:=h;have e2:decide ((q:Int)=top)=false:=decide_eq_false e;have e3:((q:Int) == top)=false:=by simp[e]
     clear I h O M
     go_wp2_with fail
     refine ye U.out ?_;rintro e w1 ⟨rfl,J⟩;subst J
     go_wp2_with fail
     go_roundg (n-(i+1))
     case measure=>omega
     case rel=>exact⟨i+1,xp,by omega,by omega,by go_num,rfl,rfl,F⟩
   ·rw[decide_eq_false M] at O;have U:Hid _:=O;have F:Hid (false=E):=by have h:=I.out;rwa [ya M] at h
    clear I M O
    go_wp2_with fail
    refine ye U.out ?_;rintro e w1 ⟨rfl,J⟩;subst J
    go_wp2_with fail
    go_ret;exact⟨by rw[F.out];rfl,rfl⟩
  ·have a5:i=n:=by omega
   subst a5;have F:Hid (false=E):=by have h:=T.out;rw[Nat.sub_self] at h;exact(EN.out k).symm.trans h
   clear T
   go_wp2_with fail
   go_ret;exact⟨by rw[F.out];rfl,rfl⟩
theorem zme{P:Program}(w:World)(T sT ty elem:TypeId)(i:TypeInfo)(g o I M:Nat)(a:Addr)(E J n:Nat)(D:Array Value)(t:TypeId)(F:List Value)
  (Z:P.underlying T=some (.slice elem)) (hi:P.info? elem=some i) (hg:w.heap[g]?=some (.cells D t (0,0))) (hn:n=Nat.min E I) (hl:F.length=n*i.size)
  (hsrc:∀ j v,F[j]?=some v->w.cell? (a.add j)=some v) (hfit:o+F.length<=D.size) (h1:∀ v ∈ F,v.oneCell' = true) :
  (Builtin.copy_ #[T,sT] ty #[.slice (some ⟨g,o,none⟩) I M,.slice (some a) E J]).run P w=.ok (goInt n) (w.setRow g (D.toList.take o++F++D.toList.drop (o+F.length)).toArray):=by
 have U:=run_firstCells_some (P:=P) w i.size n a E J F hl hsrc;have O:=run_storeCells_at P g o t F 0 D w hg (by simpa using hfit) h1;simp only[Nat.add_zero] at O;simp[Builtin.copy_,run_underlying Z,Builtin.lenOf,sizeOf,typeInfo,hi,<- hn,U,O]
theorem zcX{P:Program}{w:World}{ops:Array Oper}{rest:List Oper}{o:Oper}{a:Act}{Q:Exit->Act->World->Prop}(Z:o.guard=none)(d s:Operand)(U sT:TypeId)
  (ho:o.op=.call { callee:=.builtin .copy,args:=#[d,s],argTypes:=#[U,sT] }) (elem:TypeId) (i:TypeInfo) (hu:P.underlying U=some (.slice elem)) (hi:P.info? elem=some i)
  (g off E J:Nat) (T:Addr) (F M n:Nat) (hd:a.eval d=.slice (some ⟨g,off,none⟩) E J) (hs:a.eval s=.slice (some T) F M)
  (D:List Value) (t:TypeId) (hg:w.heap[g]?=some (.cells D.toArray t (0,0))) (I:List Value) (hn:n=Nat.min F E) (hl:I.length=n*i.size)
  (hsrc:∀ j v,I[j]?=some v->w.cell? (T.add j)=some v) (hfit:off+I.length<=D.length) (h1:∀ v ∈ I,v.oneCell' = true)
  (h:∀ w', w'.heap[g]?=some (.cells (D.take off++I++D.drop (off+I.length)).toArray t (0,0))->(∀ B w0,Below B w0 w->B<=g->Below B w0 w')->wpList P ops Q rest (a.put o.dst (goInt n)) w'):wpList P ops Q (o :: rest) a w:=by
 refine wpList_plain Z fun K hK=>?_;have O:=zme (P:=P) w U sT o.type elem i g off E J T F M n D.toArray t I hu hi hg hn hl hsrc (by simpa using hfit) h1;unfold Oper.wp;simp[execOp,ho,resolve,invoke,builtin,hd,hs,O,Result.andThen];refine hK _ _ (h _ ?_ (fun B w0 hb hB=>below_setRow hb hB _));have:=setRow_heap w g D.toArray ((D.toArray.toList.take off++I++D.toArray.toList.drop (off+I.length)).toArray) t _ hg;simpa using this
end Go.Proofs.YtcbcpomacdngmaaGreat
