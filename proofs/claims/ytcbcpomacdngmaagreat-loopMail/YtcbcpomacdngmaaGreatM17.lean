/-
  x
-/
import Derived.Test.YtcbcpomacdngmaaGreatM16
namespace Go.Proofs.YtcbcpomacdngmaaGreat
set_option maxRecDepth 100000
set_option maxHeartbeats 4000000
set_option linter.unusedVariables false
open Go.RowKit
structure RA where
 a0:Option Addr
 a1:Option Addr
 a2:Option Addr
 a3:Option Addr
 c0:Nat
 c1:Nat
 c2:Nat
 c3:Nat
def zdd(w:World)(A:RA)(R:Rl):Prop:=zah w A.a0 R.s/\zaw w A.a1 R.hs/\zaF w A.a2 R.i/\zal w A.a3 R.t
abbrev rlV(A:RA)(R:Rl):Value:=.agg #[.slice A.a0 R.s.length A.c0,.slice A.a1 R.hs.length A.c1,.slice A.a2 R.i.length A.c2,.slice A.a3 R.t.length A.c3]
abbrev acV(x:Ac):Value:=.agg #[.int .i64 x.k,.int .i64 x.a,.int .i64 x.b,.int .i64 x.c,.int .i64 x.n]
abbrev bxR(A:RA)(R:Rl):Obj:=.cells #[.slice A.a0 R.s.length A.c0,.slice A.a1 R.hs.length A.c1,.slice A.a2 R.i.length A.c2,.slice A.a3 R.t.length A.c3] 50 (0,0)
def zuV(R:Rl):Prop:=R.s.length<=9223372036854775807/\Big R.s/\R.hs.length<=9223372036854775807/\R.i.length<=9223372036854775807/\zlb R.i/\R.t.length<=9223372036854775807
theorem zdd.below{w w' : World}{A:RA}{R:Rl}(h:zdd w A R)(D:Below w.heap.size w w'):zdd w' A R:=⟨h.1.below D,h.2.1.below D,h.2.2.1.below D,h.2.2.2.below D⟩
theorem zjv(w:World)(A:RA):zdd w A zbL:=⟨fun _ h=>absurd h (yw _),fun _ h=>absurd h (yw _),fun _ h=>absurd h (yw _),fun _ h=>absurd h (yw _)⟩
theorem zey{m:Nat}:∀ {G:List Cl},cellsE m G=0->∀ i,i<G.length->zeX m (cl G i)=0
 | [],_,i,hi=>absurd hi (yw _)
 | x :: r,h,i,hi=>by
  unfold cellsE at h;by_cases h1:zeX m x=0
  ·rw[yb h1] at h
   match i,hi with
   | 0,_=>exact h1
   | i+1,hi=>exact zey (G:=r) h i (by simpa using hi)
  ·rw[ya h1] at h;exact absurd h h1
theorem zcA{G:List Cl}(h:zaz G=0):G.length<=24/\zlb G:=by
 unfold zaz at h;by_cases h1:24<G.length
 ·rw[yb h1] at h;omega
 ·rw[ya h1] at h;refine⟨by omega,fun i hi=>?_⟩;have:=zey h i hi;unfold zeX at this
  split at this
  ·omega
  ·split at this
   ·omega
   ·omega
theorem zdU{R:Rl}(h:zaE R=0):zuV R:=by
 obtain⟨h1,E,D,F⟩:=zay h;have:=zcA D;exact⟨by have:=h1.small;omega,h1.big,by omega,by omega,this.2,by omega⟩
def zAq(p:Int):Int:=if 0<=p/\p<=24 then 0 else 2
def zdm(p:Int):Rl:=if 0<=p/\p<=24 then ⟨List.replicate p.toNat zbe,List.replicate 16 (0,0),[],[]⟩ else zbL
def zoU:Prop:=∀ (p:Int) (w:World),
 yL 28 #[.int .i64 p] w fun e w' => ∃ B:RA,e=.returned (.tuple #[rlV B (zdm p),.int .i64 (zAq p)])/\Below w.heap.size w w' /\ zdd w' B (zdm p)
def zrN:Prop:=∀ (A:RA) (R:Rl) (w:World),zuV R->zdd w A R ->
 yL 32 #[rlV A R] w fun e w' => e=.returned (.int .i64 (zaE R))/\Below w.heap.size w w'
def X1:Ac:=⟨1,2,0,0,4⟩
def X2:Ac:=⟨5,2,0,0,7⟩
def X3:Ac:=⟨6,2,0,0,0⟩
def X4:Ac:=⟨6,1,0,0,0⟩
def H0:Rl:=zdm 3
def H1:Rl:=(doF H0 X1).r
def H2:Rl:=(doF H1 X2).r
def zaS(w:World)(a:Option Addr)(L:List Fr):Prop :=
 ∀ i,i<L.length->∃ b o,a=some ⟨b,o,none⟩/\w.cell? ⟨b,o+i*5,none⟩=some (.int .i64 (fr L i).p)/\w.cell? ⟨b,o+i*5+1,none⟩=some (.int .i64 (fr L i).o)/\w.cell? ⟨b,o+i*5+2,none⟩=some (.int .i64 (fr L i).m)/\w.cell? ⟨b,o+i*5+3,none⟩=some (.int .i64 (fr L i).t)/\w.cell? ⟨b,o+i*5+4,none⟩=some (.bool (fr L i).g)
theorem zaS.below{w w' : World}{a:Option Addr}{L:List Fr}(h:zaS w a L)(E:Below w.heap.size w w'):zaS w' a L:=fun i hi=>by
 obtain⟨b,o,e,h1,F,I,J,h5⟩:=h i hi;have D:b<w.heap.size:=yd _ _ h1;exact⟨b,o,e,(E.cell (by exact D)).trans h1,(E.cell (by exact D)).trans F,(E.cell (by exact D)).trans I,(E.cell (by exact D)).trans J,(E.cell (by exact D)).trans h5⟩
theorem zwc{W D:World}{b F I J M O:Nat}{T v1 v2 U Z:Value}(E:Below W.heap.size W D)(c0:W.cell? ⟨b,F,none⟩=some T)(c1:W.cell? ⟨b,I,none⟩=some v1)(c2:W.cell? ⟨b,J,none⟩=some v2)(c3:W.cell? ⟨b,M,none⟩=some U)(c4:W.cell? ⟨b,O,none⟩=some Z) :
  D.cell? ⟨b,F,none⟩=some T/\D.cell? ⟨b,I,none⟩=some v1/\D.cell? ⟨b,J,none⟩=some v2/\D.cell? ⟨b,M,none⟩=some U/\D.cell? ⟨b,O,none⟩=some Z:=⟨zab c0 E,zab c1 E,zab c2 E,zab c3 E,zab c4 E⟩
theorem zcZ{B:Nat}{w w' : World}(h:Below B w w')(n:Nat):Below B w (w'.drewN n):=⟨h.os,h.tape,h.output,h.size,h.block⟩
abbrev fv(x:Fr):Value:=.agg #[.int .i64 x.p,.int .i64 x.o,.int .i64 x.m,.int .i64 x.t,.bool x.g]
theorem zcB(x a b:Int)(w:World) :
  yL 66 #[.int .i64 x,.int .i64 a,.int .i64 b] w fun e w' => e=.returned (.bool (decide (a<=x/\x<=b)))/\w' = w:=by
 by_cases h1:a<=x
 ·by_cases D:x<=b
  ·have h:decide (a<=x/\x<=b)=true:=(by simp[h1,D]);rw[h];clear h
   go_enter Tryz.func66,Tryz.ntmps66
   go_wp2
   go_ret;exact⟨rfl,rfl⟩
  ·have h:decide (a<=x/\x<=b)=false:=(by simp[D]);rw[h];clear h
   go_enter Tryz.func66,Tryz.ntmps66
   go_wp2
   go_ret;exact⟨rfl,rfl⟩
 ·have h:decide (a<=x/\x<=b)=false:=by simp[h1]
  rw[h];clear h
  go_enter Tryz.func66,Tryz.ntmps66
  go_wp2
  go_ret;exact⟨rfl,rfl⟩
theorem zxc(x:Fr):decide (zgC x 0)=decide (x.p = -1):=decide_eq_decide.2 (by unfold zgC;simp)
theorem zyN(x:Fr){k:Nat}(h:k≠0):decide (zgC x k)=decide (0<=x.p/\x.p<=(k:Int)-1):=decide_eq_decide.2 (by unfold zgC;rw[ya h])
theorem zkl(x:Fr)(k:Nat)(I:k<=1000)(w:World) :
  yL 94 #[.int .i64 x.p,.int .i64 k] w fun e w' => e=.returned (.bool (decide (zgC x k)))/\w' = w:=by
 by_cases h0:k=0
 ·subst h0;rw[zxc];obtain⟨p,D⟩:∃ p,x.p=p:=⟨_,rfl⟩;rw[D];have hd:(p == -1)=decide (p = -1):=by by_cases e:p = -1 <;> simp[e]
  clear D
  go_enter Tryz.func94,Tryz.ntmps94
  go_wp2
  go_ret
  first|exact⟨rfl,rfl⟩|exact⟨by rw[hd],rfl⟩|exact⟨by simp,rfl⟩
 ·rw[zyN x h0];obtain⟨p,D⟩:∃ p,x.p=p:=⟨_,rfl⟩;rw[D];have h1:¬ (k:Int)=0:=by omega
  have F:decide ((k:Int)=0)=false:=yE h1;have E:Hid _:=zcB p 0 ((k:Int)-1);clear D;generalize decide (0<=p/\p<=(k:Int)-1)=r at *
  go_enter Tryz.func94,Tryz.ntmps94
  go_wp2_with fail
  refine ye (E.out _) ?_;rintro e w1 ⟨rfl,rfl⟩
  go_wp2
  go_ret;exact⟨rfl,rfl⟩
theorem zkk(x:Int)(w:World) :
  yL 129 #[.int .i64 x] w fun e w' => e=.returned (.bool (decide (0<=x/\x<=9)))/\w' = w:=by
 have D:Hid _:=zcB x 0 9;generalize decide (0<=x/\x<=9)=r at *
 go_enter Tryz.func129,Tryz.ntmps129
 go_wp2_with fail
 refine ye (D.out _) ?_;rintro e w1 ⟨rfl,rfl⟩
 go_wp2
 go_ret;exact⟨rfl,rfl⟩
theorem zow(x:Int)(w:World) :
  yL 130 #[.int .i64 x] w fun e w' => e=.returned (.bool (decide (0<=x/\x<=7)))/\w' = w:=by
 have D:Hid _:=zcB x 0 7;generalize decide (0<=x/\x<=7)=r at *
 go_enter Tryz.func130,Tryz.ntmps130
 go_wp2_with fail
 refine ye (D.out _) ?_;rintro e w1 ⟨rfl,rfl⟩
 go_wp2
 go_ret;exact⟨rfl,rfl⟩
theorem zri(x:Fr):decide (zdQ x)=(decide (0<=x.o/\x.o<=9) && (decide (0<=x.m/\x.m<=7) && decide (0<=x.t/\x.t<=1000))):=by
 unfold zdQ;by_cases h1:0<=x.o/\x.o<=9 <;> by_cases D:0<=x.m/\x.m<=7 <;> by_cases E:0<=x.t/\x.t<=1000 <;> simp[h1,D,E]
theorem zmN(x:Fr)(w:World) :
  yL 95 #[fv x] w fun e w' => e=.returned (.bool (decide (zdQ x)))/\Below w.heap.size w w' := by
 rw[zri];have F:Hid _:=zkk x.o;have I:Hid _:=zow x.m;have J:Hid _:=zcB x.t 0 1000;have D:Hid (∀ E,Below w.heap.size w (w.alloc E)):=fun E=>zaa w E;generalize decide (0<=x.o/\x.o<=9)=M at *;generalize decide (0<=x.m/\x.m<=7)=O at *;generalize decide (0<=x.t/\x.t<=1000)=T at *;obtain⟨xp,xo,Z,xt,U⟩:=x;dsimp only at F I J
 go_enter Tryz.func95,Tryz.ntmps95
 go_wp2_with fail
 refine ye (F.out _) ?_;rintro e w1 ⟨rfl,rfl⟩;cases M
 ·go_wp2_with fail
  go_ret;exact⟨rfl,D.out _⟩
 ·go_wp2_with fail
  refine ye (I.out _) ?_;rintro e w1 ⟨rfl,rfl⟩;cases O
  ·go_wp2_with fail
   go_ret;exact⟨rfl,D.out _⟩
  ·go_wp2_with fail
   refine ye (J.out _) ?_;rintro e w1 ⟨rfl,rfl⟩
   go_wp2_with fail
   go_ret;exact⟨by cases T <;> rfl,D.out _⟩
theorem zvy(x y:Fr):decide (zgO x y)=(decide (bits .andNot .i64 x.m y.m=0) && (x.g || !y.g)):=by
 rw[Bool.eq_iff_iff,decide_eq_true_iff];unfold zgO;simp
theorem zmF(x y:Fr)(w:World) :
  yL 96 #[fv x,fv y] w fun e w' => e=.returned (.bool (decide (zgO x y)))/\Below w.heap.size w w' := by
 rw[zvy];have F:Hid (∀ D E,Below w.heap.size w ((w.alloc D).alloc E)):=fun D E=>zam w D E;obtain⟨Z,U,J,xt,I⟩:=x;obtain⟨yp,yo,O,yt,M⟩:=y;dsimp only;generalize T:bits .andNot .i64 J O=z;by_cases h:z=0
 ·have d:decide (z=0)=true:=yF h;have d2:(z == 0)=true:=by simp[h]
  cases I <;> cases M
  all_goals
   go_enter Tryz.func96,Tryz.ntmps96
   go_wp2_with fail
   go_ret;exact⟨by simp[h],F.out _ _⟩
 ·have d:decide (z=0)=false:=yE h;have d2:(z == 0)=false:=by simp[h]
  go_enter Tryz.func96,Tryz.ntmps96
  go_wp2_with fail
  go_ret;exact⟨by simp[h],F.out _ _⟩
theorem zjZ(a:Option Addr)(c:Nat)(L:List Fr)(k:Nat)(w:World)(hN:L.length<=8)(hk:k<L.length)(hL:zaS w a L) :
  yL 63 #[.slice a L.length c,.int .i64 k] w fun e w' => e=.returned (.int .i64 (frE L k))/\Below w.heap.size w w' := by
 have Z:Hid _:=zkl (fr L k) k (by omega);have U:Hid _:=zmN (fr L k);have HL:Hid (zaS w a L):=hL;have b1:(k:Int)<(L.length:Int):=by omega
 obtain⟨b,o,ea,c0,c1,c2,c3,c4⟩:=hL k hk;subst ea;clear hL;by_cases h1:zgC (fr L k) k
 ·rw[yF h1] at Z;by_cases T:zdQ (fr L k)
  ·rw[yF T] at U;by_cases h0:0<k
   ·have hp:0<=(fr L k).p/\(fr L k).p<=(k:Int)-1:=(by unfold zgC at h1;rwa [ya (by omega)] at h1);obtain⟨q,hq⟩:=Int.eq_ofNat_of_zero_le hp.1;have a8:q<L.length:=(by omega);have DF:Hid _:=zmF (fr L k) (fr L q);obtain⟨b', o', ea,d0,d1,d2,d3,d4⟩:=HL.out q a8;cases ea
    have J:frE L k=if decide (zgO (fr L k) (fr L q))=true then 0 else 3:=by
     unfold frE;rw[ya (yI h1),ya (yI T),hq,yi];by_cases h:zgO (fr L k) (fr L q)
     ·rw[ya (fun hh=>hh.2 h),yb (yF h)]
     ·rw[yb ⟨h0,h⟩,ya (by rw[yE h];simp)]
    rw[J];rw[hq] at c0;have hw:((fr L k).p:Int)=(q:Int):=hq;generalize decide (zgO (fr L k) (fr L q))=r at *;have b2:(q:Int)<(L.length:Int):=(by omega);have b0:decide ((0:Int)<(k:Int))=true:=yF (by omega);clear J hp HL h1 T;generalize fr L k=x at *;generalize fr L q=y at *;obtain⟨xp,xo,xm,xt,xg⟩:=x;obtain⟨yp,yo,ym,yt,yg⟩:=y;dsimp only at c0 c1 c2 c3 c4 d0 d1 d2 d3 d4 hw;have HW:Hid _:=hw;have a9:=hw;subst a9;clear hw hq HW;generalize L.length=n at *
    go_enter Tryz.func63,Tryz.ntmps63
    go_wp2_with fail
    refine ye (Z.out _) ?_;rintro e w1 ⟨rfl,F⟩;subst F
    go_wp2_with fail
    refine ye (U.out _) ?_;rintro e O ⟨rfl,D⟩;have I:Hid (Below w1.heap.size w1 O):=D;replace ⟨c0,c1,c2,c3,c4⟩:=zwc D c0 c1 c2 c3 c4;replace ⟨d0,d1,d2,d3,d4⟩:=zwc D d0 d1 d2 d3 d4;clear D
    go_wp2_with fail
    go_region_held3 (fun E=>E.cell? ⟨b,o+k*5,none⟩=some (.int .i64 (q:Int))/\E.cell? ⟨b,o+k*5+1,none⟩=some (.int .i64 xo)/\E.cell? ⟨b,o+k*5+2,none⟩=some (.int .i64 xm)/\E.cell? ⟨b,o+k*5+3,none⟩=some (.int .i64 xt)/\E.cell? ⟨b,o+k*5+4,none⟩=some (.bool xg)/\E.cell? ⟨b,o+q*5,none⟩=some (.int .i64 yp)/\E.cell? ⟨b,o+q*5+1,none⟩=some (.int .i64 yo)/\E.cell? ⟨b,o+q*5+2,none⟩=some (.int .i64 ym)/\E.cell? ⟨b,o+q*5+3,none⟩=some (.int .i64 yt)/\E.cell? ⟨b,o+q*5+4,none⟩=some (.bool yg)) (go_keep) (first|(go_at_call 96;refine ye (DF.out _) ?_;rintro e w3 ⟨rfl,a6⟩;have M:Below O.heap.size O w3:=(yk O.heap.size O).drew.trans a6;have a5:Hid (Below w1.heap.size w1 w3):=(I.out.trans (M.mono I.out.size));obtain⟨m0,m1,m2,m3,m4⟩:=zwc M c0 c1 c2 c3 c4;obtain⟨n0,n1,n2,n3,n4⟩:=zwc M d0 d1 d2 d3 d4;clear a6 M))
    all_goals
     cases r
     ·go_wp2_with fail
      go_ret;exact⟨rfl,a5.out⟩
     ·go_wp2_with fail
      go_ret;exact⟨rfl,a5.out⟩
   ·have a7:k=0:=(by omega);subst a7
    have J:frE L 0=0:=by
     unfold frE;rw[ya (yI h1),ya (yI T),ya (fun hh=>absurd hh.1 (by omega))]
    rw[J];clear J HL h1 T;generalize fr L 0=x at *;obtain⟨xp,xo,xm,xt,xg⟩:=x;simp only[Nat.zero_mul,Nat.add_zero] at c0 c1 c2 c3 c4;generalize L.length=n at *
    go_enter Tryz.func63,Tryz.ntmps63
    go_wp2_with fail
    refine ye (Z.out _) ?_;rintro e w1 ⟨rfl,F⟩;subst F
    go_wp2_with fail
    refine ye (U.out _) ?_;rintro e O ⟨rfl,D⟩;have I:Hid (Below w1.heap.size w1 O):=D;clear D
    go_wp2_with fail
    go_big_quiet (fail)
    go_wp2_with fail
    go_ret;exact⟨rfl,zcZ I.out _⟩
  ·rw[yE T] at U
   have J:frE L k=2:=by
    unfold frE;rw[ya (yI h1),yb T]
   rw[J];clear J HL h1 T;generalize fr L k=x at *;obtain⟨xp,xo,xm,xt,xg⟩:=x;dsimp only at c0 c1 c2 c3 c4;generalize L.length=n at *
   go_enter Tryz.func63,Tryz.ntmps63
   go_wp2_with fail
   refine ye (Z.out _) ?_;rintro e w1 ⟨rfl,F⟩;subst F
   go_wp2_with fail
   refine ye (U.out _) ?_;rintro e O ⟨rfl,D⟩;have I:Hid (Below w1.heap.size w1 O):=D;clear D
   go_wp2_with fail
   go_ret;exact⟨rfl,I.out⟩
 ·rw[yE h1] at Z
  have J:frE L k=4:=by
   unfold frE;rw[yb h1]
  rw[J];clear J HL h1 U;generalize fr L k=x at *;obtain⟨xp,xo,xm,xt,xg⟩:=x;dsimp only at c0 c1 c2 c3 c4;generalize L.length=n at *
  go_enter Tryz.func63,Tryz.ntmps63
  go_wp2_with fail
  refine ye (Z.out _) ?_;rintro e w1 ⟨rfl,F⟩;subst F
  go_wp2_with fail
  go_ret;exact⟨rfl,yk _ _⟩
theorem zdZ(a:Option Addr)(c:Nat)(L:List Fr)(w:World)(hN:L.length<=9223372036854775807)(hL:zaS w a L) :
  yL 30 #[.slice a L.length c] w fun e w' => e=.returned (.int .i64 (zaO L))/\Below w.heap.size w w' := by
 by_cases hm:8<L.length
 ·have e:zaO L=1:=by unfold zaO;rw[yb hm]
  rw[e];have Z:decide ((8:Int)<(L.length:Int))=true:=yF (by omega);clear hL e;generalize L.length=n at *
  go_enter Tryz.func30,Tryz.ntmps30
  go_wp2_with fail
  go_ret;exact⟨rfl,yk _ _⟩
 ·have e:zaO L=znV L 0:=by unfold zaO;rw[ya hm]
  rw[e];have D:Hid (∀ (k:Nat) (W:World),k<L.length->zaS W a L->yL 63 #[.slice a L.length c,.int .i64 k] W fun e w' => e=.returned (.int .i64 (frE L k))/\Below W.heap.size W w'):=fun k W hk hW=>zjZ a c L k W (by omega) hk hW;have HL:Hid (zaS w a L):=hL;have Z:decide ((8:Int)<(L.length:Int))=false:=yE (by omega);have ST:Hid (∀ i,i<L.length->znV L i=if frE L i=0 then znV L (i+1) else frE L i):=fun i hi=>zsI hi;have EN:Hid (znV L L.length=0):=zvv (yj _);clear hL e;obtain⟨E,hE⟩:∃ E,znV L 0=E:=⟨_,rfl⟩;have HE:Hid (znV L 0=E):=hE;rw[hE];clear hE;obtain⟨n,hn⟩:∃ n,L.length=n:=⟨_,rfl⟩;have HN:Hid (L.length=n):=hn;rw[hn] at hN hm Z ST EN D |-;clear hn
  go_enter Tryz.func30,Tryz.ntmps30
  go_wp2_with fail
  go_loopg [10] n (fun g s10 wr=>∃ i:Nat,i<=n/\n-i<=g/\s10=.int .i64 i/\Hid (Below w.heap.size w wr)/\Hid (znV L i=E))
  case atStart=>exact⟨0,by omega,by omega,rfl,yk _ _,HE⟩
  case round =>
   obtain⟨i,hi,hg,rfl,F,T⟩:=hrel;clear HE;by_cases U:i<n
   ·have a6:(i:Int)<(n:Int):=(by omega);have M:Hid _:=(ST.out i U).symm.trans T.out;have Di:Hid _:=D.out i wr U (HL.out.below F.out);generalize frE L i=x at *;by_cases hx:x=0
    ·have I:Hid (znV L (i+1)=E):=(by have h:=M.out;rwa [yb hx] at h);subst hx;clear M
     go_wp2_with fail
     refine ye Di.out ?_;rintro e w1 ⟨rfl,J⟩;have O:Hid (Below w.heap.size w w1):=F.out.trans (J.mono F.out.size);clear J
     go_wp2_with fail
     go_roundg (n-(i+1))
     case measure=>omega
     case rel=>exact⟨i+1,by omega,by omega,by go_num,O,I⟩
    ·have I:Hid (x=E):=(by have h:=M.out;rwa [ya hx] at h);have a7:decide (x=0)=false:=yE hx;clear M
     go_wp2_with fail
     refine ye Di.out ?_;rintro e w1 ⟨rfl,J⟩;have O:Hid (Below w.heap.size w w1):=F.out.trans (J.mono F.out.size);clear J
     go_wp2_with fail
     go_ret;exact⟨by rw[I.out];rfl,O.out⟩
   ·have a5:i=n:=(by omega);subst a5;have I:Hid ((0:Int)=E):=EN.out.symm.trans T.out;clear T
    go_wp2_with fail
    go_ret;exact⟨by rw[I.out];rfl,F.out⟩
theorem zja(a:Option Addr)(c n:Nat)(k:Int)(w:World)(E:n<=9223372036854775807) :
  yL 47 #[.slice a n c,.int .i64 k] w fun e w' => e=.returned (.bool (decide (0<=k/\k<n)))/\w' = w:=by
 have e:decide (0<=k/\k<n)=decide (0<=k/\k<=(n:Int)-1):=decide_eq_decide.2 (by omega);rw[e];have D:Hid _:=zcB k 0 ((n:Int)-1);clear e;generalize decide (0<=k/\k<=(n:Int)-1)=r at *
 go_enter Tryz.func47,Tryz.ntmps47
 go_wp2_with fail
 refine ye (D.out _) ?_;rintro e w1 ⟨rfl,rfl⟩
 go_wp2
 go_ret;exact⟨rfl,rfl⟩
theorem zcz(a:Option Addr)(c:Nat)(L:List Fr)(k:Int)(w:World)(J:L.length<=9223372036854775807)(F:zaS w a L) :
  yL 70 #[.slice a L.length c,.int .i64 k] w fun e w' => e=.returned (.int .i64 (zax L k))/\w' = w:=by
 have D:Hid _:=zja a c L.length k w J;unfold zax;by_cases h1:0<=k/\k<L.length
 ·rw[yF h1] at D;rw[ya (yI h1)];obtain⟨q,rfl⟩:=Int.eq_ofNat_of_zero_le h1.1;obtain⟨b,o,I,c0,c1,c2,c3,c4⟩:=F q (by omega);subst I;rw[yi];have M:(q:Int)<(L.length:Int):=by omega
  clear F h1;generalize fr L q=x at *;obtain⟨Z,U,T,xt,O⟩:=x;dsimp only at c0 c1 c2 c3 c4;dsimp only;generalize L.length=n at *;cases O
  all_goals
   go_enter Tryz.func70,Tryz.ntmps70
   go_wp2_with fail
   refine ye D.out ?_;rintro e w1 ⟨rfl,E⟩;subst E
   go_wp2_with fail
   go_ret;exact⟨rfl,rfl⟩
 ·rw[yE h1] at D;rw[yb h1];clear F h1;generalize L.length=n at *
  go_enter Tryz.func70,Tryz.ntmps70
  go_wp2_with fail
  refine ye D.out ?_;rintro e w1 ⟨rfl,E⟩;subst E
  go_wp2_with fail
  go_ret;exact⟨rfl,rfl⟩
theorem zeA(a:Option Addr)(c:Nat)(L:List Fr)(k:Int)(w:World)(M:L.length<=9223372036854775807)(T:zaS w a L) :
  yL 156 #[.slice a L.length c,.int .i64 k] w fun e w' => e=.returned (.int .i64 (zcs L k))/\Below w.heap.size w w' := by
 have D:Hid _:=zdZ a c L w M T;have O:Hid (∀ W,zaS W a L->_):=fun W hW=>zcz a c L k W M hW;have Z:Hid (zaS w a L):=T;unfold zcs;clear T;generalize zaO L=E at *;generalize zax L k=F at *;by_cases h:E=0
 ·rw[yb h];subst h;obtain⟨n,hn⟩:∃ n,L.length=n:=⟨_,rfl⟩;rw[hn] at M D O |-;clear hn
  go_enter Tryz.func156,Tryz.ntmps156
  go_wp2_with fail
  refine ye D.out ?_;rintro e w1 ⟨rfl,I⟩;have J:Hid (Below w.heap.size w w1):=I;clear I
  go_wp2_with fail
  refine ye (O.out _ (Z.out.below J.out)) ?_;rintro e w2 ⟨rfl,U⟩;subst U
  go_wp2_with fail
  go_ret;exact⟨rfl,J.out⟩
 ·rw[ya h];have h2:decide (E=0)=false:=yE h;obtain⟨n,hn⟩:∃ n,L.length=n:=⟨_,rfl⟩;rw[hn] at M D O |-;clear hn
  go_enter Tryz.func156,Tryz.ntmps156
  go_wp2_with fail
  refine ye D.out ?_;rintro e w1 ⟨rfl,I⟩;have J:Hid (Below w.heap.size w w1):=I;clear I
  go_wp2_with fail
  go_ret;exact⟨rfl,J.out⟩
theorem zgl(a:Option Addr)(c:Nat)(L:List Fr)(k top:Int)(w:World)(hN:L.length<=9223372036854775807)(hL:zaS w a L) :
  yL 16 #[.slice a L.length c,.int .i64 k,.int .i64 top] w fun e w' => e=.returned (.bool (inF L k top))/\w' = w:=by
 unfold inF;have D:Hid (∀ k W,_):=fun k W=>zja a c L.length k W hN;have HL:Hid (zaS w a L):=hL;have ST:Hid (∀ n k,zcW L (n+1) k top=if 0<=k/\k<L.length then (if k=top then true else zcW L n (fr L k.toNat).p top) else false):=fun n k=>by rw[zcW]
 have EN:Hid (∀ k,zcW L 0 k top=false):=fun k=>rfl;clear hL;obtain⟨E,hE⟩:∃ E,zcW L L.length k top=E:=⟨_,rfl⟩;have Z:Hid (zcW L L.length k top=E):=hE;rw[hE];clear hE;obtain⟨n,hn⟩:∃ n,L.length=n:=⟨_,rfl⟩;have HN:Hid (L.length=n):=hn;rw[hn] at hN ST D Z |-;clear hn
 go_enter Tryz.func16,Tryz.ntmps16
 go_wp2_with fail
 go_loopg [7,11] n (fun g s7 s11 wr=>∃ (i:Nat) (k:Int),i<=n/\n-i<=g/\s11=.int .i64 i/\s7=.int .i64 k/\wr=w/\Hid (zcW L (n-i) k top=E))
 case atStart=>exact⟨0,k,by omega,by omega,rfl,rfl,rfl,Z⟩
 case round =>
  obtain⟨i,k,hi,hg,rfl,rfl,a6,T⟩:=hrel;subst a6;clear Z;by_cases a8:i<n
  ·have a7:(i:Int)<(n:Int):=(by omega);have O:=D.out k wr;have I:Hid _:=(ST.out (n-(i+1)) k).symm.trans ((by rw[show n-(i+1)+1=n-i by omega]:zcW L (n-(i+1)+1) k top=zcW L (n-i) k top).trans T.out);by_cases M:0<=k/\k<n
   ·rw[yF M] at O;have U:Hid _:=O;obtain⟨q,rfl⟩:=Int.eq_ofNat_of_zero_le M.1;have a9:(q:Int)<(n:Int):=(by omega);obtain⟨b,o,ea,c0,c1,c2,c3,c4⟩:=HL.out q (by rw[HN.out];omega);subst ea;have h:=I.out;rw[yb M,yi] at h;generalize fr L q=x at *;obtain⟨xp,xo,xm,xt,xg⟩:=x;dsimp only at c0 c1 c2 c3 c4 h;by_cases e:(q:Int)=top
    ·rw[yb e] at h;have F:Hid (true=E):=h;subst e;clear I h O M
     go_wp2_with fail
     refine ye U.out ?_;rintro e w1 ⟨rfl,J⟩;subst J
     go_wp2_with fail
     go_ret;exact⟨by rw[F.out];rfl,rfl⟩
    ·rw[ya e] at h;have F:Hid _:=h;have e2:decide ((q:Int)=top)=false:=yE e;have e3:((q:Int) == top)=false:=(by simp[e]);clear I h O M
     go_wp2_with fail
     refine ye U.out ?_;rintro e w1 ⟨rfl,J⟩;subst J
     go_wp2_with fail
     go_roundg (n-(i+1))
     case measure=>omega
     case rel=>exact⟨i+1,xp,by omega,by omega,by go_num,rfl,rfl,F⟩
   ·rw[yE M] at O;have U:Hid _:=O;have F:Hid (false=E):=(by have h:=I.out;rwa [ya M] at h);clear I M O
    go_wp2_with fail
    refine ye U.out ?_;rintro e w1 ⟨rfl,J⟩;subst J
    go_wp2_with fail
    go_ret;exact⟨by rw[F.out];rfl,rfl⟩
  ·have a5:i=n:=(by omega);subst a5;have F:Hid (false=E):=(by have h:=T.out;rw[Nat.sub_self] at h;exact(EN.out k).symm.trans h);clear T
   go_wp2_with fail
   go_ret;exact⟨by rw[F.out];rfl,rfl⟩
theorem zlU{P:Program}(w:World)(T sT ty elem:TypeId)(i:TypeInfo)(g o I M:Nat)(a:Addr)(E J n:Nat)(D:Array Value)(t:TypeId)(F:List Value)
  (Z:P.underlying T=some (.slice elem)) (hi:P.info? elem=some i) (hg:w.heap[g]?=some (.cells D t (0,0))) (hn:n=Nat.min E I) (hl:F.length=n*i.size)
  (hsrc:∀ j v,F[j]?=some v->w.cell? (a.add j)=some v) (hfit:o+F.length<=D.size) (h1:∀ v ∈ F,v.oneCell' = true) :
  (Builtin.copy_ #[T,sT] ty #[.slice (some ⟨g,o,none⟩) I M,.slice (some a) E J]).run P w=.ok (goInt n) (w.setRow g (D.toList.take o++F++D.toList.drop (o+F.length)).toArray):=by
 have U:=run_firstCells_some (P:=P) w i.size n a E J F hl hsrc;have O:=run_storeCells_at P g o t F 0 D w hg (by simpa using hfit) h1;simp only[Nat.add_zero] at O;simp[Builtin.copy_,run_underlying Z,Builtin.lenOf,sizeOf,typeInfo,hi,<- hn,U,O]
theorem zcY{P:Program}{w:World}{ops:Array Oper}{rest:List Oper}{o:Oper}{a:Act}{Q:Exit->Act->World->Prop}(Z:o.guard=none)(d s:Operand)(U sT:TypeId)
  (ho:o.op=.call { callee:=.builtin .copy,args:=#[d,s],argTypes:=#[U,sT] }) (elem:TypeId) (i:TypeInfo) (hu:P.underlying U=some (.slice elem)) (hi:P.info? elem=some i)
  (g off E J:Nat) (T:Addr) (F M n:Nat) (hd:a.eval d=.slice (some ⟨g,off,none⟩) E J) (hs:a.eval s=.slice (some T) F M)
  (D:List Value) (t:TypeId) (hg:w.heap[g]?=some (.cells D.toArray t (0,0))) (I:List Value) (hn:n=Nat.min F E) (hl:I.length=n*i.size)
  (hsrc:∀ j v,I[j]?=some v->w.cell? (T.add j)=some v) (hfit:off+I.length<=D.length) (h1:∀ v ∈ I,v.oneCell' = true)
  (h:∀ w', w'.heap[g]?=some (.cells (D.take off++I++D.drop (off+I.length)).toArray t (0,0))->(∀ B w0,Below B w0 w->B<=g->Below B w0 w')->wpList P ops Q rest (a.put o.dst (goInt n)) w'):wpList P ops Q (o :: rest) a w:=by
 refine wpList_plain Z fun K hK=>?_;have O:=zlU (P:=P) w U sT o.type elem i g off E J T F M n D.toArray t I hu hi hg hn hl hsrc (by simpa using hfit) h1;unfold Oper.wp;simp[execOp,ho,resolve,invoke,builtin,hd,hs,O,Result.andThen];refine hK _ _ (h _ ?_ (fun B w0 hb hB=>below_setRow hb hB _));have:=setRow_heap w g D.toArray ((D.toArray.toList.take off++I++D.toArray.toList.drop (off+I.length)).toArray) t _ hg;simpa using this
end Go.Proofs.YtcbcpomacdngmaaGreat
