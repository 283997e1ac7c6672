/-
  x
-/
import Derived.Test.YtcbcpomacdngmaaGreatA15
namespace Go.Proofs.YtcbcpomacdngmaaGreat
set_option maxRecDepth 100000
set_option maxHeartbeats 4000000
set_option linter.unusedVariables false
open Go.RowKit Tryz
variable{w w':World}{B:Nat}{R:Rl}
theorem JU(h:Below B w w')(n:Nat):Below B w (w'.drewN n):=⟨h.os,h.tape,h.output,h.size,h.block⟩
structure RA where
 a0:OA
 a1:OA
 a2:OA
 a3:OA
 c0:Nat
 c1:Nat
 c2:Nat
 c3:Nat
def aU(w:Wd)(A:RA)(R:Rl):Prop:=aD w A.a0 R.s/\aZ w A.a1 R.hs/\aO w A.a2 R.i/\aG w A.a3 R.t
abbrev rlV(A:RA)(R:Rl):Value:=.agg #[.slice A.a0 R.s.length A.c0,.slice A.a1 R.hs.length A.c1,.slice A.a2 R.i.length A.c2,.slice A.a3 R.t.length A.c3]
abbrev acV(x:Ac):Value:=.agg #[.int .i64 x.k,.int .i64 x.a,.int .i64 x.b,.int .i64 x.c,.int .i64 x.n]
abbrev bxR(A:RA)(R:Rl):Obj:=.cells #[.slice A.a0 R.s.length A.c0,.slice A.a1 R.hs.length A.c1,.slice A.a2 R.i.length A.c2,.slice A.a3 R.t.length A.c3] 50 (0,0)
def iG(R:Rl):Prop:=R.s.length<=9223372036854775807/\Big R.s/\R.hs.length<=9223372036854775807/\R.i.length<=9223372036854775807/\fK R.i/\R.t.length<=9223372036854775807
theorem aU.below{A:RA}(h:aU w A R)(hb:Bl w w'):aU w' A R:=⟨h.1.below hb,h.2.1.below hb,h.2.2.1.below hb,h.2.2.2.below hb⟩
theorem xU(w:Wd)(A:RA):aU w A dJ:=⟨fun _ h=>absurd h (yB _),fun _ h=>absurd h (yB _),fun _ h=>absurd h (yB _),fun _ h=>absurd h (yB _)⟩
theorem JV{m:Nat}:∀ {G:List Cl},cellsE m G=0->∀ i,i<G.length->iF m (cl G i)=0
 | [],_,i,hi=>absurd hi (yB _)
 | x :: r,h,i,hi=>by
  unfold cellsE at h;by_cases h1:iF m x=0
  ·rw[ye h1] at h
   match i,hi with
   | 0,_=>exact h1
   | i+1,hi=>exact JV (G:=r) h i (by simpa using hi)
  ·rw[yd h1] at h;exact absurd h h1
theorem uR{G:List Cl}(h:bF G=0):G.length<=24/\fK G:=by
 unfold bF at h;by_cases h1:24<G.length
 ·rw[ye h1] at h;omega
 ·rw[yd h1] at h;refine⟨by omega,fun i hi=>?_⟩;have:=JV h i hi;unfold iF at this
  split at this
  ·omega
  ·split at this
   ·omega
   ·omega
theorem uS(h:bI R=0):iG R:=by
 obtain⟨h1,E,D,F⟩:=gI h;have:=uR D;exact⟨by have:=h1.small;omega,h1.big,by omega,by omega,this.2,by omega⟩
def CU(p:Int):Int:=if 0<=p/\p<=24 then 0 else 2
def bB(p:Int):Rl:=if 0<=p/\p<=24 then ⟨List.replicate p.toNat fH,List.replicate 16 (0,0),[],[]⟩ else dJ
def CW:Prop:=∀ (p:Int) (w:Wd),
 yO 28 #[.int .i64 p] w fun e w' => ∃ B:RA,e=.returned (.tuple #[rlV B (bB p),.int .i64 (CU p)])/\Below w.heap.size w w' /\ aU w' B (bB p)
def Ir:Prop:=∀ (A:RA) (R:Rl) (w:Wd),iG R->aU w A R ->
 yO 32 #[rlV A R] w fun e w' => e=.returned (.int .i64 (bI R))/\Below w.heap.size w w'
def X1:Ac:=⟨1,2,0,0,4⟩
def X2:Ac:=⟨5,2,0,0,7⟩
def X3:Ac:=⟨6,2,0,0,0⟩
def X4:Ac:=⟨6,1,0,0,0⟩
def H0:Rl:=bB 3
def H1:Rl:=(doF H0 X1).r
def H2:Rl:=(doF H1 X2).r
def aS(w:Wd)(a:OA)(L:List Fr):Prop :=
 ∀ i,i<L.length->∃ b o,a=some ⟨b,o,none⟩/\w.cell? ⟨b,o+i*5,none⟩=some (.int .i64 (fr L i).p)/\w.cell? ⟨b,o+i*5+1,none⟩=some (.int .i64 (fr L i).o)/\w.cell? ⟨b,o+i*5+2,none⟩=some (.int .i64 (fr L i).m)/\w.cell? ⟨b,o+i*5+3,none⟩=some (.int .i64 (fr L i).t)/\w.cell? ⟨b,o+i*5+4,none⟩=some (.bool (fr L i).g)
theorem aS.below{a:OA}{L:List Fr}(h:aS w a L)(hb:Bl w w'):aS w' a L:=fun i hi=>by
 obtain⟨b,o,e,h1,E,F,I,h5⟩:=h i hi;have D:b<w.heap.size:=yi _ _ h1;exact⟨b,o,e,(hb.cell (by exact D)).trans h1,(hb.cell (by exact D)).trans E,(hb.cell (by exact D)).trans F,(hb.cell (by exact D)).trans I,(hb.cell (by exact D)).trans h5⟩
theorem DY{W D:Wd}{b E F I J M:Nat}{O v1 v2 T U:Value}(hb:Bl W D)(c0:W.cell? ⟨b,E,none⟩=some O)(c1:W.cell? ⟨b,F,none⟩=some v1)(c2:W.cell? ⟨b,I,none⟩=some v2)(c3:W.cell? ⟨b,J,none⟩=some T)(c4:W.cell? ⟨b,M,none⟩=some U) :
  D.cell? ⟨b,E,none⟩=some O/\D.cell? ⟨b,F,none⟩=some v1/\D.cell? ⟨b,I,none⟩=some v2/\D.cell? ⟨b,J,none⟩=some T/\D.cell? ⟨b,M,none⟩=some U:=⟨aA c0 hb,aA c1 hb,aA c2 hb,aA c3 hb,aA c4 hb⟩
theorem dL(h:Below B w w')(n:Nat):Below B w (w'.drewN n):=⟨h.os,h.tape,h.output,h.size,h.block⟩
abbrev fv(x:Fr):Value:=.agg #[.int .i64 x.p,.int .i64 x.o,.int .i64 x.m,.int .i64 x.t,.bool x.g]
theorem vE(x a b:Int)(w:Wd) :
  yO 66 #[.int .i64 x,.int .i64 a,.int .i64 b] w fun e w' => e=.returned (.bool (decide (a<=x/\x<=b)))/\w' = w:=by
 by_cases h1:a<=x
 ·by_cases D:x<=b
  ·have h:decide (a<=x/\x<=b)=true:=(by simp[h1,D]);rw[h];clear h
   go_enter func66,ntmps66
   go_wp2
   go_ret;exact⟨rfl,rfl⟩
  ·have h:decide (a<=x/\x<=b)=false:=(by simp[D]);rw[h];clear h
   go_enter func66,ntmps66
   go_wp2
   go_ret;exact⟨rfl,rfl⟩
 ·have h:decide (a<=x/\x<=b)=false:=by simp[h1]
  rw[h];clear h
  go_enter func66,ntmps66
  go_wp2
  go_ret;exact⟨rfl,rfl⟩
theorem Jw(x:Fr):decide (jR x 0)=decide (x.p = -1):=decide_eq_decide.2 (by unfold jR;simp)
theorem Jy(x:Fr){k:Nat}(h:k≠0):decide (jR x k)=decide (0<=x.p/\x.p<=(k:Int)-1):=decide_eq_decide.2 (by unfold jR;rw[yd h])
theorem Jz(x:Fr)(k:Nat)(I:k<=1000)(w:Wd) :
  yO 94 #[.int .i64 x.p,.int .i64 k] w fun e w' => e=.returned (.bool (decide (jR x k)))/\w' = w:=by
 by_cases h0:k=0
 ·subst h0;rw[Jw];obtain⟨p,D⟩:∃ p,x.p=p:=⟨_,rfl⟩;rw[D];have hd:(p == -1)=decide (p = -1):=by by_cases e:p = -1 <;> simp[e]
  clear D
  go_enter func94,ntmps94
  go_wp2
  go_ret
  first|exact⟨rfl,rfl⟩|exact⟨by rw[hd],rfl⟩|exact⟨by simp,rfl⟩
 ·rw[Jy x h0];obtain⟨p,D⟩:∃ p,x.p=p:=⟨_,rfl⟩;rw[D];have h1:¬ (k:Int)=0:=by omega
  have F:decide ((k:Int)=0)=false:=yH h1;have E:Hid _:=vE p 0 ((k:Int)-1);clear D;generalize decide (0<=p/\p<=(k:Int)-1)=r at *
  go_enter func94,ntmps94
  go_wp2_with fail
  refine yj (E _) ?_;rintro e w1 ⟨rfl,rfl⟩
  go_wp2
  go_ret;exact⟨rfl,rfl⟩
theorem Ka(x:Int)(w:Wd) :
  yO 129 #[.int .i64 x] w fun e w' => e=.returned (.bool (decide (0<=x/\x<=9)))/\w' = w:=by
 have D:Hid _:=vE x 0 9;generalize decide (0<=x/\x<=9)=r at *
 go_enter func129,ntmps129
 go_wp2_with fail
 refine yj (D _) ?_;rintro e w1 ⟨rfl,rfl⟩
 go_wp2
 go_ret;exact⟨rfl,rfl⟩
theorem Kb(x:Int)(w:Wd) :
  yO 130 #[.int .i64 x] w fun e w' => e=.returned (.bool (decide (0<=x/\x<=7)))/\w' = w:=by
 have D:Hid _:=vE x 0 7;generalize decide (0<=x/\x<=7)=r at *
 go_enter func130,ntmps130
 go_wp2_with fail
 refine yj (D _) ?_;rintro e w1 ⟨rfl,rfl⟩
 go_wp2
 go_ret;exact⟨rfl,rfl⟩
theorem Ke(x:Fr):decide (nU x)=(decide (0<=x.o/\x.o<=9) && (decide (0<=x.m/\x.m<=7) && decide (0<=x.t/\x.t<=1000))):=by
 unfold nU;by_cases h1:0<=x.o/\x.o<=9 <;> by_cases D:0<=x.m/\x.m<=7 <;> by_cases E:0<=x.t/\x.t<=1000 <;> simp[h1,D,E]
theorem Kg(x:Fr)(w:Wd) :
  yO 95 #[fv x] w fun e w' => e=.returned (.bool (decide (nU x)))/\Below w.heap.size w w' := by
 rw[Ke];have F:Hid _:=Ka x.o;have I:Hid _:=Kb x.m;have J:Hid _:=vE x.t 0 1000;have D:Hid (∀ E,Bl w (w.alloc E)):=fun E=>aB w E;generalize decide (0<=x.o/\x.o<=9)=M at *;generalize decide (0<=x.m/\x.m<=7)=O at *;generalize decide (0<=x.t/\x.t<=1000)=T at *;obtain⟨xp,xo,Z,xt,U⟩:=x;dsimp only at F I J
 go_enter func95,ntmps95
 go_wp2_with fail
 refine yj (F _) ?_;rintro e w1 ⟨rfl,rfl⟩;cases M
 ·go_wp2_with fail
  go_ret;exact⟨rfl,D.o _⟩
 ·go_wp2_with fail
  refine yj (I _) ?_;rintro e w1 ⟨rfl,rfl⟩;cases O
  ·go_wp2_with fail
   go_ret;exact⟨rfl,D.o _⟩
  ·go_wp2_with fail
   refine yj (J _) ?_;rintro e w1 ⟨rfl,rfl⟩
   go_wp2_with fail
   go_ret;exact⟨by cases T <;> rfl,D.o _⟩
theorem Kh(x y:Fr):decide (kM x y)=(decide (bits .andNot .i64 x.m y.m=0) && (x.g || !y.g)):=by
 rw[Bool.eq_iff_iff,decide_eq_true_iff];unfold kM;simp
theorem Ki(x y:Fr)(w:Wd) :
  yO 96 #[fv x,fv y] w fun e w' => e=.returned (.bool (decide (kM x y)))/\Below w.heap.size w w' := by
 rw[Kh];have F:Hid (∀ D E,Bl w ((w.alloc D).alloc E)):=fun D E=>aM w D E;obtain⟨Z,U,J,xt,I⟩:=x;obtain⟨yp,yo,O,yt,M⟩:=y;dsimp only;generalize T:bits .andNot .i64 J O=z;by_cases h:z=0
 ·have d:decide (z=0)=true:=yI h;have d2:(z == 0)=true:=by simp[h]
  cases I <;> cases M
  all_goals
   go_enter func96,ntmps96
   go_wp2_with fail
   go_ret;exact⟨by simp[h],F.o _ _⟩
 ·have d:decide (z=0)=false:=yH h;have d2:(z == 0)=false:=by simp[h]
  go_enter func96,ntmps96
  go_wp2_with fail
  go_ret;exact⟨by simp[h],F.o _ _⟩
theorem Kj(a:OA)(c:Nat)(L:List Fr)(k:Nat)(w:Wd)(hN:L.length<=8)(hk:k<L.length)(hL:aS w a L) :
  yO 63 #[.slice a L.length c,.int .i64 k] w fun e w' => e=.returned (.int .i64 (frE L k))/\Below w.heap.size w w' := by
 have U:Hid _:=Jz (fr L k) k (by omega);have T:Hid _:=Kg (fr L k);have HL:Hid (aS w a L):=hL;have b0:(k:Int)<(L.length:Int):=by omega
 obtain⟨b,o,ea,c0,c1,c2,c3,c4⟩:=hL k hk;subst ea;clear hL;by_cases h1:jR (fr L k) k
 ·rw[yI h1] at U;by_cases O:nU (fr L k)
  ·rw[yI O] at T;by_cases h0:0<k
   ·have hp:0<=(fr L k).p/\(fr L k).p<=(k:Int)-1:=(by unfold jR at h1;rwa [yd (by omega)] at h1);obtain⟨q,hq⟩:=Int.eq_ofNat_of_zero_le hp.1;have a7:q<L.length:=(by omega);have DF:Hid _:=Ki (fr L k) (fr L q);obtain⟨b', o', ea,d0,d1,d2,d3,d4⟩:=HL.o q a7;cases ea
    have J:frE L k=if decide (kM (fr L k) (fr L q))=true then 0 else 3:=by
     unfold frE;rw[yd (yL h1),yd (yL O),hq,yk];by_cases h:kM (fr L k) (fr L q)
     ·rw[yd (fun hh=>hh.2 h),ye (yI h)]
     ·rw[ye ⟨h0,h⟩,yd (by rw[yH h];simp)]
    rw[J];rw[hq] at c0;have hw:((fr L k).p:Int)=(q:Int):=hq;generalize decide (kM (fr L k) (fr L q))=r at *;have b1:(q:Int)<(L.length:Int):=(by omega);have a9:decide ((0:Int)<(k:Int))=true:=yI (by omega);clear J hp HL h1 O;generalize fr L k=x at *;generalize fr L q=y at *;obtain⟨xp,xo,xm,xt,xg⟩:=x;obtain⟨yp,yo,ym,yt,yg⟩:=y;dsimp only at c0 c1 c2 c3 c4 d0 d1 d2 d3 d4 hw;have HW:Hid _:=hw;have a8:=hw;subst a8;clear hw hq HW;generalize L.length=n at *
    go_enter func63,ntmps63
    go_wp2_with fail
    refine yj (U _) ?_;rintro e w1 ⟨rfl,F⟩;subst F
    go_wp2_with fail
    refine yj (T _) ?_;rintro e w2 ⟨rfl,D⟩;have I:Hid (Bl w1 w2):=D;replace ⟨c0,c1,c2,c3,c4⟩:=DY D c0 c1 c2 c3 c4;replace ⟨d0,d1,d2,d3,d4⟩:=DY D d0 d1 d2 d3 d4;clear D
    go_wp2_with fail
    go_region_held3 (fun E=>E.cell? ⟨b,o+k*5,none⟩=some (.int .i64 (q:Int))/\E.cell? ⟨b,o+k*5+1,none⟩=some (.int .i64 xo)/\E.cell? ⟨b,o+k*5+2,none⟩=some (.int .i64 xm)/\E.cell? ⟨b,o+k*5+3,none⟩=some (.int .i64 xt)/\E.cell? ⟨b,o+k*5+4,none⟩=some (.bool xg)/\E.cell? ⟨b,o+q*5,none⟩=some (.int .i64 yp)/\E.cell? ⟨b,o+q*5+1,none⟩=some (.int .i64 yo)/\E.cell? ⟨b,o+q*5+2,none⟩=some (.int .i64 ym)/\E.cell? ⟨b,o+q*5+3,none⟩=some (.int .i64 yt)/\E.cell? ⟨b,o+q*5+4,none⟩=some (.bool yg)) (go_keep) (first|(go_at_call 96;refine yj (DF _) ?_;rintro e w3 ⟨rfl,a5⟩;have M:Bl w2 w3:=(yv w2.heap.size w2).drew.trans a5;have Z:Hid (Bl w1 w3):=(I.trans (M.mono I.size));obtain⟨m0,m1,m2,m3,m4⟩:=DY M c0 c1 c2 c3 c4;obtain⟨n0,n1,n2,n3,n4⟩:=DY M d0 d1 d2 d3 d4;clear a5 M))
    all_goals
     cases r
     ·go_wp2_with fail
      go_ret;exact⟨rfl,Z.o⟩
     ·go_wp2_with fail
      go_ret;exact⟨rfl,Z.o⟩
   ·have a6:k=0:=(by omega);subst a6
    have J:frE L 0=0:=by
     unfold frE;rw[yd (yL h1),yd (yL O),yd (fun hh=>absurd hh.1 (by omega))]
    rw[J];clear J HL h1 O;generalize fr L 0=x at *;obtain⟨xp,xo,xm,xt,xg⟩:=x;simp only[Nat.zero_mul,Nat.add_zero] at c0 c1 c2 c3 c4;generalize L.length=n at *
    go_enter func63,ntmps63
    go_wp2_with fail
    refine yj (U _) ?_;rintro e w1 ⟨rfl,F⟩;subst F
    go_wp2_with fail
    refine yj (T _) ?_;rintro e w2 ⟨rfl,D⟩;have I:Hid (Bl w1 w2):=D;clear D
    go_wp2_with fail
    go_big_quiet (fail)
    go_wp2_with fail
    go_ret;exact⟨rfl,dL I.o _⟩
  ·rw[yH O] at T
   have J:frE L k=2:=by
    unfold frE;rw[yd (yL h1),ye O]
   rw[J];clear J HL h1 O;generalize fr L k=x at *;obtain⟨xp,xo,xm,xt,xg⟩:=x;dsimp only at c0 c1 c2 c3 c4;generalize L.length=n at *
   go_enter func63,ntmps63
   go_wp2_with fail
   refine yj (U _) ?_;rintro e w1 ⟨rfl,F⟩;subst F
   go_wp2_with fail
   refine yj (T _) ?_;rintro e w2 ⟨rfl,D⟩;have I:Hid (Bl w1 w2):=D;clear D
   go_wp2_with fail
   go_ret;exact⟨rfl,I.o⟩
 ·rw[yH h1] at U
  have J:frE L k=4:=by
   unfold frE;rw[ye h1]
  rw[J];clear J HL h1 T;generalize fr L k=x at *;obtain⟨xp,xo,xm,xt,xg⟩:=x;dsimp only at c0 c1 c2 c3 c4;generalize L.length=n at *
  go_enter func63,ntmps63
  go_wp2_with fail
  refine yj (U _) ?_;rintro e w1 ⟨rfl,F⟩;subst F
  go_wp2_with fail
  go_ret;exact⟨rfl,yv _ _⟩
theorem xY(a:OA)(c:Nat)(L:List Fr)(w:Wd)(hN:L.length<=9223372036854775807)(hL:aS w a L) :
  yO 30 #[.slice a L.length c] w fun e w' => e=.returned (.int .i64 (bS L))/\Below w.heap.size w w' := by
 by_cases hm:8<L.length
 ·have e:bS L=1:=by unfold bS;rw[ye hm]
  rw[e];have Z:decide ((8:Int)<(L.length:Int))=true:=yI (by omega);clear hL e;generalize L.length=n at *
  go_enter func30,ntmps30
  go_wp2_with fail
  go_ret;exact⟨rfl,yv _ _⟩
 ·have e:bS L=jS L 0:=by unfold bS;rw[yd hm]
  rw[e];have D:Hid (∀ (k:Nat) (W:Wd),k<L.length->aS W a L->yO 63 #[.slice a L.length c,.int .i64 k] W fun e w' => e=.returned (.int .i64 (frE L k))/\Below W.heap.size W w'):=fun k W hk hW=>Kj a c L k W (by omega) hk hW;have HL:Hid (aS w a L):=hL;have Z:decide ((8:Int)<(L.length:Int))=false:=yH (by omega);have ST:Hid (∀ i,i<L.length->jS L i=if frE L i=0 then jS L (i+1) else frE L i):=fun i hi=>Jt hi;have EN:Hid (jS L L.length=0):=Ju (yr _);clear hL e;obtain⟨E,hE⟩:∃ E,jS L 0=E:=⟨_,rfl⟩;have HE:Hid (jS L 0=E):=hE;rw[hE];clear hE;obtain⟨n,hn⟩:∃ n,L.length=n:=⟨_,rfl⟩;have HN:Hid (L.length=n):=hn;rw[hn] at hN hm Z ST EN D |-;clear hn
  go_enter func30,ntmps30
  go_wp2_with fail
  go_loopg [10] n (fun g s10 wr=>∃ i:Nat,i<=n/\n-i<=g/\s10=.int .i64 i/\Hid (Bl w wr)/\Hid (jS L i=E))
  case atStart=>exact⟨0,by omega,by omega,rfl,yv _ _,HE⟩
  case round =>
   obtain⟨i,hi,hg,rfl,F,T⟩:=hrel;clear HE;by_cases U:i<n
   ·have a6:(i:Int)<(n:Int):=(by omega);have M:Hid _:=(ST i U).symm.trans T;have Di:Hid _:=D.o i wr U (HL.below F);generalize frE L i=x at *;by_cases hx:x=0
    ·have I:Hid (jS L (i+1)=E):=(by have h:=M.o;rwa [ye hx] at h);subst hx;clear M
     go_wp2_with fail
     refine yj Di.o ?_;rintro e w1 ⟨rfl,J⟩;have O:Hid (Bl w w1):=F.trans (J.mono F.size);clear J
     go_wp2_with fail
     go_roundg (n-(i+1))
     case measure=>omega
     case rel=>exact⟨i+1,by omega,by omega,by go_num,O,I⟩
    ·have I:Hid (x=E):=(by have h:=M.o;rwa [yd hx] at h);have a7:decide (x=0)=false:=yH hx;clear M
     go_wp2_with fail
     refine yj Di.o ?_;rintro e w1 ⟨rfl,J⟩;have O:Hid (Bl w w1):=F.trans (J.mono F.size);clear J
     go_wp2_with fail
     go_ret;exact⟨by rw[I.o];rfl,O.o⟩
   ·have a5:i=n:=(by omega);subst a5;have I:Hid ((0:Int)=E):=EN.symm.trans T;clear T
    go_wp2_with fail
    go_ret;exact⟨by rw[I.o];rfl,F.o⟩
theorem UU(a:OA)(c n:Nat)(k:Int)(w:Wd)(E:n<=9223372036854775807) :
  yO 47 #[.slice a n c,.int .i64 k] w fun e w' => e=.returned (.bool (decide (0<=k/\k<n)))/\w' = w:=by
 have e:decide (0<=k/\k<n)=decide (0<=k/\k<=(n:Int)-1):=decide_eq_decide.2 (by omega);rw[e];have D:Hid _:=vE k 0 ((n:Int)-1);clear e;generalize decide (0<=k/\k<=(n:Int)-1)=r at *
 go_enter func47,ntmps47
 go_wp2_with fail
 refine yj (D _) ?_;rintro e w1 ⟨rfl,rfl⟩
 go_wp2
 go_ret;exact⟨rfl,rfl⟩
theorem sF(a:OA)(c:Nat)(L:List Fr)(k:Int)(w:Wd)(J:L.length<=9223372036854775807)(F:aS w a L) :
  yO 70 #[.slice a L.length c,.int .i64 k] w fun e w' => e=.returned (.int .i64 (bC L k))/\w' = w:=by
 have D:Hid _:=UU a c L.length k w J;unfold bC;by_cases h1:0<=k/\k<L.length
 ·rw[yI h1] at D;rw[yd (yL h1)];obtain⟨q,rfl⟩:=Int.eq_ofNat_of_zero_le h1.1;obtain⟨b,o,I,c0,c1,c2,c3,c4⟩:=F q (by omega);subst I;rw[yk];have M:(q:Int)<(L.length:Int):=by omega
  clear F h1;generalize fr L q=x at *;obtain⟨Z,U,T,xt,O⟩:=x;dsimp only at c0 c1 c2 c3 c4;dsimp only;generalize L.length=n at *;cases O
  all_goals
   go_enter func70,ntmps70
   go_wp2_with fail
   refine yj D.o ?_;rintro e w1 ⟨rfl,E⟩;subst E
   go_wp2_with fail
   go_ret;exact⟨rfl,rfl⟩
 ·rw[yH h1] at D;rw[ye h1];clear F h1;generalize L.length=n at *
  go_enter func70,ntmps70
  go_wp2_with fail
  refine yj D.o ?_;rintro e w1 ⟨rfl,E⟩;subst E
  go_wp2_with fail
  go_ret;exact⟨rfl,rfl⟩
theorem KF(a:OA)(c:Nat)(L:List Fr)(k:Int)(w:Wd)(M:L.length<=9223372036854775807)(T:aS w a L) :
  yO 156 #[.slice a L.length c,.int .i64 k] w fun e w' => e=.returned (.int .i64 (dR L k))/\Below w.heap.size w w' := by
 have D:Hid _:=xY a c L w M T;have O:Hid (∀ W,aS W a L->_):=fun W hW=>sF a c L k W M hW;have Z:Hid (aS w a L):=T;unfold dR;clear T;generalize bS L=E at *;generalize bC L k=F at *;by_cases h:E=0
 ·rw[ye h];subst h;obtain⟨n,hn⟩:∃ n,L.length=n:=⟨_,rfl⟩;rw[hn] at M D O |-;clear hn
  go_enter func156,ntmps156
  go_wp2_with fail
  refine yj D.o ?_;rintro e w1 ⟨rfl,I⟩;have J:Hid (Bl w w1):=I;clear I
  go_wp2_with fail
  refine yj (O _ (Z.below J)) ?_;rintro e w2 ⟨rfl,U⟩;subst U
  go_wp2_with fail
  go_ret;exact⟨rfl,J.o⟩
 ·rw[yd h];have h2:decide (E=0)=false:=yH h;obtain⟨n,hn⟩:∃ n,L.length=n:=⟨_,rfl⟩;rw[hn] at M D O |-;clear hn
  go_enter func156,ntmps156
  go_wp2_with fail
  refine yj D.o ?_;rintro e w1 ⟨rfl,I⟩;have J:Hid (Bl w w1):=I;clear I
  go_wp2_with fail
  go_ret;exact⟨rfl,J.o⟩
theorem KG(a:OA)(c:Nat)(L:List Fr)(k top:Int)(w:Wd)(hN:L.length<=9223372036854775807)(hL:aS w a L) :
  yO 16 #[.slice a L.length c,.int .i64 k,.int .i64 top] w fun e w' => e=.returned (.bool (inF L k top))/\w' = w:=by
 unfold inF;have D:Hid (∀ k W,_):=fun k W=>UU a c L.length k W hN;have HL:Hid (aS w a L):=hL;have ST:Hid (∀ n k,eZ L (n+1) k top=if 0<=k/\k<L.length then (if k=top then true else eZ L n (fr L k.toNat).p top) else false):=fun n k=>by rw[eZ]
 have EN:Hid (∀ k,eZ L 0 k top=false):=fun k=>rfl;clear hL;obtain⟨E,hE⟩:∃ E,eZ L L.length k top=E:=⟨_,rfl⟩;have Z:Hid (eZ L L.length k top=E):=hE;rw[hE];clear hE;obtain⟨n,hn⟩:∃ n,L.length=n:=⟨_,rfl⟩;have HN:Hid (L.length=n):=hn;rw[hn] at hN ST D Z |-;clear hn
 go_enter func16,ntmps16
 go_wp2_with fail
 go_loopg [7,11] n (fun g s7 s11 wr=>∃ (i:Nat) (k:Int),i<=n/\n-i<=g/\s11=.int .i64 i/\s7=.int .i64 k/\wr=w/\Hid (eZ L (n-i) k top=E))
 case atStart=>exact⟨0,k,by omega,by omega,rfl,rfl,rfl,Z⟩
 case round =>
  obtain⟨i,k,hi,hg,rfl,rfl,a6,T⟩:=hrel;subst a6;clear Z;by_cases a8:i<n
  ·have a7:(i:Int)<(n:Int):=(by omega);have O:=D.o k wr;have I:Hid _:=(ST (n-(i+1)) k).symm.trans ((by rw[show n-(i+1)+1=n-i by omega]:eZ L (n-(i+1)+1) k top=eZ L (n-i) k top).trans T);by_cases M:0<=k/\k<n
   ·rw[yI M] at O;have U:Hid _:=O;obtain⟨q,rfl⟩:=Int.eq_ofNat_of_zero_le M.1;have a9:(q:Int)<(n:Int):=(by omega);obtain⟨b,o,ea,c0,c1,c2,c3,c4⟩:=HL.o q (by rw[HN.o];omega);subst ea;have h:=I.o;rw[ye M,yk] at h;generalize fr L q=x at *;obtain⟨xp,xo,xm,xt,xg⟩:=x;dsimp only at c0 c1 c2 c3 c4 h;by_cases e:(q:Int)=top
    ·rw[ye e] at h;have F:Hid (true=E):=h;subst e;clear I h O M
     go_wp2_with fail
     refine yj U.o ?_;rintro e w1 ⟨rfl,J⟩;subst J
     go_wp2_with fail
     go_ret;exact⟨by rw[F.o];rfl,rfl⟩
    ·rw[yd e] at h;have F:Hid _:=h;have e2:decide ((q:Int)=top)=false:=yH e;have e3:((q:Int) == top)=false:=(by simp[e]);clear I h O M
     go_wp2_with fail
     refine yj U.o ?_;rintro e w1 ⟨rfl,J⟩;subst J
     go_wp2_with fail
     go_roundg (n-(i+1))
     case measure=>omega
     case rel=>exact⟨i+1,xp,by omega,by omega,by go_num,rfl,rfl,F⟩
   ·rw[yH M] at O;have U:Hid _:=O;have F:Hid (false=E):=(by have h:=I.o;rwa [yd M] at h);clear I M O
    go_wp2_with fail
    refine yj U.o ?_;rintro e w1 ⟨rfl,J⟩;subst J
    go_wp2_with fail
    go_ret;exact⟨by rw[F.o];rfl,rfl⟩
  ·have a5:i=n:=(by omega);subst a5;have F:Hid (false=E):=(by have h:=T.o;rw[Nat.sub_self] at h;exact(EN k).symm.trans h);clear T
   go_wp2_with fail
   go_ret;exact⟨by rw[F.o];rfl,rfl⟩
theorem Kk{P:Program}(w:Wd)(T sT ty elem:TypeId)(i:TypeInfo)(g o I M:Nat)(a:Addr)(E J n:Nat)(D:Array Value)(t:TypeId)(F:List Value)
  (Z:P.underlying T=some (.slice elem)) (hi:P.info? elem=some i) (hg:w.heap[g]?=some (.cells D t (0,0))) (hn:n=Nat.min E I) (hl:F.length=n*i.size)
  (hsrc:∀ j v,F[j]?=some v->w.cell? (a.add j)=some v) (hfit:o+F.length<=D.size) (h1:∀ v ∈ F,v.oneCell' = true) :
  (Builtin.copy_ #[T,sT] ty #[.slice (some ⟨g,o,none⟩) I M,.slice (some a) E J]).run P w=.ok (goInt n) (w.setRow g (D.toList.take o++F++D.toList.drop (o+F.length)).toArray):=by
 have U:=run_firstCells_some (P:=P) w i.size n a E J F hl hsrc;have O:=run_storeCells_at P g o t F 0 D w hg (by simpa using hfit) h1;simp only[Nat.add_zero] at O;simp[Builtin.copy_,run_underlying Z,Builtin.lenOf,sizeOf,typeInfo,hi,<- hn,U,O]
theorem KH{P:Program}{w:Wd}{ops:Array Oper}{rest:List Oper}{o:Oper}{a:Act}{Q:Exit->Act->World->Prop}(Z:o.guard=none)(d s:Operand)(U sT:TypeId)
  (ho:o.op=.call { callee:=.builtin .copy,args:=#[d,s],argTypes:=#[U,sT] }) (elem:TypeId) (i:TypeInfo) (hu:P.underlying U=some (.slice elem)) (hi:P.info? elem=some i)
  (g off E J:Nat) (T:Addr) (F M n:Nat) (hd:a.eval d=.slice (some ⟨g,off,none⟩) E J) (hs:a.eval s=.slice (some T) F M)
  (D:List Value) (t:TypeId) (hg:w.heap[g]?=some (.cells D.toArray t (0,0))) (I:List Value) (hn:n=Nat.min F E) (hl:I.length=n*i.size)
  (hsrc:∀ j v,I[j]?=some v->w.cell? (T.add j)=some v) (hfit:off+I.length<=D.length) (h1:∀ v ∈ I,v.oneCell' = true)
  (h:∀ w', w'.heap[g]?=some (.cells (D.take off++I++D.drop (off+I.length)).toArray t (0,0))->(∀ B w0,Below B w0 w->B<=g->Below B w0 w')->wpList P ops Q rest (a.put o.dst (goInt n)) w'):wpList P ops Q (o :: rest) a w:=by
 refine wpList_plain Z fun K hK=>?_;have O:=Kk (P:=P) w U sT o.type elem i g off E J T F M n D.toArray t I hu hi hg hn hl hsrc (by simpa using hfit) h1;unfold Oper.wp;simp[execOp,ho,resolve,invoke,builtin,hd,hs,O,Result.andThen];refine hK _ _ (h _ ?_ (fun B w0 hb hB=>below_setRow hb hB _));have:=setRow_heap w g D.toArray ((D.toArray.toList.take off++I++D.toArray.toList.drop (off+I.length)).toArray) t _ hg;simpa using this
