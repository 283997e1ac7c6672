/-
  x
-/
import Derived.Test.YtcbcpomacdngmaaGreatA17
namespace Go.Proofs.YtcbcpomacdngmaaGreat
set_option maxRecDepth 100000
set_option maxHeartbeats 4000000
set_option linter.unusedVariables false
open Go.RowKit Go.ChangeShapes Go.WideShapes Tryz
variable{W D:Wd}{b t k o:Nat}{a:OA}{v1 v2 v E:Value}{w w':World}
def aS(w:Wd)(a:OA)(L:List Fr):Prop :=
 ∀ i,i<L.length->∃ b o,a=some ⟨b,o,none⟩/\w.cell? ⟨b,o+i*5,none⟩=some (.int .i64 (fr L i).p)/\w.cell? ⟨b,o+i*5+1,none⟩=some (.int .i64 (fr L i).o)/\w.cell? ⟨b,o+i*5+2,none⟩=some (.int .i64 (fr L i).m)/\w.cell? ⟨b,o+i*5+3,none⟩=some (.int .i64 (fr L i).t)/\w.cell? ⟨b,o+i*5+4,none⟩=some (.bool (fr L i).g)
theorem aS.below{L:List Fr}(h:aS w a L)(hb:Bl w w'):aS w' a L:=fun i hi=>by
 obtain⟨b,o,e,h1,E,F,I,h5⟩:=h i hi;have D:b<w.heap.size:=yi _ _ h1;exact⟨b,o,e,(hb.cell (by exact D)).trans h1,(hb.cell (by exact D)).trans E,(hb.cell (by exact D)).trans F,(hb.cell (by exact D)).trans I,(hb.cell (by exact D)).trans h5⟩
theorem DY{E F I J M:Nat}{O T U:Value}(hb:Bl W D)(c0:W.cell? ⟨b,E,none⟩=some O)(c1:W.cell? ⟨b,F,none⟩=some v1)(c2:W.cell? ⟨b,I,none⟩=some v2)(c3:W.cell? ⟨b,J,none⟩=some T)(c4:W.cell? ⟨b,M,none⟩=some U) :
  D.cell? ⟨b,E,none⟩=some O/\D.cell? ⟨b,F,none⟩=some v1/\D.cell? ⟨b,I,none⟩=some v2/\D.cell? ⟨b,J,none⟩=some T/\D.cell? ⟨b,M,none⟩=some U:=⟨aA c0 hb,aA c1 hb,aA c2 hb,aA c3 hb,aA c4 hb⟩
theorem dL{B:Nat}(h:Below B w w')(n:Nat):Below B w (w'.drewN n):=⟨h.os,h.tape,h.output,h.size,h.block⟩
abbrev fv(x:Fr):Value:=.agg #[.int .i64 x.p,.int .i64 x.o,.int .i64 x.m,.int .i64 x.t,.bool x.g]
theorem vE(x a b:Int)(w:Wd) :
  yO 66 #[.int .i64 x,.int .i64 a,.int .i64 b] w fun e w' => e=.returned (.bool (decide (a<=x/\x<=b)))/\w' = w:=by
 by_cases h1:a<=x
 ·by_cases D:x<=b
  ·have h:decide (a<=x/\x<=b)=true:=(by simp[h1,D]);rw[h];clear h
   go_enter func66,ntmps66
   go_wp2
   go_ret;exact⟨rfl,rfl⟩
  ·have h:decide (a<=x/\x<=b)=false:=(by simp[D]);rw[h];clear h
   go_enter func66,ntmps66
   go_wp2
   go_ret;exact⟨rfl,rfl⟩
 ·have h:decide (a<=x/\x<=b)=false:=by simp[h1]
  rw[h];clear h
  go_enter func66,ntmps66
  go_wp2
  go_ret;exact⟨rfl,rfl⟩
theorem Jz(x:Fr):decide (jR x 0)=decide (x.p = -1):=decide_eq_decide.2 (by unfold jR;simp)
theorem Ka(x:Fr)(h:k≠0):decide (jR x k)=decide (0<=x.p/\x.p<=(k:Int)-1):=decide_eq_decide.2 (by unfold jR;rw[yd h])
theorem Kb(x:Fr)(k:Nat)(I:k<=1000)(w:Wd) :
  yO 94 #[.int .i64 x.p,.int .i64 k] w fun e w' => e=.returned (.bool (decide (jR x k)))/\w' = w:=by
 by_cases h0:k=0
 ·subst h0;rw[Jz];obtain⟨p,D⟩:∃ p,x.p=p:=⟨_,rfl⟩;rw[D];have hd:(p == -1)=decide (p = -1):=by by_cases e:p = -1 <;> simp[e]
  clear D
  go_enter func94,ntmps94
  go_wp2
  go_ret
  first|exact⟨rfl,rfl⟩|exact⟨by rw[hd],rfl⟩|exact⟨oac,rfl⟩
 ·rw[Ka x h0];obtain⟨p,D⟩:∃ p,x.p=p:=⟨_,rfl⟩;rw[D];have h1:¬ (k:Int)=0:=oaa
  have F:decide ((k:Int)=0)=false:=yH h1;have E:Hid _:=vE p 0 ((k:Int)-1);clear D;generalize decide (0<=p/\p<=(k:Int)-1)=r at *
  go_enter func94,ntmps94
  go_wp2_with fail
  refine yj (E _) ?_;rintro e w1 ⟨rfl,rfl⟩
  go_wp2
  go_ret;exact⟨rfl,rfl⟩
theorem Ke(x:Int)(w:Wd) :
  yO 129 #[.int .i64 x] w fun e w' => e=.returned (.bool (decide (0<=x/\x<=9)))/\w' = w:=by
 have D:Hid _:=vE x 0 9;generalize decide (0<=x/\x<=9)=r at *
 go_enter func129,ntmps129
 go_wp2_with fail
 refine yj (D _) ?_;rintro e w1 ⟨rfl,rfl⟩
 go_wp2
 go_ret;exact⟨rfl,rfl⟩
theorem Kg(x:Int)(w:Wd) :
  yO 130 #[.int .i64 x] w fun e w' => e=.returned (.bool (decide (0<=x/\x<=7)))/\w' = w:=by
 have D:Hid _:=vE x 0 7;generalize decide (0<=x/\x<=7)=r at *
 go_enter func130,ntmps130
 go_wp2_with fail
 refine yj (D _) ?_;rintro e w1 ⟨rfl,rfl⟩
 go_wp2
 go_ret;exact⟨rfl,rfl⟩
theorem Kh(x:Fr):decide (nU x)=(decide (0<=x.o/\x.o<=9) && (decide (0<=x.m/\x.m<=7) && decide (0<=x.t/\x.t<=1000))):=by
 unfold nU;by_cases h1:0<=x.o/\x.o<=9 <;> by_cases D:0<=x.m/\x.m<=7 <;> by_cases E:0<=x.t/\x.t<=1000 <;> simp[h1,D,E]
theorem Ki(x:Fr)(w:Wd) :
  yO 95 #[fv x] w fun e w' => e=.returned (.bool (decide (nU x)))/\Below w.heap.size w w' := by
 rw[Kh];have F:Hid _:=Ke x.o;have I:Hid _:=Kg x.m;have J:Hid _:=vE x.t 0 1000;have D:Hid (∀ E,Bl w (w.alloc E)):=fun E=>aB w E;generalize decide (0<=x.o/\x.o<=9)=M at *;generalize decide (0<=x.m/\x.m<=7)=O at *;generalize decide (0<=x.t/\x.t<=1000)=T at *;obtain⟨xp,xo,Z,xt,U⟩:=x;dsimp only at F I J
 go_enter func95,ntmps95
 go_wp2_with fail
 refine yj (F _) ?_;rintro e w1 ⟨rfl,rfl⟩;cases M
 ·go_wp2_with fail
  go_ret;exact⟨rfl,D.out _⟩
 ·go_wp2_with fail
  refine yj (I _) ?_;rintro e w1 ⟨rfl,rfl⟩;cases O
  ·go_wp2_with fail
   go_ret;exact⟨rfl,D.out _⟩
  ·go_wp2_with fail
   refine yj (J _) ?_;rintro e w1 ⟨rfl,rfl⟩
   go_wp2_with fail
   go_ret;exact⟨by cases T <;> rfl,D.out _⟩
theorem Kj(x y:Fr):decide (kM x y)=(decide (bits .andNot .i64 x.m y.m=0) && (x.g || !y.g)):=by
 rw[Bool.eq_iff_iff,decide_eq_true_iff];unfold kM;simp
theorem Kk(x y:Fr)(w:Wd) :
  yO 96 #[fv x,fv y] w fun e w' => e=.returned (.bool (decide (kM x y)))/\Below w.heap.size w w' := by
 rw[Kj];have F:Hid (∀ D E,Bl w ((w.alloc D).alloc E)):=fun D E=>aM w D E;obtain⟨Z,U,J,xt,I⟩:=x;obtain⟨yp,yo,O,yt,M⟩:=y;dsimp only;generalize T:bits .andNot .i64 J O=z;by_cases h:z=0
 ·have d:decide (z=0)=true:=yI h;have d2:(z == 0)=true:=by simp[h]
  cases I <;> cases M
  all_goals
   go_enter func96,ntmps96
   go_wp2_with fail
   go_ret;exact⟨by simp[h],F.out _ _⟩
 ·have d:decide (z=0)=false:=yH h;have d2:(z == 0)=false:=by simp[h]
  go_enter func96,ntmps96
  go_wp2_with fail
  go_ret;exact⟨by simp[h],F.out _ _⟩
theorem Kl(a:OA)(c:Nat)(L:List Fr)(k:Nat)(w:Wd)(hN:L.length<=8)(hk:k<L.length)(hL:aS w a L) :
  yO 63 #[.slice a L.length c,.int .i64 k] w fun e w' => e=.returned (.int .i64 (frE L k))/\Below w.heap.size w w' := by
 have U:Hid _:=Kb (fr L k) k oaa;have T:Hid _:=Ki (fr L k);have HL:Hid (aS w a L):=hL;have b0:(k:Int)<(L.length:Int):=oaa
 obtain⟨b,o,ea,c0,c1,c2,c3,c4⟩:=hL k hk;subst ea;clear hL;by_cases h1:jR (fr L k) k
 ·rw[yI h1] at U;by_cases O:nU (fr L k)
  ·rw[yI O] at T;by_cases h0:0<k
   ·have hp:0<=(fr L k).p/\(fr L k).p<=(k:Int)-1:=(by unfold jR at h1;rwa [yd oaa] at h1);obtain⟨q,hq⟩:=Int.eq_ofNat_of_zero_le hp.1;have a7:q<L.length:=oaa;have DF:Hid _:=Kk (fr L k) (fr L q);obtain⟨b', o', ea,d0,d1,d2,d3,d4⟩:=HL.out q a7;cases ea
    have J:frE L k=if decide (kM (fr L k) (fr L q))=true then 0 else 3:=by
     unfold frE;rw[yd (yL h1),yd (yL O),hq,yk];by_cases h:kM (fr L k) (fr L q)
     ·rw[yd (fun hh=>hh.2 h),ye (yI h)]
     ·rw[ye ⟨h0,h⟩,yd (by rw[yH h];simp)]
    rw[J];rw[hq] at c0;have hw:((fr L k).p:Int)=(q:Int):=hq;generalize decide (kM (fr L k) (fr L q))=r at *;have b1:(q:Int)<(L.length:Int):=oaa;have a9:decide ((0:Int)<(k:Int))=true:=yI oaa;clear J hp HL h1 O;generalize fr L k=x at *;generalize fr L q=y at *;obtain⟨xp,xo,xm,xt,xg⟩:=x;obtain⟨yp,yo,ym,yt,yg⟩:=y;dsimp only at c0 c1 c2 c3 c4 d0 d1 d2 d3 d4 hw;have HW:Hid _:=hw;have a8:=hw;subst a8;clear hw hq HW;generalize L.length=n at *
    go_enter func63,ntmps63
    go_wp2_with fail
    refine yj (U _) ?_;rintro e w1 ⟨rfl,F⟩;subst F
    go_wp2_with fail
    refine yj (T _) ?_;rintro e w2 ⟨rfl,D⟩;have I:Hid (Bl w1 w2):=D;replace ⟨c0,c1,c2,c3,c4⟩:=DY D c0 c1 c2 c3 c4;replace ⟨d0,d1,d2,d3,d4⟩:=DY D d0 d1 d2 d3 d4;clear D
    go_wp2_with fail
    go_region_held3 (fun E=>E.cell? ⟨b,o+k*5,none⟩=some (.int .i64 (q:Int))/\E.cell? ⟨b,o+k*5+1,none⟩=some (.int .i64 xo)/\E.cell? ⟨b,o+k*5+2,none⟩=some (.int .i64 xm)/\E.cell? ⟨b,o+k*5+3,none⟩=some (.int .i64 xt)/\E.cell? ⟨b,o+k*5+4,none⟩=some (.bool xg)/\E.cell? ⟨b,o+q*5,none⟩=some (.int .i64 yp)/\E.cell? ⟨b,o+q*5+1,none⟩=some (.int .i64 yo)/\E.cell? ⟨b,o+q*5+2,none⟩=some (.int .i64 ym)/\E.cell? ⟨b,o+q*5+3,none⟩=some (.int .i64 yt)/\E.cell? ⟨b,o+q*5+4,none⟩=some (.bool yg)) (go_keep) (first|(go_at_call 96;refine yj (DF _) ?_;rintro e w3 ⟨rfl,a5⟩;have M:Bl w2 w3:=(yv w2.heap.size w2).drew.trans a5;have Z:Hid (Bl w1 w3):=(I.trans (M.mono I.size));obtain⟨m0,m1,m2,m3,m4⟩:=DY M c0 c1 c2 c3 c4;obtain⟨n0,n1,n2,n3,n4⟩:=DY M d0 d1 d2 d3 d4;clear a5 M))
    all_goals
     cases r
     ·go_wp2_with fail
      go_ret;exact⟨rfl,Z.out⟩
     ·go_wp2_with fail
      go_ret;exact⟨rfl,Z.out⟩
   ·have a6:k=0:=oaa;subst a6
    have J:frE L 0=0:=by
     unfold frE;rw[yd (yL h1),yd (yL O),yd (fun hh=>absurd hh.1 oaa)]
    rw[J];clear J HL h1 O;generalize fr L 0=x at *;obtain⟨xp,xo,xm,xt,xg⟩:=x;simp only[Nat.zero_mul,Nat.add_zero] at c0 c1 c2 c3 c4;generalize L.length=n at *
    go_enter func63,ntmps63
    go_wp2_with fail
    refine yj (U _) ?_;rintro e w1 ⟨rfl,F⟩;subst F
    go_wp2_with fail
    refine yj (T _) ?_;rintro e w2 ⟨rfl,D⟩;have I:Hid (Bl w1 w2):=D;clear D
    go_wp2_with fail
    go_big_quiet (fail)
    go_wp2_with fail
    go_ret;exact⟨rfl,dL I.out _⟩
  ·rw[yH O] at T
   have J:frE L k=2:=by
    unfold frE;rw[yd (yL h1),ye O]
   rw[J];clear J HL h1 O;generalize fr L k=x at *;obtain⟨xp,xo,xm,xt,xg⟩:=x;dsimp only at c0 c1 c2 c3 c4;generalize L.length=n at *
   go_enter func63,ntmps63
   go_wp2_with fail
   refine yj (U _) ?_;rintro e w1 ⟨rfl,F⟩;subst F
   go_wp2_with fail
   refine yj (T _) ?_;rintro e w2 ⟨rfl,D⟩;have I:Hid (Bl w1 w2):=D;clear D
   go_wp2_with fail
   go_ret;exact⟨rfl,I.out⟩
 ·rw[yH h1] at U
  have J:frE L k=4:=by
   unfold frE;rw[ye h1]
  rw[J];clear J HL h1 T;generalize fr L k=x at *;obtain⟨xp,xo,xm,xt,xg⟩:=x;dsimp only at c0 c1 c2 c3 c4;generalize L.length=n at *
  go_enter func63,ntmps63
  go_wp2_with fail
  refine yj (U _) ?_;rintro e w1 ⟨rfl,F⟩;subst F
  go_wp2_with fail
  go_ret;exact⟨rfl,yv _ _⟩
theorem xY(a:OA)(c:Nat)(L:List Fr)(w:Wd)(hN:L.length<=9223372036854775807)(hL:aS w a L) :
  yO 30 #[.slice a L.length c] w fun e w' => e=.returned (.int .i64 (bS L))/\Below w.heap.size w w' := by
 by_cases hm:8<L.length
 ·have e:bS L=1:=by unfold bS;rw[ye hm]
  rw[e];have Z:decide ((8:Int)<(L.length:Int))=true:=yI oaa;clear hL e;generalize L.length=n at *
  go_enter func30,ntmps30
  go_wp2_with fail
  go_ret;exact⟨rfl,yv _ _⟩
 ·have e:bS L=jS L 0:=by unfold bS;rw[yd hm]
  rw[e];have D:Hid (∀ (k:Nat) (W:Wd),k<L.length->aS W a L->yO 63 #[.slice a L.length c,.int .i64 k] W fun e w' => e=.returned (.int .i64 (frE L k))/\Below W.heap.size W w'):=fun k W hk hW=>Kl a c L k W oaa hk hW;have HL:Hid (aS w a L):=hL;have Z:decide ((8:Int)<(L.length:Int))=false:=yH oaa;have ST:Hid (∀ i,i<L.length->jS L i=if frE L i=0 then jS L (i+1) else frE L i):=fun i hi=>Jv hi;have EN:Hid (jS L L.length=0):=Jw (yr _);clear hL e;obtain⟨E,hE⟩:∃ E,jS L 0=E:=⟨_,rfl⟩;have HE:Hid (jS L 0=E):=hE;rw[hE];clear hE;obtain⟨n,hn⟩:∃ n,L.length=n:=⟨_,rfl⟩;have HN:Hid (L.length=n):=hn;rw[hn] at hN hm Z ST EN D |-;clear hn
  go_enter func30,ntmps30
  go_wp2_with fail
  go_loopg [10] n (fun g s10 wr=>∃ i:Nat,i<=n/\n-i<=g/\s10=.int .i64 i/\Hid (Bl w wr)/\Hid (jS L i=E))
  case atStart=>exact⟨0,oaa,oaa,rfl,yv _ _,HE⟩
  case round =>
   obtain⟨i,hi,hg,rfl,F,T⟩:=hrel;clear HE;by_cases U:i<n
   ·have a6:(i:Int)<(n:Int):=oaa;have M:Hid _:=(ST i U).symm.trans T;have Di:Hid _:=D.out i wr U (HL.below F);generalize frE L i=x at *;by_cases hx:x=0
    ·have I:Hid (jS L (i+1)=E):=(by have h:=M.out;rwa [ye hx] at h);subst hx;clear M
     go_wp2_with fail
     refine yj Di.out ?_;rintro e w1 ⟨rfl,J⟩;have O:Hid (Bl w w1):=F.trans (J.mono F.size);clear J
     go_wp2_with fail
     go_roundg (n-(i+1))
     case measure=>omega
     case rel=>exact⟨i+1,oaa,oaa,by go_num,O,I⟩
    ·have I:Hid (x=E):=(by have h:=M.out;rwa [yd hx] at h);have a7:decide (x=0)=false:=yH hx;clear M
     go_wp2_with fail
     refine yj Di.out ?_;rintro e w1 ⟨rfl,J⟩;have O:Hid (Bl w w1):=F.trans (J.mono F.size);clear J
     go_wp2_with fail
     go_ret;exact⟨by rw[I.out];rfl,O.out⟩
   ·have a5:i=n:=oaa;subst a5;have I:Hid ((0:Int)=E):=EN.symm.trans T;clear T
    go_wp2_with fail
    go_ret;exact⟨by rw[I.out];rfl,F.out⟩
theorem UV(a:OA)(c n:Nat)(k:Int)(w:Wd)(E:n<=9223372036854775807) :
  yO 47 #[.slice a n c,.int .i64 k] w fun e w' => e=.returned (.bool (decide (0<=k/\k<n)))/\w' = w:=by
 have e:decide (0<=k/\k<n)=decide (0<=k/\k<=(n:Int)-1):=decide_eq_decide.2 oaa;rw[e];have D:Hid _:=vE k 0 ((n:Int)-1);clear e;generalize decide (0<=k/\k<=(n:Int)-1)=r at *
 go_enter func47,ntmps47
 go_wp2_with fail
 refine yj (D _) ?_;rintro e w1 ⟨rfl,rfl⟩
 go_wp2
 go_ret;exact⟨rfl,rfl⟩
theorem sF(a:OA)(c:Nat)(L:List Fr)(k:Int)(w:Wd)(J:L.length<=9223372036854775807)(F:aS w a L) :
  yO 70 #[.slice a L.length c,.int .i64 k] w fun e w' => e=.returned (.int .i64 (bC L k))/\w' = w:=by
 have D:Hid _:=UV a c L.length k w J;unfold bC;by_cases h1:0<=k/\k<L.length
 ·rw[yI h1] at D;rw[yd (yL h1)];obtain⟨q,rfl⟩:=Int.eq_ofNat_of_zero_le h1.1;obtain⟨b,o,I,c0,c1,c2,c3,c4⟩:=F q oaa;subst I;rw[yk];have M:(q:Int)<(L.length:Int):=oaa
  clear F h1;generalize fr L q=x at *;obtain⟨Z,U,T,xt,O⟩:=x;dsimp only at c0 c1 c2 c3 c4;dsimp only;generalize L.length=n at *;cases O
  all_goals
   go_enter func70,ntmps70
   go_wp2_with fail
   refine yj D.out ?_;rintro e w1 ⟨rfl,E⟩;subst E
   go_wp2_with fail
   go_ret;exact⟨rfl,rfl⟩
 ·rw[yH h1] at D;rw[ye h1];clear F h1;generalize L.length=n at *
  go_enter func70,ntmps70
  go_wp2_with fail
  refine yj D.out ?_;rintro e w1 ⟨rfl,E⟩;subst E
  go_wp2_with fail
  go_ret;exact⟨rfl,rfl⟩
theorem KF(a:OA)(c:Nat)(L:List Fr)(k:Int)(w:Wd)(M:L.length<=9223372036854775807)(T:aS w a L) :
  yO 156 #[.slice a L.length c,.int .i64 k] w fun e w' => e=.returned (.int .i64 (dR L k))/\Below w.heap.size w w' := by
 have D:Hid _:=xY a c L w M T;have O:Hid (∀ W,aS W a L->_):=fun W hW=>sF a c L k W M hW;have Z:Hid (aS w a L):=T;unfold dR;clear T;generalize bS L=E at *;generalize bC L k=F at *;by_cases h:E=0
 ·rw[ye h];subst h;obtain⟨n,hn⟩:∃ n,L.length=n:=⟨_,rfl⟩;rw[hn] at M D O |-;clear hn
  go_enter func156,ntmps156
  go_wp2_with fail
  refine yj D.out ?_;rintro e w1 ⟨rfl,I⟩;have J:Hid (Bl w w1):=I;clear I
  go_wp2_with fail
  refine yj (O _ (Z.below J)) ?_;rintro e w2 ⟨rfl,U⟩;subst U
  go_wp2_with fail
  go_ret;exact⟨rfl,J.out⟩
 ·rw[yd h];have h2:decide (E=0)=false:=yH h;obtain⟨n,hn⟩:∃ n,L.length=n:=⟨_,rfl⟩;rw[hn] at M D O |-;clear hn
  go_enter func156,ntmps156
  go_wp2_with fail
  refine yj D.out ?_;rintro e w1 ⟨rfl,I⟩;have J:Hid (Bl w w1):=I;clear I
  go_wp2_with fail
  go_ret;exact⟨rfl,J.out⟩
theorem KG(a:OA)(c:Nat)(L:List Fr)(k top:Int)(w:Wd)(hN:L.length<=9223372036854775807)(hL:aS w a L) :
  yO 16 #[.slice a L.length c,.int .i64 k,.int .i64 top] w fun e w' => e=.returned (.bool (inF L k top))/\w' = w:=by
 unfold inF;have D:Hid (∀ k W,_):=fun k W=>UV a c L.length k W hN;have HL:Hid (aS w a L):=hL;have ST:Hid (∀ n k,eZ L (n+1) k top=if 0<=k/\k<L.length then (if k=top then true else eZ L n (fr L k.toNat).p top) else false):=fun n k=>by rw[eZ]
 have EN:Hid (∀ k,eZ L 0 k top=false):=fun k=>rfl;clear hL;obtain⟨E,hE⟩:∃ E,eZ L L.length k top=E:=⟨_,rfl⟩;have Z:Hid (eZ L L.length k top=E):=hE;rw[hE];clear hE;obtain⟨n,hn⟩:∃ n,L.length=n:=⟨_,rfl⟩;have HN:Hid (L.length=n):=hn;rw[hn] at hN ST D Z |-;clear hn
 go_enter func16,ntmps16
 go_wp2_with fail
 go_loopg [7,11] n (fun g s7 s11 wr=>∃ (i:Nat) (k:Int),i<=n/\n-i<=g/\s11=.int .i64 i/\s7=.int .i64 k/\wr=w/\Hid (eZ L (n-i) k top=E))
 case atStart=>exact⟨0,k,oaa,oaa,rfl,rfl,rfl,Z⟩
 case round =>
  obtain⟨i,k,hi,hg,rfl,rfl,a6,T⟩:=hrel;subst a6;clear Z;by_cases a8:i<n
  ·have a7:(i:Int)<(n:Int):=oaa;have O:=D.out k wr;have I:Hid _:=(ST (n-(i+1)) k).symm.trans ((by rw[show n-(i+1)+1=n-i by omega]:eZ L (n-(i+1)+1) k top=eZ L (n-i) k top).trans T);by_cases M:0<=k/\k<n
   ·rw[yI M] at O;have U:Hid _:=O;obtain⟨q,rfl⟩:=Int.eq_ofNat_of_zero_le M.1;have a9:(q:Int)<(n:Int):=oaa;obtain⟨b,o,ea,c0,c1,c2,c3,c4⟩:=HL.out q (by rw[HN.out];omega);subst ea;have h:=I.out;rw[ye M,yk] at h;generalize fr L q=x at *;obtain⟨xp,xo,xm,xt,xg⟩:=x;dsimp only at c0 c1 c2 c3 c4 h;by_cases e:(q:Int)=top
    ·rw[ye e] at h;have F:Hid (true=E):=h;subst e;clear I h O M
     go_wp2_with fail
     refine yj U.out ?_;rintro e w1 ⟨rfl,J⟩;subst J
     go_wp2_with fail
     go_ret;exact⟨by rw[F.out];rfl,rfl⟩
    ·rw[yd e] at h;have F:Hid _:=h;have e2:decide ((q:Int)=top)=false:=yH e;have e3:((q:Int) == top)=false:=(by simp[e]);clear I h O M
     go_wp2_with fail
     refine yj U.out ?_;rintro e w1 ⟨rfl,J⟩;subst J
     go_wp2_with fail
     go_roundg (n-(i+1))
     case measure=>omega
     case rel=>exact⟨i+1,xp,oaa,oaa,by go_num,rfl,rfl,F⟩
   ·rw[yH M] at O;have U:Hid _:=O;have F:Hid (false=E):=(by have h:=I.out;rwa [yd M] at h);clear I M O
    go_wp2_with fail
    refine yj U.out ?_;rintro e w1 ⟨rfl,J⟩;subst J
    go_wp2_with fail
    go_ret;exact⟨by rw[F.out];rfl,rfl⟩
  ·have a5:i=n:=oaa;subst a5;have F:Hid (false=E):=(by have h:=T.out;rw[Nat.sub_self] at h;exact(EN k).symm.trans h);clear T
   go_wp2_with fail
   go_ret;exact⟨by rw[F.out];rfl,rfl⟩
def SlB(W:Wd)(b:Nat):Prop:=∀ j v,W.cell? ⟨b,j,none⟩=some v->∃ a n c,v=.slice a n c
def nX(b:Nat)(W D:Wd):Prop:=W.heap.size<=D.heap.size/\∀ k,k<W.heap.size->k≠b->D.heap[k]?=W.heap[k]?
theorem nX.cell(h:nX b W D)(E:k≠b)(hc:W.cell? ⟨k,o,none⟩=some v):D.cell? ⟨k,o,none⟩=some v:=by
 have:=h.2 k (yi _ _ hc) E;unfold World.cell? at hc |-;dsimp only at hc |-;rw[this];exact hc
theorem SlB.ne(h:SlB W b)(hc:W.cell? ⟨k,o,none⟩=some v)(hv:∀ a n c,v≠.slice a n c):k≠b:=fun e=>by
 subst e;obtain⟨a,n,c,D⟩:=h _ _ hc;exact hv a n c D
theorem aG.offB{l:List Int}(h:aG W a l)(hs:SlB W b)(E:nX b W D):aG D a l:=fun i hi=>by
 obtain⟨k,o,e,hc⟩:=h i hi;exact⟨k,o,e,E.cell (hs.ne hc (fun _ _ _ h=>oah)) hc⟩
theorem aD.offB{I:Wd}{S:List Nd}(h:aD W a S)(hs:SlB W b)(D:nX b W I):aD I a S:=fun i hi=>by
 obtain⟨k,o,e,c0,c1,c2,c3,c4,⟨ka,kc,c5,F⟩,J,M⟩:=h i hi;have E:=hs.ne c0 (fun _ _ _ h=>oah);exact⟨k,o,e,D.cell E c0,D.cell E c1,D.cell E c2,D.cell E c3,D.cell E c4,⟨ka,kc,D.cell E c5,F.offB hs D⟩,D.cell E J,D.cell E M⟩
theorem nX.set(h:nX b W D):nX b W (D.setCell ⟨b,o,none⟩ v):=⟨by simpa using h.1,fun k E hn=>(yx _ _ _ _ hn).trans (h.2 k E hn)⟩
theorem nX.refl(b:Nat)(W:Wd):nX b W W:=⟨yr _,fun _ _ _=>rfl⟩
theorem aH{o:Obj}(h:W.heap[b]?=some o)(hb:Bl W D):D.heap[b]?=some o:=(hb.block b (aR h)).trans h
theorem Kz(U:CW){R:Rl}{p E:Int}(h1:bB p=R)(T:CU p=E)(W:Wd) :
  yO 28 #[.int .i64 p] W fun e w' => ∃ (D F I J:OA) (d0 d1 d2 d3:Nat),e=.returned (.tuple #[.agg #[.slice D R.s.length d0,.slice F R.hs.length d1,.slice I R.i.length d2,.slice J R.t.length d3],.int .i64 E])/\Below W.heap.size W w' /\ aU w' ⟨D,F,I,J,d0,d1,d2,d3⟩ R:=by
 refine(U p W).mono ?_;rintro e w' ⟨⟨D,F,I,J,d0,d1,d2,d3⟩,M,hb,O⟩;rw[h1] at M O;rw[T] at M;exact⟨D,F,I,J,d0,d1,d2,d3,M,hb,O⟩
theorem La{D:Value}{f}(h:W.heap[b]?=some (.cells #[D,v1,v2,E] t f))(h0:∃ a n c,D=.slice a n c)(h1:∃ a n c,v1=.slice a n c)(F:∃ a n c,v2=.slice a n c)(I:∃ a n c,E=.slice a n c):SlB W b:=fun j v hv=>by
 unfold World.cell? at hv;dsimp only at hv;rw[h] at hv
 match j with
 | 0=>simp at hv;rw[<- hv];exact h0
 | 1=>simp at hv;rw[<- hv];exact h1
 | 2=>simp at hv;rw[<- hv];exact F
 | 3=>simp at hv;rw[<- hv];exact I
 | j+4=>simp at hv
theorem bR{i:Nat}{X:Array Value}{f:Nat × Nat}(h:W.heap[b]?=some (.cells X t f)):(W.setCell ⟨b,i,none⟩ v).heap[b]?=some (.cells (X.setIfInBounds i v) t f):=by
 show (W.heap.modify b _)[b]?=_;rw[Array.getElem?_modify,ye rfl,h];rfl
theorem nY{I J u0 u1 u2 u3:Value}(h:W.heap[b]?=some (.cells #[I,v1,v2,J] t (0,0))):((((W.setCell ⟨b,0,none⟩ u0).setCell ⟨b,1,none⟩ u1).setCell ⟨b,2,none⟩ u2).setCell ⟨b,3,none⟩ u3).heap[b]?=some (.cells #[u0,u1,u2,u3] t (0,0)):=by
 have D:=bR (i:=0) (v:=u0) h;have E:=bR (i:=1) (v:=u1) D;have F:=bR (i:=2) (v:=u2) E;exact bR (i:=3) (v:=u3) F
theorem mJ(W:Wd)(t:Nat)(D v1 v2 E:Value):(W.alloc (.cells #[D,v1,v2,E] t)).heap[W.heap.size]?=some (.cells #[D,v1,v2,E] t (0,0)):=yN W _
theorem aV{D:Value}(h:W.heap[b]?=some (.cells #[D,v1,v2,E] t (0,0))):W.cell? ⟨b,0,none⟩=some D/\W.cell? ⟨b,1,none⟩=some v1/\W.cell? ⟨b,2,none⟩=some v2/\W.cell? ⟨b,3,none⟩=some E/\(∀ o,W.frozen? ⟨b,o,none⟩=false)/\b<W.heap.size :=
 ⟨by simp[World.cell?,h],by simp[World.cell?,h],by simp[World.cell?,h],by simp[World.cell?,h],fun o=>by simp[World.frozen?,h],aR h⟩
theorem Mk{C:List (List Cl)}{j:Nat}(h:j<C.length):fM (C.drop j)=if bF (gr C j)=0 then fM (C.drop (j+1)) else bF (gr C j):=by
 rw[List.drop_eq_getElem_cons h,fM,qJ h]
theorem Mm(C:List (List Cl)):fM (C.drop C.length)=0:=by
 rw[List.drop_length];rfl
def vN(X:Nat->Prop)(w:Wd)(a:OA)(G:List Cl):Prop:=∀ w', aC X w w' -> aO w' a G
theorem vN.off{X:Nat->Prop}{G:List Cl}(h:vN X w a G)(F:aC X w w'):vN X w' a G:=fun D E=>h D (F.trans E)
