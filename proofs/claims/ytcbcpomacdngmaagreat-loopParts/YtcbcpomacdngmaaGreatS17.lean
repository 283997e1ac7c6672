/-
  x
-/
import Derived.Test.YtcbcpomacdngmaaGreatS16
namespace Go.Proofs.YtcbcpomacdngmaaGreat
set_option maxRecDepth 100000
set_option maxHeartbeats 4000000
set_option linter.unusedVariables false
open Go.RowKit
theorem zkc(a:Option Addr)(c:Nat)(L:List Fr)(k:Nat)(w:World)(hN:L.length<=8)(hk:k<L.length)(hL:zaP w a L) :
  yM 63 #[.slice a L.length c,.int .i64 k] w fun e w' => e=.returned (.int .i64 (frE L k))/\Below w.heap.size w w' := by
 have DW:Hid _:=zkq (fr L k) k (by omega);have Z:Hid _:=zmS (fr L k);have HL:Hid (zaP w a L):=hL;have b1:(k:Int)<(L.length:Int):=by omega
 obtain⟨b,o,ea,c0,c1,c2,c3,c4⟩:=hL k hk;subst ea;clear hL;by_cases h1:zgF (fr L k) k
 ·rw[yG h1] at DW;by_cases U:zdP (fr L k)
  ·rw[yG U] at Z;by_cases h0:0<k
   ·have hp:0<=(fr L k).p/\(fr L k).p<=(k:Int)-1:=(by unfold zgF at h1;rwa [ya (by omega)] at h1);obtain⟨q,hq⟩:=Int.eq_ofNat_of_zero_le hp.1;have a8:q<L.length:=(by omega);have DF:Hid _:=zmK (fr L k) (fr L q);obtain⟨b', o', ea,d0,d1,d2,d3,d4⟩:=HL.out q a8;cases ea
    have J:frE L k=if decide (zgP (fr L k) (fr L q))=true then 0 else 3:=by
     unfold frE;rw[ya (yJ h1),ya (yJ U),hq,yi];by_cases h:zgP (fr L k) (fr L q)
     ·rw[ya (fun hh=>hh.2 h),yb (yG h)]
     ·rw[yb ⟨h0,h⟩,ya (by rw[yF h];simp)]
    rw[J];rw[hq] at c0;have hw:((fr L k).p:Int)=(q:Int):=hq;generalize decide (zgP (fr L k) (fr L q))=r at *;have b2:(q:Int)<(L.length:Int):=(by omega);have b0:decide ((0:Int)<(k:Int))=true:=yG (by omega);clear J hp HL h1 U;generalize fr L k=x at *;generalize fr L q=y at *;obtain⟨xp,xo,xm,xt,xg⟩:=x;obtain⟨yp,yo,ym,yt,yg⟩:=y;dsimp only at c0 c1 c2 c3 c4 d0 d1 d2 d3 d4 hw;have HW:Hid _:=hw;have a9:=hw;subst a9;clear hw hq HW;generalize L.length=n at *
    go_enter Tryz.func63,Tryz.ntmps63
    go_wp2_with fail
    refine ye (DW.out _) ?_;rintro e M ⟨rfl,F⟩;subst F
    go_wp2_with fail
    refine ye (Z.out _) ?_;rintro e T ⟨rfl,D⟩;have I:Hid (Below M.heap.size M T):=D;replace ⟨c0,c1,c2,c3,c4⟩:=zwt D c0 c1 c2 c3 c4;replace ⟨d0,d1,d2,d3,d4⟩:=zwt D d0 d1 d2 d3 d4;clear D
    go_wp2_with fail
    go_region_held3 (fun E=>E.cell? ⟨b,o+k*5,none⟩=some (.int .i64 (q:Int))/\E.cell? ⟨b,o+k*5+1,none⟩=some (.int .i64 xo)/\E.cell? ⟨b,o+k*5+2,none⟩=some (.int .i64 xm)/\E.cell? ⟨b,o+k*5+3,none⟩=some (.int .i64 xt)/\E.cell? ⟨b,o+k*5+4,none⟩=some (.bool xg)/\E.cell? ⟨b,o+q*5,none⟩=some (.int .i64 yp)/\E.cell? ⟨b,o+q*5+1,none⟩=some (.int .i64 yo)/\E.cell? ⟨b,o+q*5+2,none⟩=some (.int .i64 ym)/\E.cell? ⟨b,o+q*5+3,none⟩=some (.int .i64 yt)/\E.cell? ⟨b,o+q*5+4,none⟩=some (.bool yg)) (go_keep) (first|(go_at_call 96;refine ye (DF.out _) ?_;rintro e w3 ⟨rfl,a6⟩;have O:Below T.heap.size T w3:=(yk T.heap.size T).drew.trans a6;have a5:Hid (Below M.heap.size M w3):=(I.out.trans (O.mono I.out.size));obtain⟨m0,m1,m2,m3,m4⟩:=zwt O c0 c1 c2 c3 c4;obtain⟨n0,n1,n2,n3,n4⟩:=zwt O d0 d1 d2 d3 d4;clear a6 O))
    all_goals
     cases r
     ·go_wp2_with fail
      go_ret;exact⟨rfl,a5.out⟩
     ·go_wp2_with fail
      go_ret;exact⟨rfl,a5.out⟩
   ·have a7:k=0:=(by omega);subst a7
    have J:frE L 0=0:=by
     unfold frE;rw[ya (yJ h1),ya (yJ U),ya (fun hh=>absurd hh.1 (by omega))]
    rw[J];clear J HL h1 U;generalize fr L 0=x at *;obtain⟨xp,xo,xm,xt,xg⟩:=x;simp only[Nat.zero_mul,Nat.add_zero] at c0 c1 c2 c3 c4;generalize L.length=n at *
    go_enter Tryz.func63,Tryz.ntmps63
    go_wp2_with fail
    refine ye (DW.out _) ?_;rintro e M ⟨rfl,F⟩;subst F
    go_wp2_with fail
    refine ye (Z.out _) ?_;rintro e T ⟨rfl,D⟩;have I:Hid (Below M.heap.size M T):=D;clear D
    go_wp2_with fail
    go_big_quiet (fail)
    go_wp2_with fail
    go_ret;exact⟨rfl,zbL I.out _⟩
  ·rw[yF U] at Z
   have J:frE L k=2:=by
    unfold frE;rw[ya (yJ h1),yb U]
   rw[J];clear J HL h1 U;generalize fr L k=x at *;obtain⟨xp,xo,xm,xt,xg⟩:=x;dsimp only at c0 c1 c2 c3 c4;generalize L.length=n at *
   go_enter Tryz.func63,Tryz.ntmps63
   go_wp2_with fail
   refine ye (DW.out _) ?_;rintro e M ⟨rfl,F⟩;subst F
   go_wp2_with fail
   refine ye (Z.out _) ?_;rintro e T ⟨rfl,D⟩;have I:Hid (Below M.heap.size M T):=D;clear D
   go_wp2_with fail
   go_ret;exact⟨rfl,I.out⟩
 ·rw[yF h1] at DW
  have J:frE L k=4:=by
   unfold frE;rw[yb h1]
  rw[J];clear J HL h1 Z;generalize fr L k=x at *;obtain⟨xp,xo,xm,xt,xg⟩:=x;dsimp only at c0 c1 c2 c3 c4;generalize L.length=n at *
  go_enter Tryz.func63,Tryz.ntmps63
  go_wp2_with fail
  refine ye (DW.out _) ?_;rintro e M ⟨rfl,F⟩;subst F
  go_wp2_with fail
  go_ret;exact⟨rfl,yk _ _⟩
theorem zdZ(a:Option Addr)(c:Nat)(L:List Fr)(w:World)(hN:L.length<=9223372036854775807)(hL:zaP w a L) :
  yM 30 #[.slice a L.length c] w fun e w' => e=.returned (.int .i64 (zaN L))/\Below w.heap.size w w' := by
 by_cases hm:8<L.length
 ·have e:zaN L=1:=by unfold zaN;rw[yb hm]
  rw[e];have Z:decide ((8:Int)<(L.length:Int))=true:=yG (by omega);clear hL e;generalize L.length=n at *
  go_enter Tryz.func30,Tryz.ntmps30
  go_wp2_with fail
  go_ret;exact⟨rfl,yk _ _⟩
 ·have e:zaN L=zog L 0:=by unfold zaN;rw[ya hm]
  rw[e];have D:Hid (∀ (k:Nat) (W:World),k<L.length->zaP W a L->yM 63 #[.slice a L.length c,.int .i64 k] W fun e w' => e=.returned (.int .i64 (frE L k))/\Below W.heap.size W w'):=fun k W hk hW=>zkc a c L k W (by omega) hk hW;have HL:Hid (zaP w a L):=hL;have Z:decide ((8:Int)<(L.length:Int))=false:=yF (by omega);have ST:Hid (∀ i,i<L.length->zog L i=if frE L i=0 then zog L (i+1) else frE L i):=fun i hi=>zsX hi;have EN:Hid (zog L L.length=0):=zvM (yj _);clear hL e;obtain⟨E,hE⟩:∃ E,zog L 0=E:=⟨_,rfl⟩;have HE:Hid (zog L 0=E):=hE;rw[hE];clear hE;obtain⟨n,hn⟩:∃ n,L.length=n:=⟨_,rfl⟩;have HN:Hid (L.length=n):=hn;rw[hn] at hN hm Z ST EN D |-;clear hn
  go_enter Tryz.func30,Tryz.ntmps30
  go_wp2_with fail
  go_loopg [10] n (fun g s10 wr=>∃ i:Nat,i<=n/\n-i<=g/\s10=.int .i64 i/\Hid (Below w.heap.size w wr)/\Hid (zog L i=E))
  case atStart=>exact⟨0,by omega,by omega,rfl,yk _ _,HE⟩
  case round =>
   obtain⟨i,hi,hg,rfl,F,T⟩:=hrel;clear HE;by_cases U:i<n
   ·have a6:(i:Int)<(n:Int):=(by omega);have M:Hid _:=(ST.out i U).symm.trans T.out;have Di:Hid _:=D.out i wr U (HL.out.below F.out);generalize frE L i=x at *;by_cases hx:x=0
    ·have I:Hid (zog L (i+1)=E):=(by have h:=M.out;rwa [yb hx] at h);subst hx;clear M
     go_wp2_with fail
     refine ye Di.out ?_;rintro e w1 ⟨rfl,J⟩;have O:Hid (Below w.heap.size w w1):=F.out.trans (J.mono F.out.size);clear J
     go_wp2_with fail
     go_roundg (n-(i+1))
     case measure=>omega
     case rel=>exact⟨i+1,by omega,by omega,by go_num,O,I⟩
    ·have I:Hid (x=E):=(by have h:=M.out;rwa [ya hx] at h);have a7:decide (x=0)=false:=yF hx;clear M
     go_wp2_with fail
     refine ye Di.out ?_;rintro e w1 ⟨rfl,J⟩;have O:Hid (Below w.heap.size w w1):=F.out.trans (J.mono F.out.size);clear J
     go_wp2_with fail
     go_ret;exact⟨by rw[I.out];rfl,O.out⟩
   ·have a5:i=n:=(by omega);subst a5;have I:Hid ((0:Int)=E):=EN.out.symm.trans T.out;clear T
    go_wp2_with fail
    go_ret;exact⟨by rw[I.out];rfl,F.out⟩
theorem zjh(a:Option Addr)(c n:Nat)(k:Int)(w:World)(E:n<=9223372036854775807) :
  yM 47 #[.slice a n c,.int .i64 k] w fun e w' => e=.returned (.bool (decide (0<=k/\k<n)))/\w' = w:=by
 have e:decide (0<=k/\k<n)=decide (0<=k/\k<=(n:Int)-1):=decide_eq_decide.2 (by omega);rw[e];have D:Hid _:=zcC k 0 ((n:Int)-1);clear e;generalize decide (0<=k/\k<=(n:Int)-1)=r at *
 go_enter Tryz.func47,Tryz.ntmps47
 go_wp2_with fail
 refine ye (D.out _) ?_;rintro e F ⟨rfl,rfl⟩
 go_wp2
 go_ret;exact⟨rfl,rfl⟩
theorem zcB(a:Option Addr)(c:Nat)(L:List Fr)(k:Int)(w:World)(J:L.length<=9223372036854775807)(F:zaP w a L) :
  yM 70 #[.slice a L.length c,.int .i64 k] w fun e w' => e=.returned (.int .i64 (zaz L k))/\w' = w:=by
 have D:Hid _:=zjh a c L.length k w J;unfold zaz;by_cases h1:0<=k/\k<L.length
 ·rw[yG h1] at D;rw[ya (yJ h1)];obtain⟨q,rfl⟩:=Int.eq_ofNat_of_zero_le h1.1;obtain⟨b,o,I,c0,c1,c2,c3,c4⟩:=F q (by omega);subst I;rw[yi];have M:(q:Int)<(L.length:Int):=by omega
  clear F h1;generalize fr L q=x at *;obtain⟨xp,Z,U,xt,T⟩:=x;dsimp only at c0 c1 c2 c3 c4;dsimp only;generalize L.length=n at *;cases T
  all_goals
   go_enter Tryz.func70,Tryz.ntmps70
   go_wp2_with fail
   refine ye D.out ?_;rintro e O ⟨rfl,E⟩;subst E
   go_wp2_with fail
   go_ret;exact⟨rfl,rfl⟩
 ·rw[yF h1] at D;rw[yb h1];clear F h1;generalize L.length=n at *
  go_enter Tryz.func70,Tryz.ntmps70
  go_wp2_with fail
  refine ye D.out ?_;rintro e O ⟨rfl,E⟩;subst E
  go_wp2_with fail
  go_ret;exact⟨rfl,rfl⟩
theorem zeD(a:Option Addr)(c:Nat)(L:List Fr)(k:Int)(w:World)(M:L.length<=9223372036854775807)(T:zaP w a L) :
  yM 156 #[.slice a L.length c,.int .i64 k] w fun e w' => e=.returned (.int .i64 (zcv L k))/\Below w.heap.size w w' := by
 have D:Hid _:=zdZ a c L w M T;have O:Hid (∀ W,zaP W a L->_):=fun W hW=>zcB a c L k W M hW;have HL:Hid (zaP w a L):=T;unfold zcv;clear T;generalize zaN L=E at *;generalize zaz L k=F at *;by_cases h:E=0
 ·rw[yb h];subst h;obtain⟨n,hn⟩:∃ n,L.length=n:=⟨_,rfl⟩;rw[hn] at M D O |-;clear hn
  go_enter Tryz.func156,Tryz.ntmps156
  go_wp2_with fail
  refine ye D.out ?_;rintro e Z ⟨rfl,I⟩;have J:Hid (Below w.heap.size w Z):=I;clear I
  go_wp2_with fail
  refine ye (O.out _ (HL.out.below J.out)) ?_;rintro e w2 ⟨rfl,U⟩;subst U
  go_wp2_with fail
  go_ret;exact⟨rfl,J.out⟩
 ·rw[ya h];have h2:decide (E=0)=false:=yF h;obtain⟨n,hn⟩:∃ n,L.length=n:=⟨_,rfl⟩;rw[hn] at M D O |-;clear hn
  go_enter Tryz.func156,Tryz.ntmps156
  go_wp2_with fail
  refine ye D.out ?_;rintro e Z ⟨rfl,I⟩;have J:Hid (Below w.heap.size w Z):=I;clear I
  go_wp2_with fail
  go_ret;exact⟨rfl,J.out⟩
theorem zgp(a:Option Addr)(c:Nat)(L:List Fr)(k top:Int)(w:World)(hN:L.length<=9223372036854775807)(hL:zaP w a L) :
  yM 16 #[.slice a L.length c,.int .i64 k,.int .i64 top] w fun e w' => e=.returned (.bool (inF L k top))/\w' = w:=by
 unfold inF;have D:Hid (∀ k W,_):=fun k W=>zjh a c L.length k W hN;have HL:Hid (zaP w a L):=hL;have ST:Hid (∀ n k,zcW L (n+1) k top=if 0<=k/\k<L.length then (if k=top then true else zcW L n (fr L k.toNat).p top) else false):=fun n k=>by rw[zcW]
 have EN:Hid (∀ k,zcW L 0 k top=false):=fun k=>rfl;clear hL;obtain⟨E,hE⟩:∃ E,zcW L L.length k top=E:=⟨_,rfl⟩;have Z:Hid (zcW L L.length k top=E):=hE;rw[hE];clear hE;obtain⟨n,hn⟩:∃ n,L.length=n:=⟨_,rfl⟩;have HN:Hid (L.length=n):=hn;rw[hn] at hN ST D Z |-;clear hn
 go_enter Tryz.func16,Tryz.ntmps16
 go_wp2_with fail
 go_loopg [7,11] n (fun g s7 s11 wr=>∃ (i:Nat) (k:Int),i<=n/\n-i<=g/\s11=.int .i64 i/\s7=.int .i64 k/\wr=w/\Hid (zcW L (n-i) k top=E))
 case atStart=>exact⟨0,k,by omega,by omega,rfl,rfl,rfl,Z⟩
 case round =>
  obtain⟨i,k,hi,hg,rfl,rfl,a6,T⟩:=hrel;subst a6;clear Z;by_cases a8:i<n
  ·have a7:(i:Int)<(n:Int):=(by omega);have O:=D.out k wr;have I:Hid _:=(ST.out (n-(i+1)) k).symm.trans ((by rw[show n-(i+1)+1=n-i by omega]:zcW L (n-(i+1)+1) k top=zcW L (n-i) k top).trans T.out);by_cases M:0<=k/\k<n
   ·rw[yG M] at O;have U:Hid _:=O;obtain⟨q,rfl⟩:=Int.eq_ofNat_of_zero_le M.1;have a9:(q:Int)<(n:Int):=(by omega);obtain⟨b,o,ea,c0,c1,c2,c3,c4⟩:=HL.out q (by rw[HN.out];omega);subst ea;have h:=I.out;rw[yb M,yi] at h;generalize fr L q=x at *;obtain⟨xp,xo,xm,xt,xg⟩:=x;dsimp only at c0 c1 c2 c3 c4 h;by_cases e:(q:Int)=top
    ·rw[yb e] at h;have F:Hid (true=E):=h;subst e;clear I h O M
     go_wp2_with fail
     refine ye U.out ?_;rintro e w1 ⟨rfl,J⟩;subst J
     go_wp2_with fail
     go_ret;exact⟨by rw[F.out];rfl,rfl⟩
    ·rw[ya e] at h;have F:Hid _:=h;have e2:decide ((q:Int)=top)=false:=yF e;have e3:((q:Int) == top)=false:=(by simp[e]);clear I h O M
     go_wp2_with fail
     refine ye U.out ?_;rintro e w1 ⟨rfl,J⟩;subst J
     go_wp2_with fail
     go_roundg (n-(i+1))
     case measure=>omega
     case rel=>exact⟨i+1,xp,by omega,by omega,by go_num,rfl,rfl,F⟩
   ·rw[yF M] at O;have U:Hid _:=O;have F:Hid (false=E):=(by have h:=I.out;rwa [ya M] at h);clear I M O
    go_wp2_with fail
    refine ye U.out ?_;rintro e w1 ⟨rfl,J⟩;subst J
    go_wp2_with fail
    go_ret;exact⟨by rw[F.out];rfl,rfl⟩
  ·have a5:i=n:=(by omega);subst a5;have F:Hid (false=E):=(by have h:=T.out;rw[Nat.sub_self] at h;exact(EN.out k).symm.trans h);clear T
   go_wp2_with fail
   go_ret;exact⟨by rw[F.out];rfl,rfl⟩
theorem zjg:(Tryz.prog.info? 65).map (fun i=>(i.zero,i.size,i.bytes))=some (some (.agg #[.int .i64 0,.int .i64 0,.int .i64 0,.int .i64 0,.bool false]),5,40):=by kernel_rfl
def zex:Array Value:=#[.int .i64 0,.int .i64 0,.int .i64 0,.int .i64 0,.bool false]
theorem zkP(n:Nat)(hn:n<=24)(w:World):(Instr.makeSlice 22 (.int .i64 (n:Int)) (.int .i64 (n:Int))).run Tryz.prog w=.ok (.slice (some ⟨w.heap.size,0,none⟩) n n) (w.alloc (.cells (madeCells zex (n*5)) 65)):=by
 obtain⟨i,hi,D,E,F⟩:=info_parts zjg;have h:=run_make (P:=Tryz.prog) w 22 65 i _ Tryz.underlying22 hi D .i64 .i64 n n (by omega) (by omega) (by rw[F];omega) (by omega);rw[E] at h;simp only[yi] at h;exact h
def zya(x:Fr):Nat->Value
 | 0=>.int .i64 x.p
 | 1=>.int .i64 x.o
 | 2=>.int .i64 x.m
 | 3=>.int .i64 x.t
 | _=>.bool x.g
def frF(L:List Fr)(m:Nat):Value:=zya (fr L (m / 5)) (m % 5)
theorem zdu(L:List Fr)(i j:Nat)(D:j<5):frF L (i*5+j)=zya (fr L i) j:=by
 unfold frF;rw[show (i*5+j) % 5=j by omega,show (i*5+j) / 5=i by omega]
theorem zgT{L M:List Fr}{m:Nat}(h:fr L (m / 5)=fr M (m / 5)):frF L m=frF M m:=by
 unfold frF;rw[h]
theorem zyt(L:List Fr)(m:Nat):(frF L m).oneCell' = true:=by
 unfold frF zya
 split <;> rfl
theorem row_of{w:World}{g t:Nat}{X:List Value}(h:w.heap[g]?=some (.cells X.toArray t (0,0))):w.rowIs g t X.length (fun i=>X.getD i (.bool false)) :=
 ⟨X.toArray,h,by simp,fun i hi=>by simp[hi]⟩
theorem zhC{w:World}{g N:Nat}{F:Nat->Value}{L:List Fr}(h:w.rowIs g 65 N F)(hl:L.length*5<=N)(D:∀ m,m<L.length*5->F m=frF L m):zaP w (some ⟨g,0,none⟩) L:=fun i hi=>by
 have hc:∀ j,j<5->w.cell? ⟨g,0+i*5+j,none⟩=some (frF L (i*5+j)):=fun j E=>by
  rw[yB,h.cell (by omega),D _ (by omega)]
 refine⟨g,0,rfl,?_,?_,?_,?_,?_⟩
 ·have:=hc 0 (by omega);rwa [zdu L i 0 (by omega)] at this
 ·have:=hc 1 (by omega);rwa [zdu L i 1 (by omega)] at this
 ·have:=hc 2 (by omega);rwa [zdu L i 2 (by omega)] at this
 ·have:=hc 3 (by omega);rwa [zdu L i 3 (by omega)] at this
 ·have:=hc 4 (by omega);rwa [zdu L i 4 (by omega)] at this
def zbw(L:List Fr):List Value:=(List.range (L.length*5)).map (frF L)
theorem zdY(L:List Fr):(zbw L).length=L.length*5:=by unfold zbw;simp
theorem zhz(L:List Fr):∀ v ∈ zbw L,v.oneCell' = true:=fun v D=>by
 unfold zbw at D;obtain⟨m,_,rfl⟩:=List.mem_map.1 D;exact zyt L m
theorem zaP.src{w:World}{b o:Nat}{L:List Fr}(h:zaP w (some ⟨b,o,none⟩) L):∀ j v,(zbw L)[j]?=some v->w.cell? ((⟨b,o,none⟩:Addr).add j)=some v:=fun j v E=>by
 unfold zbw at E;rw[List.getElem?_map] at E
 have F:j<L.length*5:=by
  rcases Nat.lt_or_ge j (L.length*5) with h|h
  ·exact h
  ·rw[List.getElem?_eq_none (by simpa using h)] at E;cases E
 rw[List.getElem?_range F] at E;have I:frF L j=v:=by simpa using E
 rw[Addr.add_lit,<- I];obtain⟨J,M,e,c0,c1,c2,c3,c4⟩:=h (j / 5) (by omega);cases e;have hs:j % 5=0\/j % 5=1\/j % 5=2\/j % 5=3\/j % 5=4:=by omega
 rcases hs with e|e|e|e|e
 ·have D:j=j / 5*5+0:=by omega
  rw[D,zdu L (j / 5) 0 (by omega),<- D,show o+j=o+j / 5*5 by omega];exact c0
 ·have D:j=j / 5*5+1:=by omega
  rw[D,zdu L (j / 5) 1 (by omega),<- D,show o+j=o+j / 5*5+1 by omega];exact c1
 ·have D:j=j / 5*5+2:=by omega
  rw[D,zdu L (j / 5) 2 (by omega),<- D,show o+j=o+j / 5*5+2 by omega];exact c2
 ·have D:j=j / 5*5+3:=by omega
  rw[D,zdu L (j / 5) 3 (by omega),<- D,show o+j=o+j / 5*5+3 by omega];exact c3
 ·have D:j=j / 5*5+4:=by omega
  rw[D,zdu L (j / 5) 4 (by omega),<- D,show o+j=o+j / 5*5+4 by omega];exact c4
theorem zkC{w:World}{g N:Nat}{L:List Fr}(hg:w.heap[g]?=some (.cells (zbw L++(madeCells zex N).toList.drop (zbw L).length).toArray 65 (0,0)))(hl:L.length*5<=N):∃ F,w.rowIs g 65 N F/\∀ m,m<L.length*5->F m=frF L m:=by
 have h:=row_of hg
 have hs:(zbw L++(madeCells zex N).toList.drop (zbw L).length).length=N:=by
  simp[zdY,size_madeCells];omega
 rw[hs] at h;refine⟨_,h,fun m E=>?_⟩;have D:m<(zbw L).length:=by rw[zdY];exact E
 have e:(zbw L)[m]?=some (frF L m):=by
  unfold zbw;rw[List.getElem?_map,List.getElem?_range E];rfl
 rw[List.getD_eq_getElem?_getD,List.getElem?_append_left D,e];rfl
theorem zrg(a:Option Addr)(c:Nat)(L:List Fr)(k:Int)(w:World)(O:L.length<=9223372036854775807)(J:zaP w a L)(M:zcv L k≠0) :
  yM 138 #[.slice a L.length c,.int .i64 k] w fun e w' => e=.returned (.tuple #[.int .i64 0,.int .i64 (zcv L k)])/\Below w.heap.size w w' := by
 have D:Hid _:=zeD a c L k w O J;have U:decide (zcv L k=0)=false:=yF M;clear J;generalize zcv L k=E at *;generalize L.length=n at *
 go_enter Tryz.func138,Tryz.ntmps138
 go_wp2_with fail
 refine ye D.out ?_;rintro e T ⟨rfl,F⟩;have I:Hid (Below w.heap.size w T):=F;clear F
 go_wp2_with fail
 exact yw (v:=.tuple #[.int .i64 0,.int .i64 E]) (by simp[results,Tryz.results138,go_sem]) rfl ⟨rfl,I.out⟩
theorem ztB(a:Option Addr)(c:Nat)(L:List Fr)(k:Int)(w:World)(hN:L.length<=8)(hL:zaP w a L)(hE:zcv L k=0) :
  yM 138 #[.slice a L.length c,.int .i64 k] w fun e w' => e=.returned (.tuple #[.int .i64 (zkn L k:Nat),.int .i64 0])/\Below w.heap.size w w' := by
 have d:=zeD a c L k w (by omega) hL;rw[hE] at d;have D:Hid _:=d;have HL:Hid (zaP w a L):=hL;have ST:Hid (∀ j,j<L.length->zkn (L.take (j+1)) k=zkn (L.take j) k+(if (fr L j).p=k/\(fr L j).g=false then 1 else 0)):=fun j hj=>zwv k hj;have EN:Hid (zkn (L.take L.length) k=zkn L k):=(by rw[List.take_length]:zkn (L.take L.length) k=zkn L k);have Z:Hid (zkn (L.take 0) k=0):=rfl;clear hL hE d;obtain⟨r,hr⟩:∃ r,zkn L k=r:=⟨_,rfl⟩;rw[hr] at EN |-;clear hr;obtain⟨n,hn⟩:∃ n,L.length=n:=⟨_,rfl⟩;have HN:Hid (L.length=n):=hn;rw[hn] at hN ST EN D |-;clear hn
 go_enter Tryz.func138,Tryz.ntmps138
 go_wp2_with fail
 refine ye D.out ?_;rintro e w1 ⟨rfl,T⟩;have O:Hid (Below w.heap.size w w1):=T;clear T
 go_wp2_with fail
 go_loopg [7,18] n (fun g s7 s18 wr=>∃ (i q:Nat),i<=n/\n-i<=g/\s18=.int .i64 i/\s7=.int .i64 q/\q<=i/\Hid (Below w.heap.size w wr)/\Hid (zkn (L.take i) k=q))
 case atStart=>exact⟨0,0,by omega,by omega,rfl,rfl,by omega,O,Z⟩
 case round =>
  obtain⟨i,q,hi,hg,rfl,rfl,hq,I,M⟩:=hrel;clear O;by_cases U:i<n
  ·have a6:(i:Int)<(n:Int):=(by omega);obtain⟨b,o,ea,c0,c1,c2,c3,c4⟩:=(HL.out.below I.out) i (by rw[HN.out];exact U);subst ea;have E:=ST.out i U;rw[M.out] at E;have q0:=yd _ _ c0;have J:Hid (∀ o1,Below w.heap.size w (wr.alloc o1)):=fun o1=>I.out.trans ((zaa wr o1).mono I.out.size);generalize fr L i=x at *;obtain⟨xp,xo,xm,xt,xg⟩:=x;dsimp only at c0 c1 c2 c3 c4 E;by_cases hp:xp=k
   ·subst hp;cases xg
    ·have F:Hid (zkn (L.take (i+1)) xp=q+1):=(by rw[yb ⟨rfl,rfl⟩] at E;exact E);clear E
     go_wp2_with fail
     go_roundg (n-(i+1))
     case measure=>omega
     case rel=>exact⟨i+1,q+1,by omega,by omega,by go_num,by go_num,by omega,J.out _,F⟩
    ·have F:Hid (zkn (L.take (i+1)) xp=q):=(by rw[ya (by simp)] at E;exact E);clear E
     go_wp2_with fail
     go_roundg (n-(i+1))
     case measure=>omega
     case rel=>exact⟨i+1,q,by omega,by omega,by go_num,rfl,by omega,J.out _,F⟩
   ·have F:Hid (zkn (L.take (i+1)) k=q):=(by rw[ya (fun hh=>hp hh.1)] at E;exact E);have a7:decide (xp=k)=false:=yF hp;have a8:(xp == k)=false:=(by simp[hp]);clear E
    go_wp2_with fail
    go_roundg (n-(i+1))
    case measure=>omega
    case rel=>exact⟨i+1,q,by omega,by omega,by go_num,rfl,by omega,J.out _,F⟩
  ·have a5:i=n:=(by omega);subst a5;have F:Hid (q=r):=M.out.symm.trans EN.out;clear M
   go_wp2_with fail
   exact yw (v:=.tuple #[.int .i64 (q:Int),.int .i64 0]) (by simp[results,Tryz.results138,go_sem]) rfl ⟨by rw[F.out],I.out⟩
theorem zez{w D:World}{a:Option Addr}{n c:Nat}{p u:Int}(E:Below (w.heap.size+1+1+1+1) ((((w.alloc (.cells #[.slice a n c] 43)).alloc (.cells #[.int .i64 p,.int .i64 u] 61)).alloc (.cells #[.slice none 0 0] 43)).alloc (.cells #[.int .i64 0,.int .i64 0] 61)) D) :
  D.cell? ⟨w.heap.size,0,none⟩=some (.slice a n c)/\D.cell? ⟨w.heap.size+1,0,none⟩=some (.int .i64 p)/\D.cell? ⟨w.heap.size+1,1,none⟩=some (.int .i64 u)/\D.cell? ⟨w.heap.size+1+1,0,none⟩=some (.slice none 0 0)/\D.cell? ⟨w.heap.size+1+1+1,0,none⟩=some (.int .i64 0)/\D.cell? ⟨w.heap.size+1+1+1,1,none⟩=some (.int .i64 0)/\(∀ o,D.frozen? ⟨w.heap.size+1+1,o,none⟩=false)/\(∀ o,D.frozen? ⟨w.heap.size+1+1+1,o,none⟩=false):=by
 refine⟨?_,?_,?_,?_,?_,?_,fun o=>?_,fun o=>?_⟩
 all_goals first|exact(E.cell (by first|(simp;done)|(simp;omega))).trans (by go_simp)|exact(E.frozen (by first|(simp;done)|(simp;omega))).trans (by go_simp)
theorem zst(a:Option Addr)(c:Nat)(S:List Nd)(k f:Nat)(u:Int)(cl:Bool)(w:World)(wf:WF S)(hS:zai w a S)(hk:k<S.length)(hE:zaG S k u=0)(hH:zfp S k=false)(hf:f<S.length)(b2:zcr (nd S f)=true)(T:∀ i,i<f->zcr (nd S i)=false) :
  yM 193 #[.agg #[.slice a S.length c],.agg #[.int .i64 (k:Int),.int .i64 u],.bool cl] w fun e w' => ∃ g,e=.returned (.tuple #[.agg #[.slice (some ⟨g,0,none⟩) S.length S.length],.agg #[.int .i64 (f:Int),.int .i64 ((nd S f).n+1)],.int .i64 0])/\Below w.heap.size w w' /\ w.heap.size<=g/\znG w' g (S.set f (zbP (nd S f) k cl)):=by
 have hN:=wf.small;have D0:Hid (∀ W,zai W a S->Calls _ _ _ _ _):=fun W hW=>find_ok a c S k u W (by omega) wf.big hW hk hE (by have:=wf.kids_small hk;omega);have d1:=fun W hW=>zee a c S (k:Int) W (by omega) hW (by omega);rw[hH] at d1;have D1:Hid _:=d1;have D2:Hid (∀ W,zai W a S->Calls _ _ _ _ _):=fun W hW=>zpJ a c S 0 W hN (fun i hi=>by have:=wf.kids_small hi;omega) hW ((zfC _).2 wf) (by omega) (by omega) f hf b2 (wf.uses hf).1 T;have HS:Hid (zai w a S):=hS
 have RT:Hid (∀ W g,znG W g (S.set f (zbO (nd S f) 0))->znG ((W.setCell ⟨g,f*8+6,none⟩ (.int .i64 (k:Int))).setCell ⟨g,f*8+7,none⟩ (.bool cl)) g (S.set f (zbP (nd S f) k cl))):=fun W g h=>by
  have h2:=h.root (k:=f) (by simpa using hf) (k:Int) cl;rw[zcP S f f _ hf,yb rfl,List.set_set] at h2;exact h2
 have RC:Hid (∀ W g,znG W g (S.set f (zbO (nd S f) 0))->g<W.heap.size/\(∀ o,W.frozen? ⟨g,o,none⟩=false)/\(∃ v6 v7,W.cell? ⟨g,f*8+6,none⟩=some v6/\W.cell? ⟨g,f*8+7,none⟩=some v7)):=fun W g ⟨F,hF,_⟩=>by
  rw[List.length_set] at hF;exact⟨hF.lt,hF.frozen,_,_,hF.cell (by omega),hF.cell (by omega)⟩
 have b8:(f:Int)<(S.length:Int):=by omega
 have b9:decide ((f:Int)<0)=false:=yF (by omega);clear hS wf hE hH b2 T d1;obtain⟨x0,b3⟩:∃ x,nd S k=x:=⟨_,rfl⟩;rw[b3] at D0;clear b3;obtain⟨S1,b0⟩:∃ S1,S.set f (zbO (nd S f) 0)=S1:=⟨_,rfl⟩;obtain⟨S2,b1⟩:∃ S2,S.set f (zbP (nd S f) k cl)=S2:=⟨_,rfl⟩;rw[b0] at D2 RT RC;rw[b1] at RT |-;clear b0 b1;generalize (nd S f).n=nf at *;generalize S.length=n at *
 go_enter Tryz.func193,Tryz.ntmps193
 go_wp2_with fail
 refine ye (D0.out _ (HS.out.below (zaH _ _ _ _ _))) ?_;rintro e w2 ⟨fg,rfl,J,_⟩;simp only[yr] at J;have a7:Hid (Below (w.heap.size+1+1+1+1) ((((w.alloc (.cells #[.slice a n c] 43)).alloc (.cells #[.int .i64 (k:Int),.int .i64 u] 61)).alloc (.cells #[.slice none 0 0] 43)).alloc (.cells #[.int .i64 0,.int .i64 0] 61)) w2):=J;have b6:=J.size;simp only[yr] at b6;obtain⟨l0,l1,l2,l3,l4,l5,l6,l7⟩:=zez J;have BW:Hid (∀ W,Below (w.heap.size+1+1+1+1) ((((w.alloc (.cells #[.slice a n c] 43)).alloc (.cells #[.int .i64 (k:Int),.int .i64 u] 61)).alloc (.cells #[.slice none 0 0] 43)).alloc (.cells #[.int .i64 0,.int .i64 0] 61)) W->Below w.heap.size w W):=fun W h=>(zaH _ _ _ _ _).trans (h.mono (by omega));clear J;have q0:w.heap.size<w2.heap.size:=by omega
 have q1:w.heap.size+1<w2.heap.size:=by omega
 go_wp2_with fail
 refine ye (D1.out _ (HS.out.below (BW.out _ (a7.out.alloc (by omega) _)))) ?_;rintro e w3 ⟨rfl,M⟩;simp only[yr] at M;have U:Hid (Below (w.heap.size+1+1+1+1) ((((w.alloc (.cells #[.slice a n c] 43)).alloc (.cells #[.int .i64 (k:Int),.int .i64 u] 61)).alloc (.cells #[.slice none 0 0] 43)).alloc (.cells #[.int .i64 0,.int .i64 0] 61)) w3):=(a7.out.alloc (by omega) _).trans (M.mono (by omega));have b7:=M.size;simp only[yr] at b7;clear M l0 l1 l2 l3 l4 l5 l6 l7;obtain⟨l0,l1,l2,l3,l4,l5,l6,l7⟩:=zez U.out
 go_wp2_with fail
 refine ye (D2.out _ (HS.out.below (BW.out _ U.out))) ?_;rintro e I ⟨g,rfl,a6,c6,a5⟩;have Z:Hid (Below (w.heap.size+1+1+1+1) ((((w.alloc (.cells #[.slice a n c] 43)).alloc (.cells #[.int .i64 (k:Int),.int .i64 u] 61)).alloc (.cells #[.slice none 0 0] 43)).alloc (.cells #[.int .i64 0,.int .i64 0] 61)) I):=U.out.trans (a6.mono (by omega));have c8:=a6.size;clear a6 l0 l1 l2 l3 l4 l5 l6 l7;obtain⟨l0,l1,l2,l3,l4,l5,l6,l7⟩:=zez Z.out;obtain⟨c7,b5,v6,v7,d6,d7⟩:=RC.out _ _ a5;have a9:Hid (znG I g S1):=a5;have e1:¬ g=w.heap.size+1:=by omega
 have e2:¬ w.heap.size+1=g:=by omega
 have e3:¬ g=w.heap.size+1+1:=by omega
 have e4:¬ w.heap.size+1+1=g:=by omega
 have e5:¬ g=w.heap.size+1+1+1:=by omega
 have e6:¬ w.heap.size+1+1+1=g:=by omega
 have q2:w.heap.size+1<I.heap.size:=by omega
 have q3:w.heap.size+1+1<I.heap.size:=by omega
 have q4:w.heap.size+1+1+1<I.heap.size:=by omega
 have q5:w.heap.size<I.heap.size:=by omega
 clear a5 D0 D1 D2
 go_wp2_with fail
 first
  |(obtain⟨E,D⟩:∃ E,E=((((I.setCell ⟨g,f*8+6,none⟩ (.int .i64 (k:Int))).setCell ⟨g,f*8+7,none⟩ (.bool cl)).alloc (.cells #[.slice (some ⟨g,0,none⟩) n n] 43)).alloc (.cells #[.int .i64 (f:Int),.int .i64 (nf+1)] 61)):=⟨_,rfl⟩;rw[<- D])
  |(obtain⟨E,D⟩:∃ E,E=((((I.alloc (.cells #[.slice (some ⟨g,0,none⟩) n n] 43)).alloc (.cells #[.int .i64 (f:Int),.int .i64 (nf+1)] 61)).setCell ⟨g,f*8+6,none⟩ (.int .i64 (k:Int))).setCell ⟨g,f*8+7,none⟩ (.bool cl)):=⟨_,rfl⟩;rw[<- D])
 have b4:Hid (znG E g S2):=by
  rw[D]
  first
   | exact(RT.out I g a9.out).up (fun b _ O=>(((yk _ _).alloc (yj _) _).alloc (by simp) _).block b O)
   | exact RT.out _ g (a9.out.up (fun b _ O=>(((yk _ _).alloc (yj _) _).alloc (by simp) _).block b O))
 have c9:E.heap.size=I.heap.size+1+1:=by rw[D];simp
 have a8:Hid (Below w.heap.size w E):=by
  rw[D]
  first
   | exact((((BW.out _ Z.out).setCell (by simp;omega) _).setCell (by simp;omega) _).alloc (by simp;omega) _).alloc (by simp;omega) _
   | exact((((BW.out _ Z.out).alloc (by omega) _).alloc (by simp;omega) _).setCell (by simp;omega) _).setCell (by simp;omega) _
 have y0:E.cell? ⟨I.heap.size,0,none⟩=some (.slice (some ⟨g,0,none⟩) n n):=by rw[D];go_simp
 have y1:E.cell? ⟨I.heap.size+1,0,none⟩=some (.int .i64 (f:Int)):=by rw[D];go_simp
 have y2:E.cell? ⟨I.heap.size+1,1,none⟩=some (.int .i64 (nf+1)):=by rw[D];go_simp
 have y3:E.cell? ⟨w.heap.size+1+1,0,none⟩=some (.slice none 0 0):=by rw[D];go_simp
 have y4:E.cell? ⟨w.heap.size+1+1+1,0,none⟩=some (.int .i64 0):=by rw[D];go_simp
 have y5:E.cell? ⟨w.heap.size+1+1+1,1,none⟩=some (.int .i64 0):=by rw[D];go_simp
 have y6:∀ o,E.frozen? ⟨w.heap.size+1+1,o,none⟩=false:=fun o=>by rw[D];go_simp
 have y7:∀ o,E.frozen? ⟨w.heap.size+1+1+1,o,none⟩=false:=fun o=>by rw[D];go_simp
 have z1:I.heap.size<E.heap.size:=by omega
 have z2:I.heap.size+1<E.heap.size:=by omega
 have z3:w.heap.size+1+1<E.heap.size:=by omega
 have z4:w.heap.size+1+1+1<E.heap.size:=by omega
 have z5:¬ I.heap.size=w.heap.size+1+1:=by omega
 have z6:¬ I.heap.size+1=w.heap.size+1+1:=by omega
 have z7:¬ I.heap.size=w.heap.size+1+1+1:=by omega
 have z8:¬ I.heap.size+1=w.heap.size+1+1+1:=by omega
 clear D l0 l1 l2 l3 l4 l5 l6 l7 d6 d7 b5
 go_region
 all_goals (try go_wp2)
 all_goals
  refine yw (v:=.tuple #[.agg #[.slice (some ⟨g,0,none⟩) n n],.agg #[.int .i64 (f:Int),.int .i64 (nf+1)],.int .i64 0]) (by simp[results,Tryz.results193,go_sem,y3,y4,y5]) rfl ⟨g,rfl,?_,by omega,?_⟩
  ·first
    | exact(((a8.out.setCell (by simp;omega) _).setCell (by simp;omega) _).setCell (by simp;omega) _).drew
    | exact((a8.out.setCell (by simp;omega) _).setCell (by simp;omega) _).setCell (by simp;omega) _
  ·refine b4.out.up (fun b hb O=>?_)
   first
    | rw[heap_drew,yv _ _ _ _ (by show b≠w.heap.size+1+1+1;omega),yv _ _ _ _ (by show b≠w.heap.size+1+1+1;omega),yv _ _ _ _ (by show b≠w.heap.size+1+1;omega)]
    | rw[yv _ _ _ _ (by show b≠w.heap.size+1+1+1;omega),yv _ _ _ _ (by show b≠w.heap.size+1+1+1;omega),yv _ _ _ _ (by show b≠w.heap.size+1+1;omega)]
end Go.Proofs.YtcbcpomacdngmaaGreat
