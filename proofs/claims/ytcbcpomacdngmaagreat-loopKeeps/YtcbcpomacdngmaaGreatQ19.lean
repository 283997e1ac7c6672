/-
  x
-/
import Derived.Test.YtcbcpomacdngmaaGreatQ18
import Derived.Maps.OwnSet
import Derived.Maps.OwnOps
import Derived.Maps.Views
namespace Go.Proofs.YtcbcpomacdngmaaGreat
set_option maxRecDepth 100000
set_option maxHeartbeats 4000000
set_option linter.unusedVariables false
open Go.ChangeShapes Go.WideShapes Go.RowKit
def zBD(v:Value):Option (DataW Value × List MemPlace):=some (.held v,[])
def zcB(P:Program)(E:TypeId)(w:World)(b n:Nat)(f:Lit->Option Value):Prop :=
 ∃ D:DataW Value,w.ownsMap P E zBD b n D/\Maps.IsMap D/\∀ kl,WideAt.IsKeyLit kl->Maps.has D kl=(f kl).isSome/\∀ v,f kl=some v->∀ z,D.atKey kl z=.held v
theorem zcB.made(P:Program)(D:TypeId)(w:World):zcB P D (w.alloc (.map #[] 0)) w.heap.size 0 (fun _=>none) :=
 ⟨.map [],World.ownsMap_made w _ _ _,Maps.isMap_empty,fun _ _=>⟨rfl,fun _ h=>by cases h⟩⟩
theorem zcB.lt{P:Program}{D:TypeId}{w:World}{b n:Nat}{f:Lit->Option Value}(h:zcB P D w b n f):b<w.heap.size:=let ⟨_,h1,_⟩:=h;h1.lt
theorem zcB.kept{P:Program}{E:TypeId}{w w' : World}{b n:Nat}{f:Lit->Option Value}(h:zcB P E w b n f)(e:w'.heap[b]?=w.heap[b]?):zcB P E w' b n f:=by
 obtain⟨D,⟨I,clock,O,F,hs,M⟩,J⟩:=h;exact⟨D,⟨I,clock,e.trans O,F,hs,M⟩,J⟩
theorem zcB.mono{P:Program}{E:TypeId}{w:World}{b n F:Nat}{f:Lit->Option Value}(h:zcB P E w b n f)(hn:n<=F):zcB P E w b F f:=let ⟨D,h1,h2⟩:=h;⟨D,h1.mono hn,h2⟩
theorem zcB.ne{P:Program}{J:TypeId}{w:World}{b n E t:Nat}{f:Lit->Option Value}{M:Array Value}{z:Nat × Nat}(h:zcB P J w b n f)(e:w.heap[E]?=some (.cells M t z)):E≠b:=by
 obtain⟨D,⟨O,clock,F,_⟩,_⟩:=h;intro I;subst I;rw[e] at F;cases F
theorem zcB.congr{P:Program}{F:TypeId}{w:World}{b n:Nat}{f g:Lit->Option Value}(h:zcB P F w b n f)(e:∀ kl,WideAt.IsKeyLit kl->f kl=g kl):zcB P F w b n g:=by
 obtain⟨D,h1,I,J⟩:=h;exact⟨D,h1,I,fun kl E=>by rw[<- e kl E];exact J kl E⟩
theorem zcB.look_ok{P:Program}{J:TypeId}{w:World}{b n:Nat}{f:Lit->Option Value}(h:zcB P J w b n f)(K:Maps.Keyed P J){t e:TypeId}(Z:P.underlying t=some (.map J e)){z:Value}(hz:(zeroValue e).run P w=.ok z w)
  {key:Value} {kl:Lit} (F:keyOf P J key=some kl) (U:WideAt.IsKeyLit kl) :
  (Instr.lookup t (.map (some b)) key true).run P w=.ok (.tuple #[(f kl).getD z,.bool (f kl).isSome]) w:=by
 obtain⟨D,h1,_,T⟩:=h;obtain⟨v,ps,I,O⟩:=h1.look_ok K Z hz (zd:=.held z) (zp:=[]) rfl F;rw[I];obtain⟨M,h5⟩:=T kl U;have E:DataW.held v=D.atKey kl (.held z):=by unfold zBD at O;simp at O;exact O.1
 rw[M]
 cases hf:f kl with
 | none =>
  rw[hf] at M;rw[Maps.atKey_of_not_has M] at E;cases E;rfl
 | some y =>
  rw[h5 y hf] at E;cases E;rfl
theorem zcB.put{P:Program}{J:TypeId}{w:World}{b n:Nat}{f:Lit->Option Value}(h:zcB P J w b n f)(K:Maps.Keyed P J){t e:TypeId}(ht:P.underlying t=some (.map J e))(hn:n<maxLen)
  {key:Value} {kl:Lit} (F:keyOf P J key=some kl) (hk:WideAt.IsKeyLit kl) (v:Value) :
  ∃ w',(Instr.mapUpdate t (.map (some b)) key v).run P w=.ok () w' /\(∀ g:Lit->Option Value,g kl=some v->(∀ j,j≠kl->g j=f j)->zcB P J w' b (n+1) g)/\w.grownBy w' (some b):=by
 obtain⟨D,h1,O,Z⟩:=h;obtain⟨w', I,h4,h5⟩:=h1.update K ht hn F (val:=v) (d:=.held v) (ps:=[]) rfl;refine⟨w', I,fun g T U=>⟨_,h4,O.put _ _,fun j M=>?_⟩,h5⟩;by_cases e:j=kl
 ·subst e;rw[T];exact⟨Maps.has_put_same O M _,fun v' E z=>by cases E;exact Maps.atKey_put_same O M _ _⟩
 ·rw[U j e,Maps.has_put_other e];exact⟨(Z j M).1,fun v' E z=>by rw[Maps.atKey_put_other e];exact(Z j M).2 v' E z⟩
theorem zkk(a:Option Addr)(c:Nat)(L:List Fr)(k:Nat)(w:World)(hN:L.length<=8)(hk:k<L.length)(hL:zaS w a L) :
  Calls Tryz.prog 63 #[.slice a L.length c,.int .i64 k] w fun e w' => e=.returned (.int .i64 (frE L k))/\Below w.heap.size w w' := by
 have Z:Hid _:=zky (fr L k) k (by omega);have U:Hid _:=znb (fr L k);have HL:Hid (zaS w a L):=hL;have b1:(k:Int)<(L.length:Int):=by omega
 obtain⟨b,o,ea,c0,c1,c2,c3,c4⟩:=hL k hk;subst ea;clear hL;by_cases h1:zgO (fr L k) k
 ·rw[yG h1] at Z;by_cases T:zdU (fr L k)
  ·rw[yG T] at U;by_cases h0:0<k
   ·have hp:0<=(fr L k).p/\(fr L k).p<=(k:Int)-1:=by unfold zgO at h1;rwa [ya (by omega)] at h1
    obtain⟨q,hq⟩:=Int.eq_ofNat_of_zero_le hp.1;have a8:q<L.length:=by omega
    have DF:Hid _:=zmR (fr L k) (fr L q);obtain⟨b', o', ea,d0,d1,d2,d3,d4⟩:=HL.out q a8;cases ea
    have J:frE L k=if decide (zha (fr L k) (fr L q))=true then 0 else 3:=by
     unfold frE;rw[ya (yJ h1),ya (yJ T),hq,yj];by_cases h:zha (fr L k) (fr L q)
     ·rw[ya (fun hh=>hh.2 h),yd (yG h)]
     ·rw[yd ⟨h0,h⟩,ya (by rw[yF h];simp)]
    rw[J];rw[hq] at c0;have hw:((fr L k).p:Int)=(q:Int):=hq;generalize decide (zha (fr L k) (fr L q))=r at *;have b2:(q:Int)<(L.length:Int):=by omega
    have b0:decide ((0:Int)<(k:Int))=true:=yG (by omega);clear J hp HL h1 T;generalize fr L k=x at *;generalize fr L q=y at *;obtain⟨xp,xo,xm,xt,xg⟩:=x;obtain⟨yp,yo,ym,yt,yg⟩:=y;dsimp only at c0 c1 c2 c3 c4 d0 d1 d2 d3 d4 hw;have HW:Hid _:=hw;have a9:=hw;subst a9;clear hw hq HW;generalize L.length=n at *
    go_enter Tryz.func63,Tryz.ntmps63
    go_wp2_with fail
    refine yi (Z.out _) ?_;rintro e w1 ⟨rfl,F⟩;subst F
    go_wp2_with fail
    refine yi (U.out _) ?_;rintro e O ⟨rfl,D⟩;have I:Hid (Below w1.heap.size w1 O):=D;replace ⟨c0,c1,c2,c3,c4⟩:=zwH D c0 c1 c2 c3 c4;replace ⟨d0,d1,d2,d3,d4⟩:=zwH D d0 d1 d2 d3 d4;clear D
    go_wp2_with fail
    go_region_held3 (fun E=>E.cell? ⟨b,o+k*5,none⟩=some (.int .i64 (q:Int))/\E.cell? ⟨b,o+k*5+1,none⟩=some (.int .i64 xo)/\E.cell? ⟨b,o+k*5+2,none⟩=some (.int .i64 xm)/\E.cell? ⟨b,o+k*5+3,none⟩=some (.int .i64 xt)/\E.cell? ⟨b,o+k*5+4,none⟩=some (.bool xg)/\E.cell? ⟨b,o+q*5,none⟩=some (.int .i64 yp)/\E.cell? ⟨b,o+q*5+1,none⟩=some (.int .i64 yo)/\E.cell? ⟨b,o+q*5+2,none⟩=some (.int .i64 ym)/\E.cell? ⟨b,o+q*5+3,none⟩=some (.int .i64 yt)/\E.cell? ⟨b,o+q*5+4,none⟩=some (.bool yg)) (go_keep) (first|(go_at_call 96;refine yi (DF.out _) ?_;rintro e w3 ⟨rfl,a6⟩;have M:Below O.heap.size O w3:=(yr O.heap.size O).drew.trans a6;have a5:Hid (Below w1.heap.size w1 w3):=(I.out.trans (M.mono I.out.size));obtain⟨m0,m1,m2,m3,m4⟩:=zwH M c0 c1 c2 c3 c4;obtain⟨n0,n1,n2,n3,n4⟩:=zwH M d0 d1 d2 d3 d4;clear a6 M))
    all_goals
     cases r
     ·go_wp2_with fail
      go_ret;exact⟨rfl,a5.out⟩
     ·go_wp2_with fail
      go_ret;exact⟨rfl,a5.out⟩
   ·have a7:k=0:=by omega
    subst a7
    have J:frE L 0=0:=by
     unfold frE;rw[ya (yJ h1),ya (yJ T),ya (fun hh=>absurd hh.1 (by omega))]
    rw[J];clear J HL h1 T;generalize fr L 0=x at *;obtain⟨xp,xo,xm,xt,xg⟩:=x;simp only[Nat.zero_mul,Nat.add_zero] at c0 c1 c2 c3 c4;generalize L.length=n at *
    go_enter Tryz.func63,Tryz.ntmps63
    go_wp2_with fail
    refine yi (Z.out _) ?_;rintro e w1 ⟨rfl,F⟩;subst F
    go_wp2_with fail
    refine yi (U.out _) ?_;rintro e O ⟨rfl,D⟩;have I:Hid (Below w1.heap.size w1 O):=D;clear D
    go_wp2_with fail
    go_big_quiet (fail)
    go_wp2_with fail
    go_ret;exact⟨rfl,zbB I.out _⟩
  ·rw[yF T] at U
   have J:frE L k=2:=by
    unfold frE;rw[ya (yJ h1),yd T]
   rw[J];clear J HL h1 T;generalize fr L k=x at *;obtain⟨xp,xo,xm,xt,xg⟩:=x;dsimp only at c0 c1 c2 c3 c4;generalize L.length=n at *
   go_enter Tryz.func63,Tryz.ntmps63
   go_wp2_with fail
   refine yi (Z.out _) ?_;rintro e w1 ⟨rfl,F⟩;subst F
   go_wp2_with fail
   refine yi (U.out _) ?_;rintro e O ⟨rfl,D⟩;have I:Hid (Below w1.heap.size w1 O):=D;clear D
   go_wp2_with fail
   go_ret;exact⟨rfl,I.out⟩
 ·rw[yF h1] at Z
  have J:frE L k=4:=by
   unfold frE;rw[yd h1]
  rw[J];clear J HL h1 U;generalize fr L k=x at *;obtain⟨xp,xo,xm,xt,xg⟩:=x;dsimp only at c0 c1 c2 c3 c4;generalize L.length=n at *
  go_enter Tryz.func63,Tryz.ntmps63
  go_wp2_with fail
  refine yi (Z.out _) ?_;rintro e w1 ⟨rfl,F⟩;subst F
  go_wp2_with fail
  go_ret;exact⟨rfl,yr _ _⟩
theorem zef(a:Option Addr)(c:Nat)(L:List Fr)(w:World)(hN:L.length<=9223372036854775807)(hL:zaS w a L) :
  Calls Tryz.prog 30 #[.slice a L.length c] w fun e w' => e=.returned (.int .i64 (zaO L))/\Below w.heap.size w w' := by
 by_cases hm:8<L.length
 ·have e:zaO L=1:=by unfold zaO;rw[yd hm]
  rw[e];have Z:decide ((8:Int)<(L.length:Int))=true:=yG (by omega);clear hL e;generalize L.length=n at *
  go_enter Tryz.func30,Tryz.ntmps30
  go_wp2_with fail
  go_ret;exact⟨rfl,yr _ _⟩
 ·have e:zaO L=zoo L 0:=by unfold zaO;rw[ya hm]
  rw[e];have D:Hid (∀ (k:Nat) (W:World),k<L.length->zaS W a L->Calls Tryz.prog 63 #[.slice a L.length c,.int .i64 k] W fun e w' => e=.returned (.int .i64 (frE L k))/\Below W.heap.size W w'):=fun k W hk hW=>zkk a c L k W (by omega) hk hW;have HL:Hid (zaS w a L):=hL;have Z:decide ((8:Int)<(L.length:Int))=false:=yF (by omega);have ST:Hid (∀ i,i<L.length->zoo L i=if frE L i=0 then zoo L (i+1) else frE L i):=fun i hi=>zto hi;have EN:Hid (zoo L L.length=0):=zvX (yk _);clear hL e;obtain⟨E,hE⟩:∃ E,zoo L 0=E:=⟨_,rfl⟩;have HE:Hid (zoo L 0=E):=hE;rw[hE];clear hE;obtain⟨n,hn⟩:∃ n,L.length=n:=⟨_,rfl⟩;have HN:Hid (L.length=n):=hn;rw[hn] at hN hm Z ST EN D |-;clear hn
  go_enter Tryz.func30,Tryz.ntmps30
  go_wp2_with fail
  go_loopg [10] n (fun g s10 wr=>∃ i:Nat,i<=n/\n-i<=g/\s10=.int .i64 i/\Hid (Below w.heap.size w wr)/\Hid (zoo L i=E))
  case atStart=>exact⟨0,by omega,by omega,rfl,yr _ _,HE⟩
  case round =>
   obtain⟨i,hi,hg,rfl,F,T⟩:=hrel;clear HE;by_cases U:i<n
   ·have a6:(i:Int)<(n:Int):=by omega
    have M:Hid _:=(ST.out i U).symm.trans T.out;have Di:Hid _:=D.out i wr U (HL.out.below F.out);generalize frE L i=x at *;by_cases hx:x=0
    ·have I:Hid (zoo L (i+1)=E):=by have h:=M.out;rwa [yd hx] at h
     subst hx;clear M
     go_wp2_with fail
     refine yi Di.out ?_;rintro e w1 ⟨rfl,J⟩;have O:Hid (Below w.heap.size w w1):=F.out.trans (J.mono F.out.size);clear J
     go_wp2_with fail
     go_roundg (n-(i+1))
     case measure=>omega
     case rel=>exact⟨i+1,by omega,by omega,by go_num,O,I⟩
    ·have I:Hid (x=E):=by have h:=M.out;rwa [ya hx] at h
     have a7:decide (x=0)=false:=yF hx;clear M
     go_wp2_with fail
     refine yi Di.out ?_;rintro e w1 ⟨rfl,J⟩;have O:Hid (Below w.heap.size w w1):=F.out.trans (J.mono F.out.size);clear J
     go_wp2_with fail
     go_ret;exact⟨by rw[I.out];rfl,O.out⟩
   ·have a5:i=n:=by omega
    subst a5;have I:Hid ((0:Int)=E):=EN.out.symm.trans T.out;clear T
    go_wp2_with fail
    go_ret;exact⟨by rw[I.out];rfl,F.out⟩
theorem zjj(a:Option Addr)(c n:Nat)(k:Int)(w:World)(E:n<=9223372036854775807) :
  Calls Tryz.prog 47 #[.slice a n c,.int .i64 k] w fun e w' => e=.returned (.bool (decide (0<=k/\k<n)))/\w' = w:=by
 have e:decide (0<=k/\k<n)=decide (0<=k/\k<=(n:Int)-1):=decide_eq_decide.2 (by omega);rw[e];have D:Hid _:=zcH k 0 ((n:Int)-1);clear e;generalize decide (0<=k/\k<=(n:Int)-1)=r at *
 go_enter Tryz.func47,Tryz.ntmps47
 go_wp2_with fail
 refine yi (D.out _) ?_;rintro e w1 ⟨rfl,rfl⟩
 go_wp2
 go_ret;exact⟨rfl,rfl⟩
theorem zcF(a:Option Addr)(c:Nat)(L:List Fr)(k:Int)(w:World)(J:L.length<=9223372036854775807)(F:zaS w a L) :
  Calls Tryz.prog 70 #[.slice a L.length c,.int .i64 k] w fun e w' => e=.returned (.int .i64 (zax L k))/\w' = w:=by
 have D:Hid _:=zjj a c L.length k w J;unfold zax;by_cases h1:0<=k/\k<L.length
 ·rw[yG h1] at D;rw[ya (yJ h1)];obtain⟨q,rfl⟩:=Int.eq_ofNat_of_zero_le h1.1;obtain⟨b,o,I,c0,c1,c2,c3,c4⟩:=F q (by omega);subst I;rw[yj];have M:(q:Int)<(L.length:Int):=by omega
  clear F h1;generalize fr L q=x at *;obtain⟨Z,U,T,xt,O⟩:=x;dsimp only at c0 c1 c2 c3 c4;dsimp only;generalize L.length=n at *;cases O
  all_goals
   go_enter Tryz.func70,Tryz.ntmps70
   go_wp2_with fail
   refine yi D.out ?_;rintro e w1 ⟨rfl,E⟩;subst E
   go_wp2_with fail
   go_ret;exact⟨rfl,rfl⟩
 ·rw[yF h1] at D;rw[yd h1];clear F h1;generalize L.length=n at *
  go_enter Tryz.func70,Tryz.ntmps70
  go_wp2_with fail
  refine yi D.out ?_;rintro e w1 ⟨rfl,E⟩;subst E
  go_wp2_with fail
  go_ret;exact⟨rfl,rfl⟩
theorem zeI(a:Option Addr)(c:Nat)(L:List Fr)(k:Int)(w:World)(M:L.length<=9223372036854775807)(T:zaS w a L) :
  Calls Tryz.prog 156 #[.slice a L.length c,.int .i64 k] w fun e w' => e=.returned (.int .i64 (zcy L k))/\Below w.heap.size w w' := by
 have D:Hid _:=zef a c L w M T;have O:Hid (∀ W,zaS W a L->_):=fun W hW=>zcF a c L k W M hW;have Z:Hid (zaS w a L):=T;unfold zcy;clear T;generalize zaO L=E at *;generalize zax L k=F at *;by_cases h:E=0
 ·rw[yd h];subst h;obtain⟨n,hn⟩:∃ n,L.length=n:=⟨_,rfl⟩;rw[hn] at M D O |-;clear hn
  go_enter Tryz.func156,Tryz.ntmps156
  go_wp2_with fail
  refine yi D.out ?_;rintro e w1 ⟨rfl,I⟩;have J:Hid (Below w.heap.size w w1):=I;clear I
  go_wp2_with fail
  refine yi (O.out _ (Z.out.below J.out)) ?_;rintro e w2 ⟨rfl,U⟩;subst U
  go_wp2_with fail
  go_ret;exact⟨rfl,J.out⟩
 ·rw[ya h];have h2:decide (E=0)=false:=yF h;obtain⟨n,hn⟩:∃ n,L.length=n:=⟨_,rfl⟩;rw[hn] at M D O |-;clear hn
  go_enter Tryz.func156,Tryz.ntmps156
  go_wp2_with fail
  refine yi D.out ?_;rintro e w1 ⟨rfl,I⟩;have J:Hid (Below w.heap.size w w1):=I;clear I
  go_wp2_with fail
  go_ret;exact⟨rfl,J.out⟩
theorem zeM(a:Option Addr)(c:Nat)(L:List Fr)(k top:Int)(w:World)(hN:L.length<=9223372036854775807)(hL:zaS w a L) :
  Calls Tryz.prog 16 #[.slice a L.length c,.int .i64 k,.int .i64 top] w fun e w' => e=.returned (.bool (inF L k top))/\w' = w:=by
 unfold inF;have D:Hid (∀ k W,_):=fun k W=>zjj a c L.length k W hN;have HL:Hid (zaS w a L):=hL;have ST:Hid (∀ n k,zdd L (n+1) k top=if 0<=k/\k<L.length then (if k=top then true else zdd L n (fr L k.toNat).p top) else false):=fun n k=>by rw[zdd]
 have EN:Hid (∀ k,zdd L 0 k top=false):=fun k=>rfl;clear hL;obtain⟨E,hE⟩:∃ E,zdd L L.length k top=E:=⟨_,rfl⟩;have Z:Hid (zdd L L.length k top=E):=hE;rw[hE];clear hE;obtain⟨n,hn⟩:∃ n,L.length=n:=⟨_,rfl⟩;have HN:Hid (L.length=n):=hn;rw[hn] at hN ST D Z |-;clear hn
 go_enter Tryz.func16,Tryz.ntmps16
 go_wp2_with fail
 go_loopg [7,11] n (fun g s7 s11 wr=>∃ (i:Nat) (k:Int),i<=n/\n-i<=g/\s11=.int .i64 i/\s7=.int .i64 k/\wr=w/\Hid (zdd L (n-i) k top=E))
 case atStart=>exact⟨0,k,by omega,by omega,rfl,rfl,rfl,Z⟩
 case round =>
  obtain⟨i,k,hi,hg,rfl,rfl,a6,T⟩:=hrel;subst a6;clear Z;by_cases a8:i<n
  ·have a7:(i:Int)<(n:Int):=by omega
   have O:=D.out k wr;have I:Hid _:=(ST.out (n-(i+1)) k).symm.trans ((by rw[show n-(i+1)+1=n-i by omega]:zdd L (n-(i+1)+1) k top=zdd L (n-i) k top).trans T.out);by_cases M:0<=k/\k<n
   ·rw[yG M] at O;have U:Hid _:=O;obtain⟨q,rfl⟩:=Int.eq_ofNat_of_zero_le M.1;have a9:(q:Int)<(n:Int):=by omega
    obtain⟨b,o,ea,c0,c1,c2,c3,c4⟩:=HL.out q (by rw[HN.out];omega);subst ea;have h:=I.out;rw[yd M,yj] at h;generalize fr L q=x at *;obtain⟨xp,xo,xm,xt,xg⟩:=x;dsimp only at c0 c1 c2 c3 c4 h;by_cases e:(q:Int)=top
    ·rw[yd e] at h;have F:Hid (true=E):=h;subst e;clear I h O M
     go_wp2_with fail
     refine yi U.out ?_;rintro e w1 ⟨rfl,J⟩;subst J
     go_wp2_with fail
     go_ret;exact⟨by rw[F.out];rfl,rfl⟩
    ·rw[ya e] at h;have F:Hid _:=h;have e2:decide ((q:Int)=top)=false:=yF e;have e3:((q:Int) == top)=false:=by simp[e]
     clear I h O M
     go_wp2_with fail
     refine yi U.out ?_;rintro e w1 ⟨rfl,J⟩;subst J
     go_wp2_with fail
     go_roundg (n-(i+1))
     case measure=>omega
     case rel=>exact⟨i+1,xp,by omega,by omega,by go_num,rfl,rfl,F⟩
   ·rw[yF M] at O;have U:Hid _:=O;have F:Hid (false=E):=by have h:=I.out;rwa [ya M] at h
    clear I M O
    go_wp2_with fail
    refine yi U.out ?_;rintro e w1 ⟨rfl,J⟩;subst J
    go_wp2_with fail
    go_ret;exact⟨by rw[F.out];rfl,rfl⟩
  ·have a5:i=n:=by omega
   subst a5;have F:Hid (false=E):=by have h:=T.out;rw[Nat.sub_self] at h;exact(EN.out k).symm.trans h
   clear T
   go_wp2_with fail
   go_ret;exact⟨by rw[F.out];rfl,rfl⟩
theorem zji:(Tryz.prog.info? 65).map (fun i=>(i.zero,i.size,i.bytes))=some (some (.agg #[.int .i64 0,.int .i64 0,.int .i64 0,.int .i64 0,.bool false]),5,40):=by kernel_rfl
def zeB:Array Value:=#[.int .i64 0,.int .i64 0,.int .i64 0,.int .i64 0,.bool false]
theorem zkY(n:Nat)(hn:n<=24)(w:World):(Instr.makeSlice 22 (.int .i64 (n:Int)) (.int .i64 (n:Int))).run Tryz.prog w=.ok (.slice (some ⟨w.heap.size,0,none⟩) n n) (w.alloc (.cells (madeCells zeB (n*5)) 65)):=by
 obtain⟨i,hi,D,E,F⟩:=info_parts zji;have h:=run_make (P:=Tryz.prog) w 22 65 i _ Tryz.underlying22 hi D .i64 .i64 n n (by omega) (by omega) (by rw[F];omega) (by omega);rw[E] at h;simp only[yj] at h;exact h
def zym(x:Fr):Nat->Value
 | 0=>.int .i64 x.p
 | 1=>.int .i64 x.o
 | 2=>.int .i64 x.m
 | 3=>.int .i64 x.t
 | _=>.bool x.g
def frF(L:List Fr)(m:Nat):Value:=zym (fr L (m / 5)) (m % 5)
theorem zdy(L:List Fr)(i j:Nat)(D:j<5):frF L (i*5+j)=zym (fr L i) j:=by
 unfold frF;rw[show (i*5+j) % 5=j by omega,show (i*5+j) / 5=i by omega]
theorem zhe{L M:List Fr}{m:Nat}(h:fr L (m / 5)=fr M (m / 5)):frF L m=frF M m:=by
 unfold frF;rw[h]
theorem zyG(L:List Fr)(m:Nat):(frF L m).oneCell' = true:=by
 unfold frF zym
 split <;> rfl
theorem row_of{w:World}{g t:Nat}{X:List Value}(h:w.heap[g]?=some (.cells X.toArray t (0,0))):w.rowIs g t X.length (fun i=>X.getD i (.bool false)) :=
 ⟨X.toArray,h,by simp,fun i hi=>by simp[hi]⟩
theorem zhM{w:World}{g N:Nat}{F:Nat->Value}{L:List Fr}(h:w.rowIs g 65 N F)(hl:L.length*5<=N)(D:∀ m,m<L.length*5->F m=frF L m):zaS w (some ⟨g,0,none⟩) L:=fun i hi=>by
 have hc:∀ j,j<5->w.cell? ⟨g,0+i*5+j,none⟩=some (frF L (i*5+j)):=fun j E=>by
  rw[yB,h.cell (by omega),D _ (by omega)]
 refine⟨g,0,rfl,?_,?_,?_,?_,?_⟩
 ·have:=hc 0 (by omega);rwa [zdy L i 0 (by omega)] at this
 ·have:=hc 1 (by omega);rwa [zdy L i 1 (by omega)] at this
 ·have:=hc 2 (by omega);rwa [zdy L i 2 (by omega)] at this
 ·have:=hc 3 (by omega);rwa [zdy L i 3 (by omega)] at this
 ·have:=hc 4 (by omega);rwa [zdy L i 4 (by omega)] at this
def zbC(L:List Fr):List Value:=(List.range (L.length*5)).map (frF L)
theorem zee(L:List Fr):(zbC L).length=L.length*5:=by unfold zbC;simp
theorem zhJ(L:List Fr):∀ v ∈ zbC L,v.oneCell' = true:=fun v D=>by
 unfold zbC at D;obtain⟨m,_,rfl⟩:=List.mem_map.1 D;exact zyG L m
theorem zaS.src{w:World}{b o:Nat}{L:List Fr}(h:zaS w (some ⟨b,o,none⟩) L):∀ j v,(zbC L)[j]?=some v->w.cell? ((⟨b,o,none⟩:Addr).add j)=some v:=fun j v E=>by
 unfold zbC at E;rw[List.getElem?_map] at E
 have F:j<L.length*5:=by
  rcases Nat.lt_or_ge j (L.length*5) with h|h
  ·exact h
  ·rw[List.getElem?_eq_none (by simpa using h)] at E;cases E
 rw[List.getElem?_range F] at E;have I:frF L j=v:=by simpa using E
 rw[Addr.add_lit,<- I];obtain⟨J,M,e,c0,c1,c2,c3,c4⟩:=h (j / 5) (by omega);cases e;have hs:j % 5=0\/j % 5=1\/j % 5=2\/j % 5=3\/j % 5=4:=by omega
 rcases hs with e|e|e|e|e
 ·have D:j=j / 5*5+0:=by omega
  rw[D,zdy L (j / 5) 0 (by omega),<- D,show o+j=o+j / 5*5 by omega];exact c0
 ·have D:j=j / 5*5+1:=by omega
  rw[D,zdy L (j / 5) 1 (by omega),<- D,show o+j=o+j / 5*5+1 by omega];exact c1
 ·have D:j=j / 5*5+2:=by omega
  rw[D,zdy L (j / 5) 2 (by omega),<- D,show o+j=o+j / 5*5+2 by omega];exact c2
 ·have D:j=j / 5*5+3:=by omega
  rw[D,zdy L (j / 5) 3 (by omega),<- D,show o+j=o+j / 5*5+3 by omega];exact c3
 ·have D:j=j / 5*5+4:=by omega
  rw[D,zdy L (j / 5) 4 (by omega),<- D,show o+j=o+j / 5*5+4 by omega];exact c4
theorem zkL{w:World}{g N:Nat}{L:List Fr}(hg:w.heap[g]?=some (.cells (zbC L++(madeCells zeB N).toList.drop (zbC L).length).toArray 65 (0,0)))(hl:L.length*5<=N):∃ F,w.rowIs g 65 N F/\∀ m,m<L.length*5->F m=frF L m:=by
 have h:=row_of hg
 have hs:(zbC L++(madeCells zeB N).toList.drop (zbC L).length).length=N:=by
  simp[zee,size_madeCells];omega
 rw[hs] at h;refine⟨_,h,fun m E=>?_⟩;have D:m<(zbC L).length:=by rw[zee];exact E
 have e:(zbC L)[m]?=some (frF L m):=by
  unfold zbC;rw[List.getElem?_map,List.getElem?_range E];rfl
 rw[List.getD_eq_getElem?_getD,List.getElem?_append_left D,e];rfl
theorem zrw(a:Option Addr)(c:Nat)(L:List Fr)(k:Int)(w:World)(O:L.length<=9223372036854775807)(J:zaS w a L)(M:zcy L k≠0) :
  Calls Tryz.prog 138 #[.slice a L.length c,.int .i64 k] w fun e w' => e=.returned (.tuple #[.int .i64 0,.int .i64 (zcy L k)])/\Below w.heap.size w w' := by
 have D:Hid _:=zeI a c L k w O J;have T:decide (zcy L k=0)=false:=yF M;clear J;generalize zcy L k=E at *;generalize L.length=n at *
 go_enter Tryz.func138,Tryz.ntmps138
 go_wp2_with fail
 refine yi D.out ?_;rintro e w1 ⟨rfl,F⟩;have I:Hid (Below w.heap.size w w1):=F;clear F
 go_wp2_with fail
 exact yw (v:=.tuple #[.int .i64 0,.int .i64 E]) (by simp[results,Tryz.results138,go_sem]) rfl ⟨rfl,I.out⟩
theorem ztU(a:Option Addr)(c:Nat)(L:List Fr)(k:Int)(w:World)(hN:L.length<=8)(hL:zaS w a L)(hE:zcy L k=0) :
  Calls Tryz.prog 138 #[.slice a L.length c,.int .i64 k] w fun e w' => e=.returned (.tuple #[.int .i64 (zku L k:Nat),.int .i64 0])/\Below w.heap.size w w' := by
 have d:=zeI a c L k w (by omega) hL;rw[hE] at d;have D:Hid _:=d;have HL:Hid (zaS w a L):=hL;have ST:Hid (∀ j,j<L.length->zku (L.take (j+1)) k=zku (L.take j) k+(if (fr L j).p=k/\(fr L j).g=false then 1 else 0)):=fun j hj=>zwK k hj;have EN:Hid (zku (L.take L.length) k=zku L k):=(by rw[List.take_length]:zku (L.take L.length) k=zku L k);have Z:Hid (zku (L.take 0) k=0):=rfl;clear hL hE d;obtain⟨r,hr⟩:∃ r,zku L k=r:=⟨_,rfl⟩;rw[hr] at EN |-;clear hr;obtain⟨n,hn⟩:∃ n,L.length=n:=⟨_,rfl⟩;have HN:Hid (L.length=n):=hn;rw[hn] at hN ST EN D |-;clear hn
 go_enter Tryz.func138,Tryz.ntmps138
 go_wp2_with fail
 refine yi D.out ?_;rintro e w1 ⟨rfl,T⟩;have O:Hid (Below w.heap.size w w1):=T;clear T
 go_wp2_with fail
 go_loopg [7,18] n (fun g s7 s18 wr=>∃ (i q:Nat),i<=n/\n-i<=g/\s18=.int .i64 i/\s7=.int .i64 q/\q<=i/\Hid (Below w.heap.size w wr)/\Hid (zku (L.take i) k=q))
 case atStart=>exact⟨0,0,by omega,by omega,rfl,rfl,by omega,O,Z⟩
 case round =>
  obtain⟨i,q,hi,hg,rfl,rfl,hq,I,M⟩:=hrel;clear O;by_cases U:i<n
  ·have a6:(i:Int)<(n:Int):=by omega
   obtain⟨b,o,ea,c0,c1,c2,c3,c4⟩:=(HL.out.below I.out) i (by rw[HN.out];exact U);subst ea;have E:=ST.out i U;rw[M.out] at E;have q0:=ye _ _ c0;have J:Hid (∀ o1,Below w.heap.size w (wr.alloc o1)):=fun o1=>I.out.trans ((zaa wr o1).mono I.out.size);generalize fr L i=x at *;obtain⟨xp,xo,xm,xt,xg⟩:=x;dsimp only at c0 c1 c2 c3 c4 E;by_cases hp:xp=k
   ·subst hp;cases xg
    ·have F:Hid (zku (L.take (i+1)) xp=q+1):=by rw[yd ⟨rfl,rfl⟩] at E;exact E
     clear E
     go_wp2_with fail
     go_roundg (n-(i+1))
     case measure=>omega
     case rel=>exact⟨i+1,q+1,by omega,by omega,by go_num,by go_num,by omega,J.out _,F⟩
    ·have F:Hid (zku (L.take (i+1)) xp=q):=by rw[ya (by simp)] at E;exact E
     clear E
     go_wp2_with fail
     go_roundg (n-(i+1))
     case measure=>omega
     case rel=>exact⟨i+1,q,by omega,by omega,by go_num,rfl,by omega,J.out _,F⟩
   ·have F:Hid (zku (L.take (i+1)) k=q):=by rw[ya (fun hh=>hp hh.1)] at E;exact E
    have a7:decide (xp=k)=false:=yF hp;have a8:(xp == k)=false:=by simp[hp]
    clear E
    go_wp2_with fail
    go_roundg (n-(i+1))
    case measure=>omega
    case rel=>exact⟨i+1,q,by omega,by omega,by go_num,rfl,by omega,J.out _,F⟩
  ·have a5:i=n:=by omega
   subst a5;have F:Hid (q=r):=M.out.symm.trans EN.out;clear M
   go_wp2_with fail
   exact yw (v:=.tuple #[.int .i64 (q:Int),.int .i64 0]) (by simp[results,Tryz.results138,go_sem]) rfl ⟨by rw[F.out],I.out⟩
def zfw(L:List Fr)(ks:List Int):Int:=ks.foldl (fun e k=>if e=0 then zax L k else e) (zaO L)
def zso(L:List Fr)(f t x:Int):Bool :=
 if x=1 then decide ((fr L f.toNat).o=(fr L t.toNat).o)
 else if x=2 then true
 else if x=3 then decide (bits .andNot .i64 2 (fr L f.toNat).m=0)
 else (!decide (t=f)) && inF L t f
def zdI(L:List Fr)(f t x:Int):Int :=
 if zfw L [f,t]≠0 then zfw L [f,t] else if ¬ (1<=x/\x<=5) then 3 else if zso L f t x=true then 0 else 7
theorem zdz(L:List Fr)(f t:Int):zfw L [f,t]=if zaO L≠0 then zaO L else if zax L f≠0 then zax L f else zax L t:=by
 unfold zfw;simp only[List.foldl];by_cases h1:zaO L=0
 ·rw[yd h1,ya (yJ h1)];by_cases D:zax L f=0
  ·rw[yd D,ya (yJ D)]
  ·rw[ya D,yd D]
 ·rw[ya h1,ya h1,yd h1]
theorem zgk{L:List Fr}{f t:Int}(h:zfw L [f,t]=0):zaO L=0/\zax L f=0/\zax L t=0:=by
 rw[zdz] at h;by_cases h1:zaO L=0
 ·rw[ya (yJ h1)] at h;by_cases D:zax L f=0
  ·rw[ya (yJ D)] at h;exact⟨h1,D,h⟩
  ·rw[yd D] at h;exact absurd h D
 ·rw[yd h1] at h;exact absurd h h1
theorem zit{L:List Fr}{f t:Int}(h1:zaO L=0)(D:zax L f=0)(E:zax L t=0):zfw L [f,t]=0:=by
 rw[zdz,ya (yJ h1),ya (yJ D),E]
def zhq(k:Int):Option (Bool × Int × Bool) :=
 if k=1 then some (true,0,false) else if k=2 then some (false,0,false) else if k=3 then some (false,2,false) else if k=4\/k=5 then some (false,0,true) else none
def ztV(L:List Fr)(f t:Int)(D:Bool)(nd:Int)(E:Bool):Bool :=
 (!D || decide ((fr L f.toNat).o=(fr L t.toNat).o)) && (decide (bits .andNot .i64 nd (fr L f.toNat).m=0) && (!E ||((!decide (t=f)) && inF L t f)))
theorem znY{a:Int}(h0:0<=a)(D:a<=7):bits .andNot .i64 0 a=0:=zBC (P:=fun a=>bits .andNot .i64 0 a=0) (by decide +kernel) h0 D
theorem zjL{x:Int}:zhq x=none↔¬ (1<=x/\x<=5):=by
 unfold zhq;by_cases h1:x=1
 ·rw[yd h1];simp;omega
 ·rw[ya h1];by_cases D:x=2
  ·rw[yd D];simp;omega
  ·rw[ya D];by_cases E:x=3
   ·rw[yd E];simp;omega
   ·rw[ya E];by_cases F:x=4\/x=5
    ·rw[yd F];simp;omega
    ·rw[ya F];simp;omega
theorem zwM{L:List Fr}(R:zcr L){f t:Nat}(O:f<L.length){x:Int}{I J:Bool}{nd:Int}(h:zhq x=some (I,nd,J)):ztV L f t I nd J=zso L f t x:=by
 have D:=R.may O;unfold zhq at h;unfold ztV zso;rw[yj];by_cases h1:x=1
 ·rw[yd h1] at h;rw[yd h1];cases h;simp[znY D.1 D.2]
 ·rw[ya h1] at h;rw[ya h1];by_cases E:x=2
  ·rw[yd E] at h;rw[yd E];cases h;simp[znY D.1 D.2]
  ·rw[ya E] at h;rw[ya E];by_cases F:x=3
   ·rw[yd F] at h;rw[yd F];cases h;simp
   ·rw[ya F] at h;rw[ya F];by_cases M:x=4\/x=5
    ·rw[yd M] at h;cases h;simp[znY D.1 D.2]
    ·rw[ya M] at h;cases h
theorem zyX{L:List Fr}{f t x:Int}(h:zaO L≠0):zdI L f t x=zaO L:=by
 unfold zdI;rw[zdz,yd h,yd h]
theorem zyY{L:List Fr}{f t x:Int}(h:zaO L=0)(D:zax L f≠0):zdI L f t x=zax L f:=by
 unfold zdI;rw[zdz,ya (yJ h),yd D,yd D]
theorem zug{L:List Fr}{f t x:Int}(h:zaO L=0)(D:zax L f=0)(E:zax L t≠0):zdI L f t x=zax L t:=by
 unfold zdI;rw[zdz,ya (yJ h),ya (yJ D),yd E]
theorem zwW{L:List Fr}{f t x:Int}(h:zaO L=0)(D:zax L f=0)(E:zax L t=0):zdI L f t x=if ¬ (1<=x/\x<=5) then 3 else if zso L f t x=true then 0 else 7:=by
 unfold zdI;rw[zit h D E,ya (by decide)]
end Go.Proofs.YtcbcpomacdngmaaGreat
