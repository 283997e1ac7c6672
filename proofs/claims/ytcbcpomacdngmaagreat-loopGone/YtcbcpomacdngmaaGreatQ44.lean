/-
  x
-/
import Derived.Test.YtcbcpomacdngmaaGreatQ43
namespace Go.Proofs.YtcbcpomacdngmaaGreat
set_option maxRecDepth 100000
set_option maxHeartbeats 4000000
set_option linter.unusedVariables false
open Go.RowKit Go.ChangeShapes Go.WideShapes
theorem zjb(a:Option Addr)(c:Nat)(L:List Fr)(k o:Int)(w:World)(hN:L.length<=9223372036854775807)(hL:zaS w a L) :
  Calls Tryz.prog 157 #[.slice a L.length c,.int .i64 k,.int .i64 o] w fun e w' => e=.returned (.int .i64 (goE L k o))/\Below w.heap.size w w' := by
 have D:Hid _:=zef a c L w hN hL;have T:Hid (∀ W,zaS W a L->_):=fun W hW=>zcF a c L k W hN hW;have DI:Hid (∀ W,_):=fun W=>zcH o 0 9 W;have HL:Hid (zaS w a L):=hL;clear hL;by_cases hc:zaO L=0
 ·by_cases hh:zax L k=0
  ·have h1:zcy L k=0:=by unfold zcy;rw[yd hc];exact hh
   obtain⟨R,q,rfl,hq,_⟩:=zfv h1;rw[hc] at D;rw[hh] at T;have a6:(q:Int)<(L.length:Int):=by omega
   by_cases h2:0<=o/\o<=9
   ·rw[yG h2] at DI;have ht:(fr L q).t<=1000:=(zdj.1 (R.ok q hq)).2.1.2.2.2
    have e:goE L q o=if (fr L q).t=1000 then 1 else 0:=by
     unfold goE;rw[ya (yJ h1),ya (yJ h2),yj];by_cases Z:(fr L q).t=1000
     ·rw[yd Z,yd (by omega)]
     ·rw[ya Z,ya (by omega)]
    rw[e]
    have HC:Hid (∀ W,zaS W a L->∃ b U,a=some ⟨b,U,none⟩/\W.cell? ⟨b,U+q*5+3,none⟩=some (.int .i64 (fr L q).t)):=fun W hW=>by
     obtain⟨b,U,ea,c0,c1,c2,c3,c4⟩:=hW q hq;exact⟨b,U,ea,c3⟩
    obtain⟨b,U,ea,_⟩:=HC.out w HL.out;subst ea
    have a5:Hid (∀ W,zaS W (some ⟨b,U,none⟩) L->W.cell? ⟨b,U+q*5+3,none⟩=some (.int .i64 (fr L q).t)):=fun W hW=>by
     obtain⟨b', a7,ea,c3⟩:=HC.out W hW;cases ea;exact c3
    clear e h1 R hc hh HC ht h2;generalize (fr L q).t=t at *;obtain⟨n,hn⟩:∃ n,L.length=n:=⟨_,rfl⟩;rw[hn] at hN D T hq a6 |-;clear hn;by_cases Z:t=1000
    ·rw[yd Z];subst Z
     go_enter Tryz.func157,Tryz.ntmps157
     go_wp2_with fail
     refine yi D.out ?_;rintro e w1 ⟨rfl,I⟩;have M:Hid (Below w.heap.size w w1):=I;have O:Hid (zaS w1 (some ⟨b,U,none⟩) L):=HL.out.below I;clear I
     go_wp2_with fail
     refine yi (T.out _ O.out) ?_;rintro e w2 ⟨rfl,F⟩;have J:=F.symm;clear F;subst J
     go_wp2_with fail
     refine yi (DI.out _) ?_;rintro e w2 ⟨rfl,F⟩;have J:=F.symm;clear F;subst J;have c3:=a5.out _ O.out
     go_wp2_with fail
     go_ret;exact⟨rfl,M.out⟩
    ·rw[ya Z];have h4:decide (t=1000)=false:=yF Z;have h5:(t == 1000)=false:=by simp[Z]
     go_enter Tryz.func157,Tryz.ntmps157
     go_wp2_with fail
     refine yi D.out ?_;rintro e w1 ⟨rfl,I⟩;have M:Hid (Below w.heap.size w w1):=I;have O:Hid (zaS w1 (some ⟨b,U,none⟩) L):=HL.out.below I;clear I
     go_wp2_with fail
     refine yi (T.out _ O.out) ?_;rintro e w2 ⟨rfl,F⟩;have J:=F.symm;clear F;subst J
     go_wp2_with fail
     refine yi (DI.out _) ?_;rintro e w2 ⟨rfl,F⟩;have J:=F.symm;clear F;subst J;have c3:=a5.out _ O.out
     go_wp2_with fail
     go_ret;exact⟨rfl,M.out⟩
   ·rw[yF h2] at DI;have e:goE L q o=2:=by unfold goE;rw[ya (yJ h1),yd h2]
    rw[e];clear e h1 R hc hh h2;obtain⟨n,hn⟩:∃ n,L.length=n:=⟨_,rfl⟩;rw[hn] at hN D T hq a6 |-;clear hn
    go_enter Tryz.func157,Tryz.ntmps157
    go_wp2_with fail
    refine yi D.out ?_;rintro e w1 ⟨rfl,I⟩;have M:Hid (Below w.heap.size w w1):=I;have O:Hid (zaS w1 a L):=HL.out.below I;clear I
    go_wp2_with fail
    refine yi (T.out _ O.out) ?_;rintro e w2 ⟨rfl,F⟩;have J:=F.symm;clear F;subst J
    go_wp2_with fail
    refine yi (DI.out _) ?_;rintro e w2 ⟨rfl,F⟩;have J:=F.symm;clear F;subst J
    go_wp2_with fail
    go_ret;exact⟨rfl,M.out⟩
  ·have h1:zcy L k=zax L k:=by unfold zcy;rw[yd hc]
   have e:goE L k o=zax L k:=by unfold goE;rw[h1,yd hh]
   rw[e];rw[hc] at D;have e2:decide (zax L k=0)=false:=yF hh;have e3:(zax L k == 0)=false:=by simp[hh]
   clear e h1 hc;generalize zax L k=E at *;obtain⟨n,hn⟩:∃ n,L.length=n:=⟨_,rfl⟩;rw[hn] at hN D T |-;clear hn hh
   go_enter Tryz.func157,Tryz.ntmps157
   go_wp2_with fail
   refine yi D.out ?_;rintro e w1 ⟨rfl,I⟩;have M:Hid (Below w.heap.size w w1):=I;have O:Hid (zaS w1 a L):=HL.out.below I;clear I
   go_wp2_with fail
   refine yi (T.out _ O.out) ?_;rintro e w2 ⟨rfl,F⟩;have J:=F.symm;clear F;subst J
   go_wp2_with fail
   go_ret;exact⟨rfl,M.out⟩
 ·have h1:zcy L k=zaO L:=by unfold zcy;rw[ya hc]
  have e:goE L k o=zaO L:=by unfold goE;rw[h1,yd hc]
  rw[e];have e2:decide (zaO L=0)=false:=yF hc;have e3:(zaO L == 0)=false:=by simp[hc]
  clear e h1;generalize zaO L=E at *;obtain⟨n,hn⟩:∃ n,L.length=n:=⟨_,rfl⟩;rw[hn] at hN D T |-;clear hn hc
  go_enter Tryz.func157,Tryz.ntmps157
  go_wp2_with fail
  refine yi D.out ?_;rintro e w1 ⟨rfl,I⟩;have M:Hid (Below w.heap.size w w1):=I;clear I
  go_wp2_with fail
  go_ret;exact⟨rfl,M.out⟩
theorem zAe(a:Option Addr)(c:Nat)(L:List Fr)(k o:Int)(w:World)(O:L.length<=9223372036854775807)(M:zaS w a L)(J:goE L k o≠0) :
  Calls Tryz.prog 141 #[.slice a L.length c,.int .i64 k,.int .i64 o] w fun e w' => e=.returned (.tuple #[.slice none 0 0,.int .i64 (goE L k o)])/\Below w.heap.size w w' := by
 have D:Hid _:=zjb a c L k o w O M;have T:decide (goE L k o=0)=false:=yF J;have U:(goE L k o == 0)=false:=by simp[J]
 clear M;generalize goE L k o=E at *;generalize L.length=n at *
 go_enter Tryz.func141,Tryz.ntmps141
 go_wp2_with fail
 refine yi D.out ?_;rintro e w1 ⟨rfl,F⟩;have I:Hid (Below w.heap.size w w1):=F;clear F
 go_wp2_with fail
 exact yw (v:=.tuple #[.slice none 0 0,.int .i64 E]) (by simp[results,Tryz.results141,go_sem]) rfl ⟨rfl,I.out⟩
def goG(L:List Fr)(k:Nat)(i:Nat):List Fr:=(List.range L.length).map fun j=>if j<i/\j≠k then { fr L j with g:=(fr L j).g || inF L j k } else fr L j
theorem zyK(L:List Fr)(k i:Nat):(goG L k i).length=L.length:=by unfold goG;simp
theorem zis{L:List Fr}{k i j:Nat}(h:j<L.length):fr (goG L k i) j=if j<i/\j≠k then { fr L j with g:=(fr L j).g || inF L j k } else fr L j:=by
 rw[zgy (by rw[zyK];exact h)];unfold goG;simp
theorem zor{w:World}{g:Nat}{L:List Fr}{k:Nat}(h:zfi w g L.length L):zfi w g L.length (goG L k 0):=by
 obtain⟨F,h1,D⟩:=h;exact⟨F,h1,fun m E=>(D m E).trans (zhe (by rw[zis (by omega),ya (by omega)]))⟩
theorem zwj{w:World}{g i:Nat}{L:List Fr}{k:Nat}(h:zfi w g L.length (goG L k i))(hi:i<L.length)(D:i=k\/inF L i k=false):zfi w g L.length (goG L k (i+1)):=by
 obtain⟨F,h1,I⟩:=h;refine⟨F,h1,fun m J=>(I m J).trans (zhe ?_)⟩;rw[zis (by omega),zis (by omega)];by_cases e:m / 5=i
 ·rw[e,ya (by omega)];rcases D with D|D
  ·rw[ya (by omega)]
  ·by_cases M:i=k
   ·rw[ya (by omega)]
   ·rw[yd (by omega),D,Bool.or_false]
 ·by_cases E:m / 5<i/\m / 5≠k
  ·rw[yd E,yd (by omega)]
  ·rw[ya E,ya (by omega)]
theorem zty{w:World}{g i:Nat}{L:List Fr}{k:Nat}(h:zfi w g L.length (goG L k i))(hi:i<L.length)(T:i≠k)(E:inF L i k=true):zfi (w.setCell ⟨g,i*5+4,none⟩ (.bool true)) g L.length (goG L k (i+1)):=by
 obtain⟨F,h1,M⟩:=h;refine⟨_,h1.set (i*5+4) (.bool true),fun m O=>?_⟩;by_cases e:m=i*5+4
 ·subst e;rw[yd rfl,zdy _ _ 4 (by omega),zis hi,yd (by omega),E,Bool.or_true];rfl
 ·rw[ya e,M m O];unfold frF;rw[zis (by omega),zis (by omega)];by_cases J:m / 5=i
  ·rw[J,ya (by omega),yd (by omega)];have D:m % 5=0\/m % 5=1\/m % 5=2\/m % 5=3:=by omega
   rcases D with D|D|D|D <;> rw[D] <;> rfl
  ·by_cases I:m / 5<i/\m / 5≠k
   ·rw[yd I,yd (by omega)]
   ·rw[ya I,ya (by omega)]
theorem ztx{w:World}{g:Nat}{L:List Fr}{k:Nat}{o:Int}(h:zfi w g L.length (goG L k L.length))(E:k<L.length) :
  zfi ((w.setCell ⟨g,k*5+1,none⟩ (.int .i64 o)).setCell ⟨g,k*5+3,none⟩ (.int .i64 ((fr L k).t+1))) g L.length (goF L k o):=by
 obtain⟨F,h1,M⟩:=h;refine⟨_,(h1.set (k*5+1) (.int .i64 o)).set (k*5+3) (.int .i64 ((fr L k).t+1)),fun m O=>?_⟩;by_cases e:m=k*5+3
 ·subst e;rw[yd rfl,zdy _ _ 3 (by omega),zgz E];rfl
 ·rw[ya e];by_cases I:m=k*5+1
  ·subst I;rw[yd rfl,zdy _ _ 1 (by omega),zgz E];rfl
  ·rw[ya I,M m O];unfold frF;rw[zis (by omega)];by_cases J:m / 5=k
   ·rw[J,ya (by omega),zgz E];have D:m % 5=0\/m % 5=2\/m % 5=4:=by omega
    rcases D with D|D|D <;> rw[D] <;> rfl
   ·rw[yd (by omega),zdK (by omega) J]
theorem go_ok(a:Option Addr)(c:Nat)(L:List Fr)(k o:Int)(w:World)(hL:zaS w a L)(hE:goE L k o=0) :
  Calls Tryz.prog 141 #[.slice a L.length c,.int .i64 k,.int .i64 o] w fun e w' => ∃ g,e=.returned (.tuple #[.slice (some ⟨g,0,none⟩) L.length L.length,.int .i64 0])/\Below w.heap.size w w' /\ w.heap.size<=g/\zaS w' (some ⟨g,0,none⟩) (goF L k o):=by
 obtain⟨hh,ho,ht⟩:=ztA hE;obtain⟨R,q,rfl,hq,hg⟩:=zfv hh;have hN:=R.few;have d:=zjb a c L q o w (by omega) hL;rw[hE] at d;have D:Hid _:=d;have HL:Hid (zaS w a L):=hL;have e2:0<=(fr L q).t/\(fr L q).t<=1000:=(zdj.1 (R.ok q hq)).2.1.2.2;obtain⟨b,ao,ea,c0,c1,c2,c3,c4⟩:=hL q hq;subst ea;clear c0 c1 c2 c3 c4 hg hE R d hL ho ht hh;have DW:Hid (∀ (i:Nat) (W:World),zaS W (some ⟨b,ao,none⟩) L->_):=fun i W hW=>zeM (some ⟨b,ao,none⟩) c L (i:Int) (q:Int) W (by omega) hW;obtain⟨i0,c9,e4,d6,e5⟩:=info_parts zji;have d5:=zkY L.length (by omega);have c6:Hid (∀ W,zaS W (some ⟨b,ao,none⟩) L->∀ j v,(zbC L)[j]?=some v->W.cell? ((⟨b,ao,none⟩:Addr).add j)=some v):=fun W hW=>hW.src;have b9:Hid _:=zhJ L;have a9:Hid ((zbC L).length=L.length*5):=zee L;have CP:Hid (∀ (W:World) (g:Nat),W.heap[g]?=some (.cells (zbC L++(madeCells zeB (L.length*5)).toList.drop (zbC L).length).toArray 65 (0,0))->zfi W g L.length (goG L q 0)):=fun W g hg=>zor (by obtain⟨F,h1,U⟩:=zkL hg (yk _);exact⟨F,h1,U⟩);have b4:Hid (∀ (W:World) (g i:Nat),zfi W g L.length (goG L q i)->i<L.length->i≠q->inF L i q=true->zfi (W.setCell ⟨g,i*5+4,none⟩ (.bool true)) g L.length (goG L q (i+1))):=fun W g i h1 U h3 h4=>zty h1 U h3 h4;have NO:Hid (∀ (W:World) (g i:Nat),zfi W g L.length (goG L q i)->i<L.length->(i=q\/inF L i q=false)->zfi W g L.length (goG L q (i+1))):=fun W g i h1 U h3=>zwj h1 U h3
 have b2:Hid (∀ (W:World) (g:Nat),zfi W g L.length (goG L q L.length)->zaS ((W.setCell ⟨g,q*5+1,none⟩ (.int .i64 o)).setCell ⟨g,q*5+3,none⟩ (.int .i64 ((fr L q).t+1))) (some ⟨g,0,none⟩) (goF L q o)):=fun W g h=>by
  obtain⟨F,h1,U⟩:=ztx (o:=o) h hq;exact zhM h1 (by rw[zhg];exact yk _) (fun m hm=>U m (by rw[zhg] at hm;exact hm))
 have I:Hid (∀ (W:World) (g i j:Nat) (M:List Fr),j<5->zfi W g L.length M->i<L.length->(∃ u,W.cell? ⟨g,i*5+j,none⟩=some u)/\(∀ o,W.frozen? ⟨g,o,none⟩=false)/\g<W.heap.size):=fun W g i j M hj ⟨F,h1,U⟩ hi=>⟨⟨_,h1.cell (by omega)⟩,h1.frozen,h1.lt⟩
 have a6:Hid (∀ (W:World) (g:Nat),zfi W g L.length (goG L q L.length)->W.cell? ⟨g,q*5+3,none⟩=some (.int .i64 (fr L q).t)):=fun W g ⟨F,h1,U⟩=>by
  rw[h1.cell (by omega),U _ (by omega),zdy _ _ 3 (by omega),zis hq,ya (by omega)];rfl
 generalize zbC L=cs at *;generalize goF L q o=DF at *;generalize (fr L q).t=t at *;have e3:IntKind.i64.wrap (t+1)=t+1:=by rw[yI];omega
 obtain⟨n,hn⟩:∃ n,L.length=n:=⟨_,rfl⟩;have HN:Hid (L.length=n):=hn;rw[hn] at hN hq D DW d5 a9 CP b4 NO b2 I a6 |-;clear hn;have e1:(q:Int)<(n:Int):=by omega
 go_enter Tryz.func141,Tryz.ntmps141
 go_wp2_with fail
 refine yi D.out ?_;rintro e w1 ⟨rfl,b0⟩;have a8:Hid (Below w.heap.size w w1):=b0;have b3:Hid (zaS w1 (some ⟨b,ao,none⟩) L):=HL.out.below b0;clear b0
 have HG:Hid ((w1.alloc (.cells (madeCells zeB (n*5)) 65)).heap[w1.heap.size]?=some (.cells (madeCells zeB (n*5)).toList.toArray 65 (0,0))):=by
  have:=yL w1 (.cells (madeCells zeB (n*5)) 65);show _=_;simpa using this
 go_wp2_with (refine zdf rfl (.tmp 21) (.tmp 22) 22 22 rfl 65 i0 Tryz.underlying22 c9 w1.heap.size 0 n n ⟨b,ao,none⟩ n c n ?hd ?hs (madeCells zeB (n*5)).toList 65 ?hg cs ?hn ?hl ?hsrc ?hfit ?h1 ?_)
 case hd=>rfl
 case hs=>rfl
 case hg=>exact HG.out
 case hn=>show n=min n n;omega
 case hl=>rw[a9.out,d6]
 case hsrc=>exact c6.out _ (b3.out.below (zaa _ _))
 case hfit=>rw[a9.out];simp[size_madeCells]
 case h1=>exact b9.out
 intro w3 b6 b5;have b7:Hid (Below w1.heap.size w1 w3):=b5 _ _ (zaa w1 _) (yk _);have HR:Hid (zfi w3 w1.heap.size n (goG L q 0)):=CP.out w3 _ b6;clear b6 b5 HG
 go_wp2_with fail
 go_loopg [26] n (fun g s26 wr=>∃ i:Nat,i<=n/\n-i<=g/\s26=.int .i64 i/\Hid (Below w1.heap.size w1 wr)/\Hid (zfi wr w1.heap.size n (goG L q i)))
 case atStart=>exact⟨0,by omega,by omega,rfl,b7,HR⟩
 case round =>
  obtain⟨i,hi,hg,rfl,J,E⟩:=hrel;clear HR;by_cases a5:i<n
  ·have e0:(i:Int)<(n:Int):=by omega
   have DI:=DW.out i wr (b3.out.below J.out);obtain⟨⟨u,hu⟩,c7,c8⟩:=I.out wr _ i 4 _ (by omega) E.out a5;by_cases Z:i=q
   ·have O:Hid _:=NO.out wr _ i E.out a5 (Or.inl Z);subst Z;clear DI
    go_wp2_with fail
    go_roundg (n-(i+1))
    case measure=>omega
    case rel=>exact⟨i+1,by omega,by omega,by go_num,J,O⟩
   ·have d7:decide ((i:Int)=(q:Int))=false:=yF (by omega);have d8:((i:Int) ==(q:Int))=false:=by simp;omega
    have d9:decide (i=q)=false:=yF Z
    cases hin:inF L (i:Int) (q:Int) with
    | true =>
     rw[hin] at DI;have a7:Hid _:=DI;have O:Hid _:=b4.out wr _ i E.out a5 Z hin;clear hin DI
     go_wp2_with fail
     refine yi a7.out ?_;rintro e w4 ⟨rfl,T⟩;have b1:=T.symm;clear T;subst b1
     go_wp2_with fail
     go_roundg (n-(i+1))
     case measure=>omega
     case rel=>exact⟨i+1,by omega,by omega,by go_num,J.out.setCell (yk _) _,O⟩
    | false =>
     rw[hin] at DI;have a7:Hid _:=DI;have O:Hid _:=NO.out wr _ i E.out a5 (Or.inr hin);clear hin DI
     go_wp2_with fail
     refine yi a7.out ?_;rintro e w4 ⟨rfl,T⟩;have b1:=T.symm;clear T;subst b1
     go_wp2_with fail
     go_roundg (n-(i+1))
     case measure=>omega
     case rel=>exact⟨i+1,by omega,by omega,by go_num,J,O⟩
  ·have d4:i=n:=by omega
   subst d4;have HF:Hid _:=b2.out wr _ E.out;have ct:=a6.out wr _ E.out;obtain⟨⟨u,hu⟩,c7,c8⟩:=I.out wr _ q 1 _ (by omega) E.out hq;have b8:Hid (Below w1.heap.size w1 ((wr.setCell ⟨w1.heap.size,q*5+1,none⟩ (.int .i64 o)).setCell ⟨w1.heap.size,q*5+3,none⟩ (.int .i64 (t+1)))):=(J.out.setCell (yk _) _).setCell (yk _) _;clear E
   go_wp2_with fail
   exact yw (v:=.tuple #[.slice (some ⟨w1.heap.size,0,none⟩) i i,.int .i64 0]) (by simp[results,Tryz.results141,go_sem]) rfl ⟨_,rfl,a8.out.trans (b8.out.mono a8.out.size),a8.out.size,HF.out⟩
theorem zAz{w E:World}{R:Rl}{m:Nat}(hg:E.rowIs (w.heap.size+1+1) 55 ((m+1)*2) (mkF R m (w.heap.size+1+1+1) m))(hh:E.rowIs (w.heap.size+1+1+1) 3 m (kdF m)):zaI E (some ⟨w.heap.size+1+1,0,none⟩) (zbj R m):=fun i hi=>by
 rw[zcL] at hi;refine⟨w.heap.size+1+1,0,rfl,?_⟩;rw[yB]
 match i,hi with
 | 0,_ =>
  rw[ziR];refine⟨?_,some ⟨w.heap.size+1+1+1,0,none⟩,m,?_,fun j F=>?_⟩
  ·rw[hg.cell (by omega)];rfl
  ·rw[hg.cell (by omega)];show some (Value.slice _ m m)=some (.slice _ (List.map _ (List.range m)).length m);rw[List.length_map,List.length_range]
  ·have D:j<m:=by simpa using F
   refine⟨_,0,rfl,?_⟩;rw[yB,hh.cell D];unfold kdF;rw[yd D];simp[List.getD_eq_getElem?_getD,D]
 | i+1,hi =>
  rw[ziS (by omega)];refine⟨?_,none,0,?_,fun j F=>absurd F (yx _)⟩
  ·rw[hg.cell (by omega)];unfold mkF;rw[ya (by omega),ya (by omega),yd (by omega),show (i+1)*2 / 2-1=i by omega,yd (by omega)]
  ·rw[hg.cell (by omega)];unfold mkF;rw[ya (by omega),ya (by omega),ya (by omega)];rfl
theorem MkI.cls2{w:World}{A:RA}{R:Rl}{m:Nat}{V:World}(I:MkI w A R m m V)(E:World)(D:zar (fun b=>b=w.heap.size+1) V E):St (fun b=>b<w.heap.size) (fun V=>zaI V (some ⟨w.heap.size+1+1,0,none⟩) (zbj R m)) E:=fun O F=>by
 have J:=I.g.lt;have M:=I.h.lt;exact zAz (I.g.of_block ((F.block _ (yz J D.size) (by show ¬ w.heap.size+1+1<w.heap.size;omega)).trans (D.block _ J (by show ¬ w.heap.size+1+1=w.heap.size+1;omega)))) (I.h.of_block ((F.block _ (yz M D.size) (by show ¬ w.heap.size+1+1+1<w.heap.size;omega)).trans (D.block _ M (by show ¬ w.heap.size+1+1+1=w.heap.size+1;omega))))
def zim(w:World)(R:Rl)(n:Int)(e:Ending)(V:World):Prop:=∃ (ga:Option Addr) (gc:Nat),e=.returned (.tuple #[.agg #[.slice ga (mkG R n).length gc],.int .i64 (zby R n)])/\Below w.heap.size w V/\St (fun b=>b<w.heap.size) (fun V=>zaI V ga (mkG R n)) V
theorem zim.no{w V:World}{R:Rl}{n E:Int}(h:zby R n=E)(D:E≠0)(F:Below w.heap.size w V):zim w R n (.returned (.tuple #[.agg #[.slice none 0 0],.int .i64 E])) V:=by
 have e:mkG R n=[]:=ya (by rw[h];exact D);refine⟨none,0,by rw[e,h];rfl,F,?_⟩;rw[e];exact fun I _ i hi=>absurd hi (yx _)
theorem zim.ok{w V:World}{R:Rl}{m:Nat}{A:RA}(D:m<=8)(I:MkI w A R m m V):zim w R m (.returned (.tuple #[.agg #[.slice (some ⟨w.heap.size+1+1,0,none⟩) (m+1) (m+1)],.int .i64 0])) (V.setCell ⟨w.heap.size+1,0,none⟩ (.slice (some ⟨w.heap.size+1+1,0,none⟩) (m+1) (m+1))):=by
 have h:=zue D I.ok;have e:mkG R m=zbj R m:=by unfold mkG;rw[yd h,yj]
 refine⟨_,m+1,by rw[e,h,zcL],I.bel.setCell (by simp) _,?_⟩;rw[e];exact I.cls2 _ (zar.set (X:=fun b=>b=w.heap.size+1) V _ rfl)
theorem MkI.read{w:World}{A:RA}{R:Rl}{m k:Nat}{V:World}(I:MkI w A R m k V)(M:k<m)(E:R.hs.length=16)(J:m<=8)(hh:zau V A.a1 R.hs):∃ b o,A.a1=some ⟨b,o,none⟩/\V.cell? ⟨b,o+k*2,none⟩=some (.int .i64 (hd R k).1)/\V.cell? ⟨b,o+k*2+1,none⟩=some (.int .i64 (hd R k).2)/\b<V.heap.size:=by
 obtain⟨b,o,e,h1,F⟩:=hh k (by omega);have D:hd R (k:Int)=R.hs.getD k (0,0):=by unfold hd;rw[yj]
 rw[D];exact⟨b,o,e,h1,F,ye _ _ h1⟩
theorem zwY{w D O:World}{A:RA}{R:Rl}{m:Nat}(xr:D.heap[w.heap.size]?=some (.cells #[.slice A.a0 R.s.length A.c0,.slice A.a1 R.hs.length A.c1,.slice A.a2 R.i.length A.c2,.slice A.a3 R.t.length A.c3] 50 (0,0)))(xz:D.heap[w.heap.size+1]?=some (.cells #[.slice none 0 0] 47 (0,0)))(sz:D.heap.size=w.heap.size+1+1+1)(b3:Below w.heap.size w D)(rg:D.rowIs (w.heap.size+1+1) 55 ((m+1)*2) (fun j=>(madeCells #[.int .i64 0,.slice none 0 0] ((m+1)*2))[j]!))
  (h4:O=((D.setCell ⟨w.heap.size+1+1,0,none⟩ (.int .i64 (m:Int))).setCell ⟨w.heap.size+1+1,1,none⟩ (.slice (some ⟨D.heap.size,0,none⟩) m m)).alloc (.cells (madeCells #[.int .i64 0] m) 3)):MkI w A R m 0 O:=by
 subst h4;obtain⟨V,M⟩:∃ V,(D.setCell ⟨w.heap.size+1+1,0,none⟩ (.int .i64 (m:Int))).setCell ⟨w.heap.size+1+1,1,none⟩ (.slice (some ⟨D.heap.size,0,none⟩) m m)=V:=⟨_,rfl⟩;have hs:V.heap.size=w.heap.size+1+1+1:=by rw[<- M];simpa using sz
 have T:∀ b,b≠w.heap.size+1+1->V.heap[b]?=D.heap[b]?:=fun b h=>by rw[<- M,yv _ _ _ _ h,yv _ _ _ _ h]
 have E:=(rg.set 0 (.int .i64 (m:Int))).set 1 (.slice (some ⟨D.heap.size,0,none⟩) m m);rw[M] at E |-;have F:=zaa V (.cells (madeCells #[.int .i64 0] m) 3);have Z:=World.rowIs_made V (.int .i64 0) m 3;rw[hs] at Z;refine⟨?_,zat ((T _ (by omega)).trans xr) F,zat ((T _ (by omega)).trans xz) F,yE (E.of_block (F.block _ E.lt)) (fun j U=>?_),yE Z (fun j U=>?_),fun i hi=>absurd hi (yx _)⟩
 ·refine Below.trans ?_ (F.mono (by omega));rw[<- M];exact(b3.setCell (by simp;omega) _).setCell (by simp;omega) _
 ·unfold mkF;by_cases J:j=1
  ·rw[yd J,ya (by omega),yd J,sz]
  ·rw[ya J];by_cases I:j=0
   ·rw[yd I,yd I]
   ·rw[ya I,ya I,ya J];have e2:(madeCells #[Value.int .i64 0,.slice none 0 0] ((m+1)*2))[j]! =(#[Value.int .i64 0,.slice none 0 0]:Array Value)[j % 2]!:=by simp[madeCells,U]
    rw[e2];by_cases e3:j % 2=0
    ·rw[e3,yd rfl,ya (yx _)];rfl
    ·rw[show j % 2=1 by omega,ya (by decide)];rfl
 ·unfold kdF;rw[ya (yx _)]
theorem zno(A:RA)(R:Rl)(n:Int)(w:World)(hR:zaG R=0)(hW:zct w A R):Calls Tryz.prog 139 #[rlV A R,.int .i64 n] w (zim w R n):=by
 obtain⟨wf,hl,_,_⟩:=zav hR;by_cases hn:0<=n/\n<=8;rotate_left
 ·have DW:Hid (∀ V,Calls _ _ _ _ _):=fun V=>zaR n 0 8 V;rw[yF hn] at DW;have HE:Hid (zby R n=2):=zuf hn;dsimp only[rlV];clear hn;generalize R.s.length=r0 at *;generalize R.hs.length=r1 at *;generalize R.i.length=r2 at *;generalize R.t.length=r3 at *
  go_enter Tryz.func139,Tryz.ntmps139
  go_wp2_with (go_at_call 66;refine(DW.out _).mono ?_;rintro e w3 ⟨rfl,b1⟩;subst b1)
  exact yw (v:=.tuple #[.agg #[.slice none 0 0],.int .i64 2]) (by simp[results,Tryz.results139,go_sem]) rfl (zim.no HE.out (by decide) (zah _ _ _))
 ·obtain⟨m,rfl⟩:∃ m:Nat,n=m:=⟨n.toNat,by omega⟩;have h8:m<=8:=by omega
  have DW:Hid (∀ V,Calls _ _ _ _ _):=fun V=>zaR (m:Int) 0 8 V;rw[yG hn] at DW;have hq:IntKind.i64.wrap (1+(m:Int))=((m+1:Nat):Int):=by rw[yI];omega
  have b4:=zxS (m+1) (by omega);have e1:((m+1:Nat):Int)=(m:Int)+1:=by omega
  rw[e1] at b4 hq;clear e1;have d8:=znm m (by omega);obtain⟨a0,a1,a2,a3,c0,c1,c2,c3⟩:=A;have HW:Hid (zct w ⟨a0,a1,a2,a3,c0,c1,c2,c3⟩ R):=hW;have HL:Hid (R.hs.length=16):=hl;have b8:Hid (WF R.s):=wf;dsimp only[rlV];rw[hl];clear hn hR hW wf hl;obtain⟨r0,a8⟩:∃ n,R.s.length=n:=⟨_,rfl⟩;have b3:Hid (R.s.length=r0):=a8;rw[a8];obtain⟨r2,a9⟩:∃ n,R.i.length=n:=⟨_,rfl⟩;have b6:Hid (R.i.length=r2):=a9;rw[a9];obtain⟨r3,b0⟩:∃ n,R.t.length=n:=⟨_,rfl⟩;have b7:Hid (R.t.length=r3):=b0;rw[b0];clear a8 a9 b0
  go_enter Tryz.func139,Tryz.ntmps139
  go_upto_region 4 with (go_at_call 66;refine(DW.out _).mono ?_;rintro e w3 ⟨rfl,b1⟩;subst b1)
  obtain⟨T,F⟩:∃ T,((w.alloc (.cells #[.slice a0 r0 c0,.slice a1 16 c1,.slice a2 r2 c2,.slice a3 r3 c3] 50)).alloc (.cells #[.slice none 0 0] 47)).alloc (.cells (madeCells #[.int .i64 0,.slice none 0 0] ((m+1)*2)) 55)=T:=⟨_,rfl⟩;have SZ:Hid (T.heap.size=w.heap.size+1+1+1):=by show _=_;rw[<- F];simp
  have RG:Hid (T.rowIs (w.heap.size+1+1) 55 ((m+1)*2) (fun j=>(madeCells #[.int .i64 0,.slice none 0 0] ((m+1)*2))[j]!)):=by
   rw[<- F];have h:=World.rowIs_alloc ((w.alloc (.cells #[.slice a0 r0 c0,.slice a1 16 c1,.slice a2 r2 c2,.slice a3 r3 c3] 50)).alloc (.cells #[.slice none 0 0] 47)) (madeCells #[.int .i64 0,.slice none 0 0] ((m+1)*2)) 55 (fun j=>(madeCells #[.int .i64 0,.slice none 0 0] ((m+1)*2))[j]!) (fun i hi=>by simp[hi]);rw[size_madeCells,ys,ys] at h;exact h
  have XR:Hid (T.heap[w.heap.size]?=some (.cells #[.slice a0 r0 c0,.slice a1 16 c1,.slice a2 r2 c2,.slice a3 r3 c3] 50 (0,0))):=by rw[<- F];exact zat (zat (zci _ _ _ _ _ _) (zaa _ _)) (zaa _ _)
  have XZ:Hid (T.heap[w.heap.size+1]?=some (.cells #[.slice none 0 0] 47 (0,0))):=by
   rw[<- F];have h:=yL (w.alloc (.cells #[.slice a0 r0 c0,.slice a1 16 c1,.slice a2 r2 c2,.slice a3 r3 c3] 50)) (.cells #[.slice none 0 0] 47);rw[ys] at h;exact zat h (zaa _ _)
  have B3:Hid (Below w.heap.size w T):=by rw[<- F];exact(zah _ _ _).alloc (by simp;omega) _
  rw[F];clear F;have g0:=RG.out.cell (i:=0) (by omega);have g1:=RG.out.cell (i:=1) (by omega);have gf:=fun o=>RG.out.frozen o;have gl:w.heap.size+1+1<T.heap.size:=RG.out.lt
  go_upto_region 5 with fail
  obtain⟨V4,a7⟩:∃ V4,((T.setCell ⟨w.heap.size+1+1,0,none⟩ (.int .i64 (m:Int))).setCell ⟨w.heap.size+1+1,1,none⟩ (.slice (some ⟨T.heap.size,0,none⟩) m m)).alloc (.cells (madeCells #[.int .i64 0] m) 3)=V4:=⟨_,rfl⟩;have I0:Hid (MkI w ⟨a0,a1,a2,a3,c0,c1,c2,c3⟩ R m 0 V4):=zwY (by rw[b3.out,HL.out,b6.out,b7.out];exact XR.out) XZ.out SZ.out B3.out RG.out a7.symm;rw[a7,SZ.out];clear a7 g0 g1 gf gl XR XZ B3 RG SZ T DW
  go_wp2_with fail
  go_loopg [24] m (fun q s24 wr=>∃ k:Nat,k<=m/\m-k<=q/\s24=.int .i64 k/\Hid (MkI w ⟨a0,a1,a2,a3,c0,c1,c2,c3⟩ R m k wr))
  case atStart=>exact⟨0,by omega,by omega,rfl,I0⟩
  case round =>
   obtain⟨k,hk,hg,rfl,O⟩:=hrel;clear I0;by_cases a5:k<m
   ·have d7:(k:Int)<(m:Int):=by omega
    have d6:(k:Int)<16:=by omega
    have hw:=HW.out.below O.out.bel;obtain⟨hb,ho,rfl,u0,u1,ul⟩:=O.out.read a5 HL.out h8 hw.2.1;have D:Hid (∀ V,Below wr.heap.size wr V->Calls _ _ _ _ _):=fun V hV=>zeK R.s (hd R (k:Int)).1 (hd R (k:Int)).2 a0 c0 V b8.out (hw.1.below hV);have KO:Hid (∀ V,Below wr.heap.size wr V->zaz R.s (hd R (k:Int)).1 (hd R (k:Int)).2=0->MkI w ⟨a0,some ⟨hb,ho,none⟩,a2,a3,c0,c1,c2,c3⟩ R m (k+1) _):=fun V hV h=>(O.out.below hV).step a5 h;have KN:Hid (zaz R.s (hd R (k:Int)).1 (hd R (k:Int)).2≠0->zby R m=zaz R.s (hd R (k:Int)).1 (hd R (k:Int)).2):=fun h=>zwV h8 a5 O.out.ok h;clear hw;generalize hd R (k:Int)=hh at *;obtain⟨P,U⟩:=hh;dsimp only at u0 u1 D KO KN;obtain⟨E,hE⟩:∃ E,zaz R.s P U=E:=⟨_,rfl⟩;rw[hE] at D KO KN;clear hE;obtain⟨l0,l1,l2,l3,lf,ll⟩:=zaj O.out.r;dsimp only at l0 l1 l2 l3;rw[b3.out] at D l0;rw[HL.out] at l1;have s1:w.heap.size+1+1+1<wr.heap.size:=O.out.h.lt;have s0:w.heap.size<wr.heap.size:=ll
    go_upto_region 8 with fail
    have n1:¬ wr.heap.size=w.heap.size:=by omega
    have d4:¬ w.heap.size=wr.heap.size:=by omega
    have n2:¬ wr.heap.size=hb:=by omega
    have d5:¬ hb=wr.heap.size:=by omega
    go_cut [8,9,24] from 24 to 57 (fun s8 s9 s24 wx=>∃ (b:Nat) (mm pp:Int),s8=.pointer (some ⟨b,0,none⟩)/\s9=.int .i64 E/\s24=.int .i64 k/\Hid (Below wr.heap.size wr wx)/\wx.cell? ⟨b,3,none⟩=some (.int .i64 mm)/\wx.cell? ⟨b,4,none⟩=some (.int .i64 pp)/\wr.heap.size<=b/\Hid (E=0->mm=(nd R.s P.toNat).m/\pp=(nd R.s P.toNat).p))
    case first =>
     go_region_held3 (fun a6=>a6.cell? ⟨w.heap.size,0,none⟩=some (.slice a0 r0 c0)/\a6.cell? ⟨w.heap.size,1,none⟩=some (.slice (some ⟨hb,ho,none⟩) 16 c1)/\a6.cell? ⟨hb,ho+k*2,none⟩=some (.int .i64 P)/\a6.cell? ⟨hb,ho+k*2+1,none⟩=some (.int .i64 U)) (go_keep) (first|(go_at_call 14;refine yi (D.out wr.drew (yr _ _).drew) ?_;rintro e w5 ⟨nx,ka,kl,kc,rfl,I,Z,b2⟩;have M:Hid (Below wr.heap.size wr w5):=(yr _ _).drew.trans I;have HX:Hid _:=Z;have b9:=zab l0 M.out;have c6:=zab l1 M.out;have c7:=zab u0 M.out;have c8:=zab u1 M.out;clear I Z b2)|(go_at_call 14;refine yi (D.out (wr.alloc (.cells #[.bool false,.int .i64 0,.int .i64 0,.int .i64 0,.int .i64 0,.slice none 0 0,.int .i64 0,.bool false] 57)).drew (zaa wr _).drew) ?_;rintro e w5 ⟨nx,ka,kl,kc,rfl,I,Z,b2⟩;have M:Hid (Below wr.heap.size wr w5):=(zaa wr _).drew.trans (I.mono (by simp));have HX:Hid _:=Z;have b9:=zab l0 M.out;have c6:=zab l1 M.out;have c7:=zab u0 M.out;have c8:=zab u1 M.out;have X3:Hid (w5.heap[wr.heap.size]?=some (.cells #[.bool false,.int .i64 0,.int .i64 0,.int .i64 0,.int .i64 0,.slice none 0 0,.int .i64 0,.bool false] 57 (0,0))):=zat (W:=(wr.alloc (.cells #[.bool false,.int .i64 0,.int .i64 0,.int .i64 0,.int .i64 0,.slice none 0 0,.int .i64 0,.bool false] 57)).drew) (yL wr _) I;obtain⟨x0,x1,x2,x3,x4,x5,x6,x7,xf,xl⟩:=zdn X3.out;clear I Z b2))
     ·go_wp2_with fail
      go_meet
      case rel =>
       have r:=zuS nx (.slice ka kl kc) 57 (yr wr.heap.size wr) M.out;exact⟨_,_,_,rfl,rfl,rfl,r.1,r.2.1,r.2.2.1,r.2.2.2,fun h=>by rw[HX.out h];exact⟨rfl,rfl⟩⟩
     ·go_wp2_with fail
      go_meet
      case rel =>
       have r:=zuT nx (.slice ka kl kc) (yr wr.heap.size wr) M.out X3.out;exact⟨_,_,_,rfl,rfl,rfl,r.1,r.2.1,r.2.2.1,r.2.2.2,fun h=>by rw[HX.out h];exact⟨rfl,rfl⟩⟩
    case rest =>
     obtain⟨b,mm,pp,rfl,rfl,rfl,HB,hm,c9,e2,HM⟩:=hcut;have J:Hid _:=O.out.below HB.out;have bl:b<wc.heap.size:=ye _ _ hm;clear l0 l1 l2 l3 lf ll u0 u1 ul D n1 d4 n2 d5 c9;by_cases hE:E=0
     ·subst hE;obtain⟨rfl,_⟩:=HM.out rfl;have KS:Hid _:=KO.out wc HB.out rfl;have g1:=J.out.g.cell (i:=1) (by omega);have g2:=J.out.g.cell (i:=(k+1)*2) (by omega);have g3:=J.out.g.cell (i:=(k+1)*2+1) (by omega);have gf:=fun o=>J.out.g.frozen o;have gl:=J.out.g.lt;have h1:=J.out.h.cell (i:=k) a5;have hf:=fun o=>J.out.h.frozen o;have hl:=J.out.h.lt;have e1:mkF R m (w.heap.size+1+1+1) k 1=.slice (some ⟨w.heap.size+1+1+1,0,none⟩) m m:=rfl;rw[e1] at g1;generalize mkF R m (w.heap.size+1+1+1) k ((k+1)*2)=v2 at g2;generalize mkF R m (w.heap.size+1+1+1) k ((k+1)*2+1)=v3 at g3;generalize kdF k k=v1 at h1;clear e1;have e5:¬ b=w.heap.size+1+1:=by omega
      have e6:¬ b=w.heap.size+1+1+1:=by omega
      have d9:¬ w.heap.size+1+1=b:=by omega
      have e0:¬ w.heap.size+1+1+1=b:=by omega
      have e3:((k:Int)+1)<((m:Int)+1):=by omega
      have e4:IntKind.i64.wrap ((k:Int)+1)=(k:Int)+1:=by rw[yI];omega
      go_wp2_with fail
      go_roundg (m-(k+1))
      case measure=>omega
      case rel=>exact⟨k+1,by omega,by omega,by go_num,KS⟩
     ·have hz:(E == 0)=false:=by simp[hE]
      have b5:Hid _:=KN.out hE;obtain⟨z0,zf,zl⟩:wc.cell? ⟨w.heap.size+1,0,none⟩=some (.slice none 0 0)/\(∀ o,wc.frozen? ⟨w.heap.size+1,o,none⟩=false)/\w.heap.size+1<wc.heap.size:=⟨zaJ J.out.z,fun o=>zaW J.out.z,zay J.out.z⟩
      go_wp2
      exact yw (v:=.tuple #[.agg #[.slice none 0 0],.int .i64 E]) (by simp[results,Tryz.results139,go_sem,z0]) rfl (zim.no b5.out hE (J.out.bel.setCell (by simp) _))
   ·obtain rfl:k=m:=by omega
    obtain⟨z0,zf,zl⟩:wr.cell? ⟨w.heap.size+1,0,none⟩=some (.slice none 0 0)/\(∀ o,wr.frozen? ⟨w.heap.size+1,o,none⟩=false)/\w.heap.size+1<wr.heap.size:=⟨zaJ O.out.z,fun o=>zaW O.out.z,zay O.out.z⟩
    go_wp2
    exact yw (v:=.tuple #[.agg #[.slice (some ⟨w.heap.size+1+1,0,none⟩) (k+1) (k+1)],.int .i64 0]) (by simp[results,Tryz.results139,go_sem,z0]) rfl (zim.ok h8 O.out)
end Go.Proofs.YtcbcpomacdngmaaGreat
