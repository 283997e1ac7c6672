/-
  x
-/
import Derived.Test.YtcbcpomacdngmaaGreatA40
namespace Go.Proofs.YtcbcpomacdngmaaGreat
set_option maxRecDepth 100000
set_option maxHeartbeats 4000000
set_option linter.unusedVariables false
open Go.RowKit Go.ChangeShapes Go.WideShapes Tryz
variable{L:List Fr}{g k i d me b o:Nat}{w V:Wd}{W:Wl}{v:Value}
theorem ZJ(a:OA)(c:Nat)(L:List Fr)(k o:Int)(w:Wd)(hN:L.length<=9223372036854775807)(hL:aS w a L) :
  yO 157 #[.slice a L.length c,.int .i64 k,.int .i64 o] w fun e w' => e=.returned (.int .i64 (goE L k o))/\Below w.heap.size w w' := by
 have D:Hid _:=xY a c L w hN hL;have T:Hid (∀ W,aS W a L->_):=fun W hW=>sF a c L k W hN hW;have DI:Hid (∀ W,_):=fun W=>vE o 0 9 W;have HL:Hid (aS w a L):=hL;clear hL;by_cases hc:bS L=0
 ·by_cases hh:bC L k=0
  ·have h1:dR L k=0:=(by unfold dR;rw[ye hc];exact hh);obtain⟨R,q,rfl,hq,_⟩:=xX h1;rw[hc] at D;rw[hh] at T;have a6:(q:Int)<(L.length:Int):=oaa;by_cases h2:0<=o/\o<=9
   ·rw[yI h2] at DI;have ht:(fr L q).t<=1000:=(pF.1 (R.ok q hq)).2.1.2.2.2
    have e:goE L q o=if (fr L q).t=1000 then 1 else 0:=by
     unfold goE;rw[yd (yL h1),yd (yL h2),yk];by_cases Z:(fr L q).t=1000
     ·rw[ye Z,ye oaa]
     ·rw[yd Z,yd oaa]
    rw[e]
    have HC:Hid (∀ W,aS W a L->∃ b U,a=some ⟨b,U,none⟩/\W.cell? ⟨b,U+q*5+3,none⟩=some (.int .i64 (fr L q).t)):=fun W hW=>by
     obtain⟨b,U,ea,c0,c1,c2,c3,c4⟩:=hW q hq;exact⟨b,U,ea,c3⟩
    obtain⟨b,U,ea,_⟩:=HC.out w HL.out;subst ea
    have a5:Hid (∀ W,aS W (some ⟨b,U,none⟩) L->W.cell? ⟨b,U+q*5+3,none⟩=some (.int .i64 (fr L q).t)):=fun W hW=>by
     obtain⟨b', a7,ea,c3⟩:=HC.out W hW;cases ea;exact c3
    clear e h1 R hc hh HC ht h2;generalize (fr L q).t=t at *;obtain⟨n,hn⟩:∃ n,L.length=n:=⟨_,rfl⟩;rw[hn] at hN D T hq a6 |-;clear hn;by_cases Z:t=1000
    ·rw[ye Z];subst Z
     go_enter func157,ntmps157
     go_wp2_with fail
     refine yj D.out ?_;rintro e w1 ⟨rfl,I⟩;have M:Hid (Bl w w1):=I;have O:Hid (aS w1 (some ⟨b,U,none⟩) L):=HL.below I;clear I
     go_wp2_with fail
     refine yj (T _ O.out) ?_;rintro e w2 ⟨rfl,F⟩;have J:=F.symm;clear F;subst J
     go_wp2_with fail
     refine yj (DI _) ?_;rintro e w2 ⟨rfl,F⟩;have J:=F.symm;clear F;subst J;have c3:=a5.out _ O.out
     go_wp2_with fail
     go_ret;exact⟨rfl,M.out⟩
    ·rw[yd Z];have h4:decide (t=1000)=false:=yH Z;have h5:(t == 1000)=false:=by simp[Z]
     go_enter func157,ntmps157
     go_wp2_with fail
     refine yj D.out ?_;rintro e w1 ⟨rfl,I⟩;have M:Hid (Bl w w1):=I;have O:Hid (aS w1 (some ⟨b,U,none⟩) L):=HL.below I;clear I
     go_wp2_with fail
     refine yj (T _ O.out) ?_;rintro e w2 ⟨rfl,F⟩;have J:=F.symm;clear F;subst J
     go_wp2_with fail
     refine yj (DI _) ?_;rintro e w2 ⟨rfl,F⟩;have J:=F.symm;clear F;subst J;have c3:=a5.out _ O.out
     go_wp2_with fail
     go_ret;exact⟨rfl,M.out⟩
   ·rw[yH h2] at DI;have e:goE L q o=2:=(by unfold goE;rw[yd (yL h1),ye h2]);rw[e];clear e h1 R hc hh h2;obtain⟨n,hn⟩:∃ n,L.length=n:=⟨_,rfl⟩;rw[hn] at hN D T hq a6 |-;clear hn
    go_enter func157,ntmps157
    go_wp2_with fail
    refine yj D.out ?_;rintro e w1 ⟨rfl,I⟩;have M:Hid (Bl w w1):=I;have O:Hid (aS w1 a L):=HL.below I;clear I
    go_wp2_with fail
    refine yj (T _ O.out) ?_;rintro e w2 ⟨rfl,F⟩;have J:=F.symm;clear F;subst J
    go_wp2_with fail
    refine yj (DI _) ?_;rintro e w2 ⟨rfl,F⟩;have J:=F.symm;clear F;subst J
    go_wp2_with fail
    go_ret;exact⟨rfl,M.out⟩
  ·have h1:dR L k=bC L k:=(by unfold dR;rw[ye hc]);have e:goE L k o=bC L k:=(by unfold goE;rw[h1,ye hh]);rw[e];rw[hc] at D;have e2:decide (bC L k=0)=false:=yH hh;have e3:(bC L k == 0)=false:=(by simp[hh]);clear e h1 hc;generalize bC L k=E at *;obtain⟨n,hn⟩:∃ n,L.length=n:=⟨_,rfl⟩;rw[hn] at hN D T |-;clear hn hh
   go_enter func157,ntmps157
   go_wp2_with fail
   refine yj D.out ?_;rintro e w1 ⟨rfl,I⟩;have M:Hid (Bl w w1):=I;have O:Hid (aS w1 a L):=HL.below I;clear I
   go_wp2_with fail
   refine yj (T _ O.out) ?_;rintro e w2 ⟨rfl,F⟩;have J:=F.symm;clear F;subst J
   go_wp2_with fail
   go_ret;exact⟨rfl,M.out⟩
 ·have h1:dR L k=bS L:=by unfold dR;rw[yd hc]
  have e:goE L k o=bS L:=by unfold goE;rw[h1,ye hc]
  rw[e];have e2:decide (bS L=0)=false:=yH hc;have e3:(bS L == 0)=false:=by simp[hc]
  clear e h1;generalize bS L=E at *;obtain⟨n,hn⟩:∃ n,L.length=n:=⟨_,rfl⟩;rw[hn] at hN D T |-;clear hn hc
  go_enter func157,ntmps157
  go_wp2_with fail
  refine yj D.out ?_;rintro e w1 ⟨rfl,I⟩;have M:Hid (Bl w w1):=I;clear I
  go_wp2_with fail
  go_ret;exact⟨rfl,M.out⟩
theorem Xf(a:OA)(c:Nat)(L:List Fr)(k o:Int)(w:Wd)(O:L.length<=9223372036854775807)(M:aS w a L)(J:goE L k o≠0) :
  yO 141 #[.slice a L.length c,.int .i64 k,.int .i64 o] w fun e w' => e=.returned (.tuple #[.slice none 0 0,.int .i64 (goE L k o)])/\Below w.heap.size w w' := by
 have D:Hid _:=ZJ a c L k o w O M;have T:decide (goE L k o=0)=false:=yH J;have U:(goE L k o == 0)=false:=by simp[J]
 clear M;generalize goE L k o=E at *;generalize L.length=n at *
 go_enter func141,ntmps141
 go_wp2_with fail
 refine yj D.out ?_;rintro e w1 ⟨rfl,F⟩;have I:Hid (Bl w w1):=F;clear F
 go_wp2_with fail
 exact yz (v:=.tuple #[.slice none 0 0,.int .i64 E]) (by simp[results,results141,go_sem]) rfl ⟨rfl,I.out⟩
def goG(L:List Fr)(k:Nat)(i:Nat):List Fr:=(List.range L.length).map fun j=>if j<i/\j≠k then { fr L j with g:=(fr L j).g || inF L j k } else fr L j
theorem Xg(L:List Fr)(k i:Nat):(goG L k i).length=L.length:=by unfold goG;simp
theorem qX{j:Nat}(h:j<L.length):fr (goG L k i) j=if j<i/\j≠k then { fr L j with g:=(fr L j).g || inF L j k } else fr L j:=by
 rw[rZ (by rw[Xg];exact h)];unfold goG;simp
theorem Xh(h:bW w g L.length L):bW w g L.length (goG L k 0):=by
 obtain⟨F,h1,D⟩:=h;exact⟨F,h1,fun m E=>(D m E).trans (DZ (by rw[qX oaa,yd oaa]))⟩
theorem Xi(h:bW w g L.length (goG L k i))(hi:i<L.length)(D:i=k\/inF L i k=false):bW w g L.length (goG L k (i+1)):=by
 obtain⟨F,h1,I⟩:=h;refine⟨F,h1,fun m J=>(I m J).trans (DZ ?_)⟩;rw[qX oaa,qX oaa];by_cases e:m / 5=i
 ·rw[e,yd oaa];rcases D with D|D
  ·rw[yd oaa]
  ·by_cases M:i=k
   ·rw[yd oaa]
   ·rw[ye oaa,D,Bool.or_false]
 ·by_cases E:m / 5<i/\m / 5≠k
  ·rw[ye E,ye oaa]
  ·rw[yd E,yd oaa]
theorem Xj(h:bW w g L.length (goG L k i))(hi:i<L.length)(T:i≠k)(E:inF L i k=true):bW (w.setCell ⟨g,i*5+4,none⟩ (.bool true)) g L.length (goG L k (i+1)):=by
 obtain⟨F,h1,M⟩:=h;refine⟨_,h1.set (i*5+4) (.bool true),fun m O=>?_⟩;by_cases e:m=i*5+4
 ·subst e;rw[ye rfl,jT _ _ 4 oaa,qX hi,ye oaa,E,Bool.or_true];rfl
 ·rw[yd e,M m O];unfold frF;rw[qX oaa,qX oaa];by_cases J:m / 5=i
  ·rw[J,yd oaa,ye oaa];have D:m % 5=0\/m % 5=1\/m % 5=2\/m % 5=3:=oaa;rcases D with D|D|D|D <;> rw[D] <;> rfl
  ·by_cases I:m / 5<i/\m / 5≠k
   ·rw[ye I,ye oaa]
   ·rw[yd I,yd oaa]
theorem Xk{o:Int}(h:bW w g L.length (goG L k L.length))(E:k<L.length) :
  bW ((w.setCell ⟨g,k*5+1,none⟩ (.int .i64 o)).setCell ⟨g,k*5+3,none⟩ (.int .i64 ((fr L k).t+1))) g L.length (goF L k o):=by
 obtain⟨F,h1,M⟩:=h;refine⟨_,(h1.set (k*5+1) (.int .i64 o)).set (k*5+3) (.int .i64 ((fr L k).t+1)),fun m O=>?_⟩;by_cases e:m=k*5+3
 ·subst e;rw[ye rfl,jT _ _ 3 oaa,qL E];rfl
 ·rw[yd e];by_cases I:m=k*5+1
  ·subst I;rw[ye rfl,jT _ _ 1 oaa,qL E];rfl
  ·rw[yd I,M m O];unfold frF;rw[qX oaa];by_cases J:m / 5=k
   ·rw[J,yd oaa,qL E];have D:m % 5=0\/m % 5=2\/m % 5=4:=oaa;rcases D with D|D|D <;> rw[D] <;> rfl
   ·rw[ye oaa,nW oaa J]
theorem go_ok(a:OA)(c:Nat)(L:List Fr)(k o:Int)(w:Wd)(hL:aS w a L)(hE:goE L k o=0) :
  yO 141 #[.slice a L.length c,.int .i64 k,.int .i64 o] w fun e w' => ∃ g,e=.returned (.tuple #[.slice (some ⟨g,0,none⟩) L.length L.length,.int .i64 0])/\Below w.heap.size w w' /\ w.heap.size<=g/\aS w' (some ⟨g,0,none⟩) (goF L k o):=by
 obtain⟨hh,ho,ht⟩:=VA hE;obtain⟨R,q,rfl,hq,hg⟩:=xX hh;have hN:=R.few;have d:=ZJ a c L q o w oaa hL;rw[hE] at d;have D:Hid _:=d;have HL:Hid (aS w a L):=hL;have e2:0<=(fr L q).t/\(fr L q).t<=1000:=(pF.1 (R.ok q hq)).2.1.2.2;obtain⟨b,ao,ea,c0,c1,c2,c3,c4⟩:=hL q hq;subst ea;clear c0 c1 c2 c3 c4 hg hE R d hL ho ht hh;have DW:Hid (∀ (i:Nat) (W:Wd),aS W (some ⟨b,ao,none⟩) L->_):=fun i W hW=>KG (some ⟨b,ao,none⟩) c L (i:Int) (q:Int) W oaa hW;obtain⟨i0,c9,e4,d6,e5⟩:=info_parts KI;have d5:=UW L.length oaa;have c6:Hid (∀ W,aS W (some ⟨b,ao,none⟩) L->∀ j v,(dW L)[j]?=some v->W.cell? ((⟨b,ao,none⟩:Addr).add j)=some v):=fun W hW=>hW.src;have b9:Hid _:=KQ L;have a9:Hid ((dW L).length=L.length*5):=xZ L;have CP:Hid (∀ (W:Wd) (g:Nat),W.heap[g]?=some (.cells (dW L++(madeCells lG (L.length*5)).toList.drop (dW L).length).toArray 65 (0,0))->bW W g L.length (goG L q 0)):=fun W g hg=>Xh (by obtain⟨F,h1,U⟩:=UX hg (yr _);exact⟨F,h1,U⟩);have b4:Hid (∀ (W:Wd) (g i:Nat),bW W g L.length (goG L q i)->i<L.length->i≠q->inF L i q=true->bW (W.setCell ⟨g,i*5+4,none⟩ (.bool true)) g L.length (goG L q (i+1))):=fun W g i h1 U h3 h4=>Xj h1 U h3 h4;have NO:Hid (∀ (W:Wd) (g i:Nat),bW W g L.length (goG L q i)->i<L.length->(i=q\/inF L i q=false)->bW W g L.length (goG L q (i+1))):=fun W g i h1 U h3=>Xi h1 U h3
 have b2:Hid (∀ (W:Wd) (g:Nat),bW W g L.length (goG L q L.length)->aS ((W.setCell ⟨g,q*5+1,none⟩ (.int .i64 o)).setCell ⟨g,q*5+3,none⟩ (.int .i64 ((fr L q).t+1))) (some ⟨g,0,none⟩) (goF L q o)):=fun W g h=>by
  obtain⟨F,h1,U⟩:=Xk (o:=o) h hq;exact KP h1 (by rw[nV];exact yr _) (fun m hm=>U m (by rw[nV] at hm;exact hm))
 have I:Hid (∀ (W:Wd) (g i j:Nat) (M:List Fr),j<5->bW W g L.length M->i<L.length->(∃ u,W.cell? ⟨g,i*5+j,none⟩=some u)/\(∀ o,W.frozen? ⟨g,o,none⟩=false)/\g<W.heap.size):=fun W g i j M hj ⟨F,h1,U⟩ hi=>⟨⟨_,h1.cell oaa⟩,h1.frozen,h1.lt⟩
 have a6:Hid (∀ (W:Wd) (g:Nat),bW W g L.length (goG L q L.length)->W.cell? ⟨g,q*5+3,none⟩=some (.int .i64 (fr L q).t)):=fun W g ⟨F,h1,U⟩=>by
  rw[h1.cell oaa,U _ oaa,jT _ _ 3 oaa,qX hq,yd oaa];rfl
 generalize dW L=cs at *;generalize goF L q o=DF at *;generalize (fr L q).t=t at *;have e3:IntKind.i64.wrap (t+1)=t+1:=by rw[yK];omega
 obtain⟨n,hn⟩:∃ n,L.length=n:=⟨_,rfl⟩;have HN:Hid (L.length=n):=hn;rw[hn] at hN hq D DW d5 a9 CP b4 NO b2 I a6 |-;clear hn;have e1:(q:Int)<(n:Int):=oaa
 go_enter func141,ntmps141
 go_wp2_with fail
 refine yj D.out ?_;rintro e w1 ⟨rfl,b0⟩;have a8:Hid (Bl w w1):=b0;have b3:Hid (aS w1 (some ⟨b,ao,none⟩) L):=HL.below b0;clear b0
 have HG:Hid ((w1.alloc (.cells (madeCells lG (n*5)) 65)).heap[w1.heap.size]?=some (.cells (madeCells lG (n*5)).toList.toArray 65 (0,0))):=by
  have:=yN w1 (.cells (madeCells lG (n*5)) 65);show _=_;simpa using this
 go_wp2_with (refine KH rfl (.tmp 21) (.tmp 22) 22 22 rfl 65 i0 underlying22 c9 w1.heap.size 0 n n ⟨b,ao,none⟩ n c n ?hd ?hs (madeCells lG (n*5)).toList 65 ?hg cs ?hn ?hl ?hsrc ?hfit ?h1 ?_)
 case hd=>rfl
 case hs=>rfl
 case hg=>exact HG.out
 case hn=>show n=min n n;omega
 case hl=>rw[a9.out,d6]
 case hsrc=>exact c6.out _ (b3.below (aB _ _))
 case hfit=>rw[a9.out];simp[size_madeCells]
 case h1=>exact b9.out
 intro w3 b6 b5;have b7:Hid (Bl w1 w3):=b5 _ _ (aB w1 _) (yr _);have HR:Hid (bW w3 w1.heap.size n (goG L q 0)):=CP.out w3 _ b6;clear b6 b5 HG
 go_wp2_with fail
 go_loopg [26] n (fun g s26 wr=>∃ i:Nat,i<=n/\n-i<=g/\s26=.int .i64 i/\Hid (Bl w1 wr)/\Hid (bW wr w1.heap.size n (goG L q i)))
 case atStart=>exact⟨0,oaa,oaa,rfl,b7,HR⟩
 case round =>
  obtain⟨i,hi,hg,rfl,J,E⟩:=hrel;clear HR;by_cases a5:i<n
  ·have e0:(i:Int)<(n:Int):=oaa;have DI:=DW.out i wr (b3.below J);obtain⟨⟨u,hu⟩,c7,c8⟩:=I.out wr _ i 4 _ oaa E.out a5;by_cases Z:i=q
   ·have O:Hid _:=NO.out wr _ i E.out a5 (Or.inl Z);subst Z;clear DI
    go_wp2_with fail
    go_roundg (n-(i+1))
    case measure=>omega
    case rel=>exact⟨i+1,oaa,oaa,by go_num,J,O⟩
   ·have d7:decide ((i:Int)=(q:Int))=false:=yH oaa;have d8:((i:Int) ==(q:Int))=false:=oab;have d9:decide (i=q)=false:=yH Z
    cases hin:inF L (i:Int) (q:Int) with
    | true =>
     rw[hin] at DI;have a7:Hid _:=DI;have O:Hid _:=b4.out wr _ i E.out a5 Z hin;clear hin DI
     go_wp2_with fail
     refine yj a7.out ?_;rintro e w4 ⟨rfl,T⟩;have b1:=T.symm;clear T;subst b1
     go_wp2_with fail
     go_roundg (n-(i+1))
     case measure=>omega
     case rel=>exact⟨i+1,oaa,oaa,by go_num,J.setCell (yr _) _,O⟩
    | false =>
     rw[hin] at DI;have a7:Hid _:=DI;have O:Hid _:=NO.out wr _ i E.out a5 (Or.inr hin);clear hin DI
     go_wp2_with fail
     refine yj a7.out ?_;rintro e w4 ⟨rfl,T⟩;have b1:=T.symm;clear T;subst b1
     go_wp2_with fail
     go_roundg (n-(i+1))
     case measure=>omega
     case rel=>exact⟨i+1,oaa,oaa,by go_num,J,O⟩
  ·have d4:i=n:=oaa;subst d4;have HF:Hid _:=b2.out wr _ E.out;have ct:=a6.out wr _ E.out;obtain⟨⟨u,hu⟩,c7,c8⟩:=I.out wr _ q 1 _ oaa E.out hq;have b8:Hid (Bl w1 ((wr.setCell ⟨w1.heap.size,q*5+1,none⟩ (.int .i64 o)).setCell ⟨w1.heap.size,q*5+3,none⟩ (.int .i64 (t+1)))):=(J.setCell (yr _) _).setCell (yr _) _;clear E
   go_wp2_with fail
   exact yz (v:=.tuple #[.slice (some ⟨w1.heap.size,0,none⟩) i i,.int .i64 0]) (by simp[results,results141,go_sem]) rfl ⟨_,rfl,a8.trans (b8.mono a8.size),a8.size,HF.out⟩
theorem NZ(x:Ac)(w:Wd):yO 113 #[acV x] w fun e w' => e=.returned (.int .i64 x.a)/\Below w.heap.size w w' := by
 obtain⟨I,D,E,F,J⟩:=x;show yO _ #[.agg #[.int .i64 I,.int .i64 D,.int .i64 E,.int .i64 F,.int .i64 J]] w _
 go_enter func113,ntmps113
 go_wp2
 go_ret;exact⟨rfl,aB _ _⟩
theorem OD(x:Ac)(w:Wd):yO 111 #[acV x] w fun e w' => e=.returned (.int .i64 x.n)/\Below w.heap.size w w' := by
 obtain⟨I,D,E,F,J⟩:=x;show yO _ #[.agg #[.int .i64 I,.int .i64 D,.int .i64 E,.int .i64 F,.int .i64 J]] w _
 go_enter func111,ntmps111
 go_wp2
 go_ret;exact⟨rfl,aB _ _⟩
theorem Xl(K1 K2 c1 c2 c3:Nat)(J:Array Value)(D t:Int)(b4:∀ args w,(callFunc K1 args).run prog w=.ok (.enter K1 args) w)(b5:∀ args w,(callFunc K2 args).run prog w=.ok (.enter K2 args) w)(me:Nat)(W:Wl)(x:Ac)(hw:(Lit.int .i64 D).wf=true)(h1:∀ V,yO K1 #[acV x] V fun e w' => e=.returned (.int .i64 t)/\Below V.heap.size V w')(C:World->Prop)(hC:∀ V V', C V->Bl V V' -> C V')(q:Ws)(h2:bG W.fs me t D=0->lV K2 J C me W x q) :
  lV 136 #[.pointer (some ⟨c1,0,none⟩),.pointer (some ⟨c2,0,none⟩),.pointer (some ⟨c3,0,none⟩)] (fun V=>V.cell? ⟨c1,0,none⟩=some (.func (.func K1) #[] #[])/\V.cell? ⟨c2,0,none⟩=some (.int .i64 D)/\V.cell? ⟨c3,0,none⟩=some (.func (.func K2) #[] J)/\C V) me W x (if bG W.fs me t D=0 then q else ⟨bG W.fs me t D,W,0⟩):=fun w0 d s V I ⟨v1,v2,v3,v4⟩=>by
 obtain⟨xk,xa,xb,xc,xn⟩:=x;have II:Hid (SW w0 d me W s V):=I;have b0:=I.lt;have b3:Hid _:=b0;obtain⟨l0,l1,l2,l3,l4,lf,ll⟩:=bH I.box;have d5:d<V.heap.size:=ll;have n8:W.fs.length<=8:=I.rt.fs.few;have d9:me<W.fs.length:=I.sf;clear b0;show yO _ #[.pointer (some ⟨d,0,none⟩),.int .i64 (me:Int),.agg #[.int .i64 xk,.int .i64 xa,.int .i64 xb,.int .i64 xc,.int .i64 xn],.pointer (some ⟨c1,0,none⟩),.pointer (some ⟨c2,0,none⟩),.pointer (some ⟨c3,0,none⟩)] V _;have D1:Hid (∀ V,Calls _ _ _ _ _):=h1;have D2:Hid (∀ U,Bl V U->Calls _ _ _ _ _):=fun U hV=>Xb s.a0 s.c0 W.fs me t D U hw oaa (I.dp.fr.at.below hV);have HC:Hid (C V):=v4;have D3:Hid (bG W.fs me t D=0->∀ U,SW w0 d me W s U->C U->yO K2 (#[.pointer (some ⟨d,0,none⟩),.int .i64 (me:Int),.agg #[.int .i64 xk,.int .i64 xa,.int .i64 xb,.int .i64 xc,.int .i64 xn]] ++ J) U (gT w0 d me q)):=fun h U hV hc=>h2 h w0 d s U hV hc;dsimp only[acV] at D1;have d6:c1<V.heap.size:=yi _ _ v1;have d7:c2<V.heap.size:=yi _ _ v2;have d8:c3<V.heap.size:=yi _ _ v3;obtain⟨n,hn⟩:∃ n,W.fs.length=n:=⟨_,rfl⟩;have HN:Hid (W.fs.length=n):=hn;obtain⟨nt,a9⟩:∃ n,W.pt.length=n:=⟨_,rfl⟩;have b2:Hid (W.pt.length=nt):=a9;rw[hn] at l0 D2;clear hn a9 I h1 h2 v4 l1 l2 l3 l4;obtain⟨E,Z⟩:∃ E,bG W.fs me t D=E:=⟨_,rfl⟩;rw[Z] at D2 D3 |-;clear Z;obtain⟨qq,a5⟩:∃ qq:Ws,(if E=0 then q else ⟨E,W,0⟩)=qq:=⟨_,rfl⟩;have HQ:Hid (_=qq):=a5;rw[a5];clear a5
 go_enter func136,ntmps136
 go_upto_region 1 with fail
 obtain⟨V1,a6,T,y0,y1,y2,y3,y4,sV⟩:=lU V xk xa xb xc xn;rw[a6];clear a6;replace l0:=aA l0 T;replace v1:=aA v1 T;replace v2:=aA v2 T;replace v3:=aA v3 T
 go_region_held3 (fun F=>F.cell? ⟨d,0,none⟩=some (.slice s.a0 n s.c0)/\F.cell? ⟨c1,0,none⟩=some (.func (.func K1) #[] #[])/\F.cell? ⟨c2,0,none⟩=some (.int .i64 D)/\F.cell? ⟨V.heap.size,0,none⟩=some (.int .i64 xk)/\F.cell? ⟨V.heap.size,1,none⟩=some (.int .i64 xa)/\F.cell? ⟨V.heap.size,2,none⟩=some (.int .i64 xb)/\F.cell? ⟨V.heap.size,3,none⟩=some (.int .i64 xc)/\F.cell? ⟨V.heap.size,4,none⟩=some (.int .i64 xn)) (go_keep) (first|(go_at_fn K1;refine yj (D1 V1.drew) ?_;rintro e w3 ⟨rfl,a7⟩;have M:Hid (Bl V1 w3):=(yv _ _).drew.trans a7;have b6:=aA l0 M;have b7:=aA v1 M;have b8:=aA v2 M;have b9:=aA v3 M;have c6:=aA y0 M;have c7:=aA y1 M;have c8:=aA y2 M;have c9:=aA y3 M;have d4:=aA y4 M;clear a7)|(go_at_call 137;refine yj (D2 w3 (T.trans (M.mono T.size))) ?_;rintro e w4 ⟨rfl,a8⟩;have O:Hid (Bl V1 w4):=M.trans (a8.mono M.size);have e0:=aA l0 O;have e1:=aA v1 O;have e2:=aA v2 O;have e3:=aA v3 O;have e4:=aA y0 O;have e5:=aA y1 O;have e6:=aA y2 O;have e7:=aA y3 O;have e8:=aA y4 O;clear a8))
 have I4:Hid _:=II.below (T.trans (O.mono T.size));have C4:Hid (C w4):=hC _ _ HC.out (T.trans (O.mono T.size));by_cases Z:E=0
 ·subst Z;obtain rfl:=(ye rfl).symm.trans HQ;have D4:Hid _:=D3.out rfl w4 I4.out C4.out
  go_wp2_with (go_at_fn K2;refine yj D4.out ?_;rintro e w5 ⟨o,s', rfl,ho,b1⟩)
  have HO:Hid _:=ho;have HS:Hid _:=b1;exact yz (v:=.tuple #[.int .i64 o,.int .i64 q.e]) (by simp[results,results136,go_sem]) rfl ⟨o,s', rfl,HO.out,HS.out⟩
 ·obtain rfl:=(yd Z).symm.trans HQ;have hz:(E == 0)=false:=by simp[Z]
  go_wp2
  exact yz (v:=.tuple #[.int .i64 0,.int .i64 E]) (by simp[results,results136,go_sem]) rfl (gT.no I4.out Z)
theorem ZK{f t x:Int}(h:bG L f t x=0):dR L t=0:=by
 obtain⟨h1,_,D,_⟩:=kP h;unfold dR;simp[h1,D]
theorem ZM{X:Nat->Prop}(h:aS V (some ⟨g,0,none⟩) L)(E:¬ X g):St X (fun V=>aS V (some ⟨g,0,none⟩) L) V:=fun F D i hi=>by
 obtain⟨b,o,e,c0,c1,c2,c3,c4⟩:=h i hi;cases e;have hb:=D.block g (yi _ _ c0) E;exact⟨g,0,rfl,(yE hb).trans c0,(yE hb).trans c1,(yE hb).trans c2,(yE hb).trans c3,(yE hb).trans c4⟩
theorem Xm(me:Nat)(W:Wl)(x:Ac)(hm:bG W.fs me x.n 2=0):lV 112 #[] (fun _=>True) me W x ⟨0,W,(gM W.fs x.n:Nat)⟩:=fun w0 d s V I _=>by
 obtain⟨xk,xa,xb,xc,F⟩:=x;have II:Hid (SW w0 d me W s V):=I;have T:=I.lt;have a8:Hid _:=T;obtain⟨Z,l1,l2,l3,l4,lf,ll⟩:=bH I.box;have b1:d<V.heap.size:=ll;have n8:W.fs.length<=8:=I.rt.fs.few;have a5:me<W.fs.length:=I.sf;clear T;dsimp only at hm |-;have hh:dR W.fs F=0:=ZK hm;have D:Hid (∀ V2,Bl V V2->Calls _ _ _ _ _):=fun V2 hV=>Xe s.a0 s.c0 W.fs F V2 oaa (I.dp.fr.at.below hV);have e1:NW W.fs F=(gM W.fs F:Nat):=ye hh;rw[e1,hh] at D;clear e1 hh hm;show yO _ #[.pointer (some ⟨d,0,none⟩),.int .i64 (me:Int),.agg #[.int .i64 xk,.int .i64 xa,.int .i64 xb,.int .i64 xc,.int .i64 F]] V _;obtain⟨n,hn⟩:∃ n,W.fs.length=n:=⟨_,rfl⟩;have HN:Hid (W.fs.length=n):=hn;obtain⟨nt,J⟩:∃ n,W.pt.length=n:=⟨_,rfl⟩;have a7:Hid (W.pt.length=nt):=J;rw[J] at l4;rw[hn] at Z l1 l2 l3 n8 a5;rw[hn] at D;obtain⟨L,hL⟩:∃ L:Int,((gM W.fs F:Nat):Int)=L:=⟨_,rfl⟩;rw[hL] at D |-;clear hL;clear hn J I;have a6:(me:Int)<(n:Int):=oaa
 go_enter func112,ntmps112
 go_upto_region 1 with fail
 obtain⟨V1,M,E,y0,y1,y2,y3,y4,sV⟩:=lU V xk xa xb xc F;rw[M];clear M;replace Z:=aA Z E;replace l1:=aA l1 E;replace l2:=aA l2 E;replace l3:=aA l3 E;replace l4:=aA l4 E
 go_region_held3 (fun U=>U.cell? ⟨d,0,none⟩=some (.slice s.a0 n s.c0)/\U.cell? ⟨V.heap.size,4,none⟩=some (.int .i64 F)) (go_keep) (first|(go_at_call 138;refine yj (D V1.drew E.drew) ?_;rintro e w3 ⟨rfl,O⟩;have B3:Hid (Bl V1 w3):=(yv _ _).drew.trans O;have a9:=aA Z B3;have b0:=aA y4 B3;clear O))
 have I2:Hid _:=II.below (E.trans (B3.mono E.size))
 go_wp2
 exact yz (v:=.tuple #[.int .i64 L,.int .i64 0]) (by simp[results,results112,go_sem]) rfl (gT.ok I2.out)
theorem Xn(me:Nat)(W:Wl)(x:Ac)(hm:bG W.fs me x.n 4=0):lV 116 #[] (fun _=>True) me W x ⟨0,{ W with fs:=fV W.fs x.n },0⟩:=fun w0 d s V I _=>by
 obtain⟨xk,xa,xb,xc,J⟩:=x;have II:Hid (SW w0 d me W s V):=I;have a6:=I.lt;have a8:Hid _:=a6;obtain⟨l0,l1,l2,l3,l4,lf,ll⟩:=bH I.box;have b4:d<V.heap.size:=ll;have n8:W.fs.length<=8:=I.rt.fs.few;have a9:me<W.fs.length:=I.sf;clear a6;dsimp only at hm |-;have hh:dR W.fs J=0:=ZK hm;have D:Hid (∀ F,Bl V F->Calls _ _ _ _ _):=fun F hV=>Xd s.a0 s.c0 W.fs J F n8 (I.dp.fr.at.below hV) hh;have FS:Hid (∀ F g,SW w0 d me W s F->V.heap.size<=g->aS F (some ⟨g,0,none⟩) (fV W.fs J)->∃ s', SW w0 d me { W with fs:=fV W.fs J } s' (F.setCell ⟨d,0,none⟩ (.slice (some ⟨g,0,none⟩) W.fs.length W.fs.length))):=fun F g h2 hg hf=>⟨_,h2.frames (ZM hf (fun hb=>by have:=a8.out g hb;omega)) (mH _ _) (VY I.rt me J) (by rw[mH];exact⟨(fun e=>by cases e),yr _,oaa⟩)⟩;clear hh hm;show yO _ #[.pointer (some ⟨d,0,none⟩),.int .i64 (me:Int),.agg #[.int .i64 xk,.int .i64 xa,.int .i64 xb,.int .i64 xc,.int .i64 J]] V _;obtain⟨n,hn⟩:∃ n,W.fs.length=n:=⟨_,rfl⟩;have HN:Hid (W.fs.length=n):=hn;obtain⟨nt,M⟩:∃ n,W.pt.length=n:=⟨_,rfl⟩;have b1:Hid (W.pt.length=nt):=M;rw[M] at l4;rw[hn] at l0 l1 l2 l3 n8 a9;rw[hn] at D FS;clear hn M I;have b0:(me:Int)<(n:Int):=oaa
 go_enter func116,ntmps116
 go_upto_region 1 with fail
 obtain⟨V1,O,E,y0,y1,y2,y3,y4,sV⟩:=lU V xk xa xb xc J;rw[O];clear O;replace l0:=aA l0 E;replace l1:=aA l1 E;replace l2:=aA l2 E;replace l3:=aA l3 E;replace l4:=aA l4 E
 go_region_held3 (fun a7=>a7.cell? ⟨d,0,none⟩=some (.slice s.a0 n s.c0)/\a7.cell? ⟨V.heap.size,4,none⟩=some (.int .i64 J)) (go_keep) (first|(go_at_call 140;refine yj (D V1.drew E.drew) ?_;rintro e w3 ⟨g,rfl,T,Z,U⟩;have B3:Hid (Bl V1 w3):=(yv _ _).drew.trans T;have b2:=aA l0 B3;have b3:=aA y4 B3;have HG:Hid (V.heap.size<=g):=yJ E.size (show V1.heap.size<=g from Z);have HF:Hid _:=U;clear U Z;clear T))
 have I2:Hid _:=II.below (E.trans (B3.mono E.size));obtain⟨s', a5⟩:=FS.out w3 g I2.out HG.out HF.out;have HS:Hid _:=a5;obtain⟨b5,b6,b7,b8,b9,c6,c7⟩:=bH I2.box;clear a5 l0 l1 l2 l3 l4
 go_wp2
 exact yz (v:=.tuple #[.int .i64 0,.int .i64 0]) (by simp[results,results116,go_sem]) rfl (gT.ok HS.out)
theorem SW.fcell{D:W0}{s:SD}(I:SW D d me W s V)(hi:i<W.fs.length):∃ b o,s.a0=some ⟨b,o,none⟩/\V.cell? ⟨b,o+i*5+2,none⟩=some (.int .i64 (fr W.fs i).m)/\V.cell? ⟨b,o+i*5+3,none⟩=some (.int .i64 (fr W.fs i).t)/\b<V.heap.size:=by
 obtain⟨b,o,e,c0,c1,c2,c3,c4⟩:=I.dp.fr.at i hi;exact⟨b,o,e,c2,c3,yi _ _ c2⟩
theorem OE(W:Wl)(k:Nat):aL W (k:Int)=(fr W.fs k).t:=by unfold aL;rw[yk]
theorem SW.big{D:W0}{s:SD}(I:SW D d me W s V):W.pt.length<=9223372036854775807/\iH W.pt:=(qQ I.rt).2.2.2.2
theorem Xo(me:Nat)(W:Wl)(x:Ac):lV 118 #[] (fun _=>True) me W x (vI W me):=fun w0 d s V I _=>by
 have QI:=pV [fU W.pt (many W) me (aL W me)] W { W with pt:=bJ W.pt me (aL W me) } W.pt.length;rw[wB] at QI;change QIs (vI W me) _ _ _ _ at QI;obtain⟨xk,xa,xb,xc,xn⟩:=x;have II:Hid (SW w0 d me W s V):=I;have b3:=I.lt;have b5:Hid _:=b3;obtain⟨Z,l1,l2,l3,l4,lf,ll⟩:=bH I.box;have c9:d<V.heap.size:=ll;have n8:W.fs.length<=8:=I.rt.fs.few;have b9:me<W.fs.length:=I.sf;clear b3;obtain⟨fb,fo,ea,fm,ft,fl⟩:=I.fcell I.sf;rw[ea] at Z;have TN:=OE W me;obtain⟨F,b4⟩:∃ t,(fr W.fs me).t=t:=⟨_,rfl⟩;rw[b4] at ft TN;clear b4 ea;have a7:∀ J,Bl V J->∀ b,SX w0.heap.size d s b->b<J.heap.size:=fun J hV b hb=>yC (b5 b hb) hV.size;have M:=I.big;rw[TN] at QI;have D:Hid (∀ J,Bl V J->Calls _ _ _ _ _):=fun J hV=>Ry (SX w0.heap.size d s) s.a4 s.c4 W.pt (many W) me F J (a7 J hV) M.1 M.2 I.dp.pc (I.dp.pt.off (aC.of_below hV))
 have PS:Hid (fU W.pt (many W) me F=0->∀ J va vc,SW w0 d me W s J->bU (SX w0.heap.size d s) J va (jB W.pt (many W) me F)->SlA va (jB W.pt (many W) me F).length vc->∃ s', SW w0 d me { W with pt:=bJ W.pt me F } s' (J.setCell ⟨d,4,none⟩ (.slice va (jB W.pt (many W) me F).length vc))):=fun h J va vc h2 h3 h4=>by
  have e:jB W.pt (many W) me F=bJ W.pt me F:=ye h;rw[e] at h3 h4 |-;exact⟨_,h2.ports h3 (by have:=ER I.rt (k:=me) (by rw[TN];exact h);rw[TN] at this;exact this) h4⟩
 have ON:Hid (fU W.pt (many W) me F=0->mX W.pt (many W) me F=W.pt.length):=fun h=>ye h;have MN:Hid (many W=(W.fs.length:Int)):=rfl;clear a7 M;show yO _ #[.pointer (some ⟨d,0,none⟩),.int .i64 (me:Int),.agg #[.int .i64 xk,.int .i64 xa,.int .i64 xb,.int .i64 xc,.int .i64 xn]] V _;obtain⟨n,hn⟩:∃ n,W.fs.length=n:=⟨_,rfl⟩;have HN:Hid (W.fs.length=n):=hn;obtain⟨nt,T⟩:∃ n,W.pt.length=n:=⟨_,rfl⟩;have c7:Hid (W.pt.length=nt):=T;rw[T] at l4 D;rw[hn] at Z l1 l2 l3 n8 b9;rw[show many W=(n:Int) from by rw[<- hn];rfl] at D PS ON QI;generalize fU W.pt n me F=E at *;generalize jB W.pt n me F=L at *;generalize mX W.pt n me F=a5 at *;generalize vI W me=q at *;obtain⟨qe,qw,qo⟩:=q;obtain⟨b0,Q0,Q1⟩:=QI;dsimp only at b0 Q0 Q1 |-;subst b0;have Q0:Hid _:=Q0;have Q1:Hid _:=Q1;clear hn T I;have c6:(me:Int)<(n:Int):=oaa
 go_enter func118,ntmps118
 go_upto_region 1 with fail
 obtain⟨V1,a6,O,y0,y1,y2,y3,y4,sV⟩:=lU V xk xa xb xc xn;rw[a6];clear a6;replace Z:=aA Z O;replace l1:=aA l1 O;replace l2:=aA l2 O;replace l3:=aA l3 O;replace l4:=aA l4 O;replace ft:=aA ft O;have d4:fb<V1.heap.size:=oaa
 go_region_held3 (fun U=>U.cell? ⟨d,0,none⟩=some (.slice (some ⟨fb,fo,none⟩) n s.c0)/\U.cell? ⟨d,4,none⟩=some (.slice s.a4 nt s.c4)/\U.cell? ⟨fb,fo+me*5+3,none⟩=some (.int .i64 F)) (go_keep) (first|(go_at_call 142;refine yj (D V1.drew O.drew) ?_;rintro e w3 ⟨va,vc,rfl,a8,b2,a9⟩;have B3:Hid (Bl V1 w3):=(yv _ _).drew.trans a8;have b7:=aA Z B3;have b8:=aA l4 B3;have c8:=aA ft B3;have b6:Hid _:=b2;have HP:Hid _:=a9;clear a8 b2 a9))
 have I2:Hid _:=II.below (O.trans (B3.mono O.size));obtain⟨d5,d6,d7,d8,d9,e0,e1⟩:=bH I2.box;clear Z l1 l2 l3 l4 b7 b8;by_cases hE:qe=0
 ·subst hE;obtain⟨rfl,rfl⟩:=Q0.out rfl;obtain⟨s', b1⟩:=PS.out rfl w3 va vc I2.out HP.out b6.out;have HS:Hid _:=b1;have HO:Hid (a5=(W.pt.length:Int)):=ON.out rfl;clear b1
  go_wp2
  refine yz (v:=.tuple #[.int .i64 a5,.int .i64 0]) (by simp[results,results118,go_sem]) rfl ?_;rw[HO.out];exact gT.ok HS.out
 ·obtain rfl:=Q1.out hE;have hz:(qe == 0)=false:=by simp[hE]
  go_wp2
  exact yz (v:=.tuple #[.int .i64 0,.int .i64 qe]) (by simp[results,results118,go_sem]) rfl (gT.no I2.out hE)
def oD(F:W0)(d me:Nat)(W O:Wl)(E:Int)(L:List Pt)(g1:Nat)(J:Wd)(e:Ending)(V:Wd):Prop:=∃ (D:OA) (I:Nat) (M:List Pt) (s:SD),e=.returned (.tuple #[.slice D M.length I,.int .i64 E])/\aC (fun b=>b=g1) J V/\(E=0->M=L/\SW F d me O s V/\bU (SX F.heap.size d s) V D L/\SlA D L.length I)/\(E≠0->SW F d me W s V)
def PBy(K:Nat)(me:Nat)(W:Wl)(x:Ac)(F:Wl)(E:Int)(L:List Pt):Prop:=∀ (D:W0) (d:Nat) (s:SD) (V:Wd),SW D d me W s V ->
 yO K #[.pointer (some ⟨d,0,none⟩),.int .i64 (me:Int),.int .i64 (aL W me),acV x] V (oD D d me W F E L s.g1 V)
theorem qY{W D:Wd}(h:W.cell? ⟨b,o,none⟩=some v)(E:aC (fun x=>x=g) W D)(hg:b≠g):D.cell? ⟨b,o,none⟩=some v:=(yE (E.block b (yi _ _ h) hg)).trans h
theorem SW.no_row{J:W0}{s:SD}(I:SW J d me W s V)(h:V.cell? ⟨b,o,none⟩=some v)(hv:∀ a n c,v≠.slice a n c):b≠s.g1:=fun e=>by
 subst e;obtain⟨c,hc,hl,F⟩:=I.r1;simp only[World.cell?,hc] at h
 have D:o<W.fs.length*4:=by
  rcases Nat.lt_or_ge o (W.fs.length*4) with E|E
  ·exact E
  ·rw[Array.getElem?_eq_none oaa] at h;cases h
 rw[F o D] at h;have e:=Option.some.inj h;unfold jW at e
 split at e
 ·exact hv _ _ _ e.symm
 ·split at e
  ·exact hv _ _ _ e.symm
  ·split at e
   ·exact hv _ _ _ e.symm
   ·exact hv _ _ _ e.symm
theorem GU(K cb:Nat)(eg:∀ args w,(callFunc K args).run prog w=.ok (.enter K args) w)(me:Nat)(W:Wl)(x:Ac)(W1:Wl)(E:Int)(L:List Pt)(hK:PBy K me W x W1 E L)(hR:E=0->aI { W1 with pt:=L })(q:Ws)(QI:QIs q E W { W1 with pt:=L } 0) :
  lV 143 #[.pointer (some ⟨cb,0,none⟩)] (fun V=>V.cell? ⟨cb,0,none⟩=some (.func (.func K) #[] #[])) me W x q:=fun w0 d s V I v1=>by
 obtain⟨xk,xa,xb,xc,xn⟩:=x;have II:Hid (SW w0 d me W s V):=I;have a9:=I.lt;have b7:Hid _:=a9;obtain⟨l0,l1,l2,l3,l4,lf,ll⟩:=bH I.box;have d7:d<V.heap.size:=ll;have n8:W.fs.length<=8:=I.rt.fs.few;have b1:me<W.fs.length:=I.sf;clear a9;obtain⟨fb,fo,ea,fm,ft,fl⟩:=I.fcell I.sf;rw[ea] at l0;have TN:=OE W me;obtain⟨tn,b0⟩:∃ t,(fr W.fs me).t=t:=⟨_,rfl⟩;rw[b0] at ft TN;clear b0 ea;have D:Hid (∀ V2,Bl V V2->Calls _ _ _ _ _):=fun V2 hV=>hK w0 d s V2 (I.below hV);dsimp only[acV] at D;rw[TN] at D;have RR:Hid _:=hR;have b2:d≠s.g1:=I.ap.d1;have b3:fb≠s.g1:=I.no_row ft (fun _ _ _ h=>oah);have b4:cb≠s.g1:=I.no_row v1 (fun _ _ _ h=>oah);have J:V.heap.size≠s.g1:=Nat.ne_of_gt I.r1.lt;clear hK hR;show yO _ #[.pointer (some ⟨d,0,none⟩),.int .i64 (me:Int),.agg #[.int .i64 xk,.int .i64 xa,.int .i64 xb,.int .i64 xc,.int .i64 xn],.pointer (some ⟨cb,0,none⟩)] V _;obtain⟨n,hn⟩:∃ n,W.fs.length=n:=⟨_,rfl⟩;have HN:Hid (W.fs.length=n):=hn;obtain⟨nt,U⟩:∃ n,W.pt.length=n:=⟨_,rfl⟩;have b6:Hid (W.pt.length=nt):=U;rw[U] at l4;rw[hn] at l0 l1 l2 l3 n8 b1;obtain⟨qe,qw,qo⟩:=q;obtain⟨a7,Q0,Q1⟩:=QI;dsimp only at a7 Q0 Q1 |-;subst a7;have Q0:Hid _:=Q0;have Q1:Hid _:=Q1;clear hn U I;have b5:(me:Int)<(n:Int):=oaa
 have d6:cb<V.heap.size:=yi _ _ v1
 go_enter func143,ntmps143
 go_upto_region 1 with fail
 obtain⟨V1,a5,O,y0,y1,y2,y3,y4,sV⟩:=lU V xk xa xb xc xn;rw[a5];clear a5;replace l0:=aA l0 O;replace l1:=aA l1 O;replace l2:=aA l2 O;replace l3:=aA l3 O;replace l4:=aA l4 O;replace ft:=aA ft O;replace v1:=aA v1 O;have d8:fb<V1.heap.size:=oaa
 go_region_held3 (fun F=>F.cell? ⟨d,0,none⟩=some (.slice (some ⟨fb,fo,none⟩) n s.c0)/\F.cell? ⟨V.heap.size,0,none⟩=some (.int .i64 xk)/\F.cell? ⟨V.heap.size,1,none⟩=some (.int .i64 xa)/\F.cell? ⟨V.heap.size,2,none⟩=some (.int .i64 xb)/\F.cell? ⟨V.heap.size,3,none⟩=some (.int .i64 xc)/\F.cell? ⟨V.heap.size,4,none⟩=some (.int .i64 xn)/\F.cell? ⟨fb,fo+me*5+3,none⟩=some (.int .i64 tn)/\F.cell? ⟨cb,0,none⟩=some (.func (.func K) #[] #[])) (go_keep) (first|(go_at_fn K;refine yj (D V1.drew O.drew) ?_;rintro e w3 ⟨va,vc,M,s3,rfl,hx,h0,h1⟩;have T:Hid (aC (fun b=>b=s.g1) V1 w3):=⟨hx.size,hx.block⟩;have b9:=qY l0 T.out b2;have b8:=qY ft T.out b3;have c6:=qY v1 T.out b4;have c7:=qY y0 T.out J;have c8:=qY y1 T.out J;have c9:=qY y2 T.out J;have d4:=qY y3 T.out J;have d5:=qY y4 T.out J;clear hx;have H0:Hid _:=h0;have H1:Hid _:=h1;clear h0 h1))
 by_cases hE:qe=0
 ·subst hE;obtain⟨rfl,rfl⟩:=Q0.out rfl;obtain⟨rfl,Z,a6,a8⟩:=H0.out rfl;have HS:Hid _:=Z.ports a6 (RR rfl) a8;obtain⟨d9,e0,e1,e2,e3,e4,e5⟩:=bH Z.box;clear Z a6 a8 H0 H1 l0 l1 l2 l3 l4
  go_wp2
  exact yz (v:=.tuple #[.int .i64 0,.int .i64 0]) (by simp[results,results143,go_sem]) rfl (gT.ok HS.out)
 ·obtain rfl:=Q1.out hE;have HS:Hid _:=H1.out hE;have hz:(qe == 0)=false:=by simp[hE]
  go_wp2
  exact yz (v:=.tuple #[.int .i64 0,.int .i64 qe]) (by simp[results,results143,go_sem]) rfl (gT.no HS.out hE)
theorem ZP{a b:Int}:aQ [a,b]=if a=0 then b else a:=by
 show (if a=0 then (if b=0 then 0 else b) else a)=_;by_cases h:b=0
 ·rw[ye h,h]
 ·rw[yd h]
theorem Yk(me:Nat)(W:Wl)(x:Ac)(hm:bC W.fs x.a=0)(q:Ws)(QI:QIs q (aQ [if isH x.b then 0 else 4,aP (rlm W x.a.toNat).s (hd (rlm W x.a.toNat) x.b).1 (hd (rlm W x.a.toNat) x.b).2]) W W (nd (rlm W x.a.toNat).s (hd (rlm W x.a.toNat) x.b).1.toNat).m):lV 115 #[] (fun _=>True) me W x q:=fun w0 d s V I _=>by
 rw[ZP] at QI;obtain⟨xk,xa,xb,xc,xn⟩:=x;have II:Hid (SW w0 d me W s V):=I;have b6:=I.lt;have c9:Hid _:=b6;obtain⟨l0,l1,l2,l3,l4,lf,ll⟩:=bH I.box;have d7:d<V.heap.size:=ll;have n8:W.fs.length<=8:=I.rt.fs.few;have c6:me<W.fs.length:=I.sf;clear b6;obtain⟨qa,b4,a5,_⟩:=iV hm;dsimp only at b4 QI;subst b4;rw[yk] at QI;obtain⟨wf,hl,_,_⟩:=gI (I.rt.rs qa a5);obtain⟨k0,k1,k2,k3,kf,kl⟩:=I.rcells a5;have hw:=I.rat a5;have HW:Hid (aU V (s.R qa) (rlm W qa)):=hw;have D:Hid (∀ V2 P U,Bl V V2->Calls _ _ _ _ _):=fun V2 P U hV=>vK (rlm W qa).s P U (s.R qa).a0 (s.R qa).c0 V2 wf (hw.1.below hV)
 have HH:Hid (∀ p:Nat,p<16->∃ b o,(s.R qa).a1=some ⟨b,o,none⟩/\V.cell? ⟨b,o+p*2,none⟩=some (.int .i64 (hd (rlm W qa) p).1)/\V.cell? ⟨b,o+p*2+1,none⟩=some (.int .i64 (hd (rlm W qa) p).2)/\b<V.heap.size):=fun p hp=>by
  obtain⟨b,o,e,h1,h2⟩:=hw.2.1 p oaa;have e2:hd (rlm W qa) (p:Int)=(rlm W qa).hs.getD p (0,0):=by unfold hd;rw[yk]
  rw[e2];exact⟨b,o,e,h1,h2,yi _ _ h1⟩
 have DW:Hid (∀ V2,Calls _ _ _ _ _):=fun V2=>gU xb 0 15 V2;rw[hl] at k1;clear hw hm wf hl;show yO _ #[.pointer (some ⟨d,0,none⟩),.int .i64 (me:Int),.agg #[.int .i64 xk,.int .i64 qa,.int .i64 xb,.int .i64 xc,.int .i64 xn]] V _;obtain⟨n,hn⟩:∃ n,W.fs.length=n:=⟨_,rfl⟩;have HN:Hid (W.fs.length=n):=hn;obtain⟨nt,b0⟩:∃ n,W.pt.length=n:=⟨_,rfl⟩;have c8:Hid (W.pt.length=nt):=b0;rw[b0] at l4;rw[hn] at l0 l1 l2 l3 n8 c6 a5;clear hn b0 I;have c7:(me:Int)<(n:Int):=oaa
 have e0:(qa:Int)<(n:Int):=oaa
 obtain⟨r0,b5⟩:∃ n,(rlm W qa).s.length=n:=⟨_,rfl⟩;rw[b5] at D k0;clear b5;generalize (rlm W qa).i.length=r2 at *;generalize (rlm W qa).t.length=r3 at *;obtain⟨qe,qw,qo⟩:=q;obtain⟨a6,Q0,Q1⟩:=QI;dsimp only at a6 Q0 Q1 |-;rw[<- a6] at Q0 Q1;have Q0:Hid _:=Q0;have Q1:Hid _:=Q1;have a8:Hid _:=a6;clear a6
 go_enter func115,ntmps115
 go_upto_region 1 with fail
 obtain⟨M,b3,O,y0,y1,y2,y3,y4,sV⟩:=lU V xk qa xb xc xn;rw[b3];clear b3;replace l0:=aA l0 O;replace l1:=aA l1 O;replace l2:=aA l2 O;replace l3:=aA l3 O;replace l4:=aA l4 O;replace k0:=aA k0 O;replace k1:=aA k1 O;replace k2:=aA k2 O;replace k3:=aA k3 O;have n0:¬ M.heap.size=d:=oaa
 have o0:¬ d=M.heap.size:=oaa
 have n1:¬ M.heap.size=s.g1:=oaa
 have o1:¬ s.g1=M.heap.size:=oaa
 have n2:¬ M.heap.size=V.heap.size:=oaa
 have o2:¬ V.heap.size=M.heap.size:=oaa
 have e3:d<M.heap.size:=oaa
 have e4:s.g1<M.heap.size:=oaa
 go_cut [8] (fun s8 wx=>∃ (b:Nat),s8=.pointer (some ⟨b,0,none⟩)/\Hid (Bl M wx)/\Hid (wx.heap[b]?=some (.cells #[.slice (s.R qa).a0 r0 (s.R qa).c0,.slice (s.R qa).a1 16 (s.R qa).c1,.slice (s.R qa).a2 r2 (s.R qa).c2,.slice (s.R qa).a3 r3 (s.R qa).c3] 50 (0,0)))/\M.heap.size<=b)
 case first =>
  go_region
  go_wp2_with fail
  go_meet
  case rel=>exact⟨_,rfl,(aB M _).drew,mJ _ _ _ _ _ _,yr _⟩
 case rest =>
  obtain⟨b,rfl,HB,HX,d5⟩:=hcut;have BW:Hid (Bl V wc):=O.trans (HB.mono O.size);have I2:Hid _:=II.below BW;obtain⟨m0,m1,m2,m3,ml⟩:=NU HX.out;have a7:=aA y2 HB;have e8:V.heap.size<wc.heap.size:=yi _ _ a7;clear l0 l1 l2 l3 l4 k0 k1 k2 k3 n0 o0 n1 o1 n2 o2;by_cases J:isH xb
  ·obtain⟨p,rfl,hp⟩:=iJ J;have hq:=a8.out;rw[show (if isH (p:Int) then (0:Int) else 4)=0 from ye J,ye rfl] at hq;rw[show decide (0<=(p:Int)/\(p:Int)<=15)=true from yI J] at DW;clear a8;obtain⟨hb,ho,ea,u0,u1,ul⟩:=HH.out p hp;replace u0:=aA u0 BW;replace u1:=aA u1 BW;rw[ea] at m1;clear ea HH;generalize hd (rlm W qa) (p:Int)=hh at *;obtain⟨P,U⟩:=hh;dsimp only at u0 u1 hq Q0 Q1;have DD:Hid (∀ V2,Bl wc V2->Calls _ _ _ _ _):=fun V2 hV=>D.out V2 P U (BW.trans (hV.mono BW.size));clear D;rw[<- hq] at DD;have HQ:Hid _:=hq;clear hq J;have d8:(p:Int)<16:=oaa;have e1:hb<wc.heap.size:=yi _ _ u0
   go_upto_region 4 with (go_at_call 66;refine(DW _).mono ?_;rintro e w3 ⟨rfl,b1⟩;subst b1)
   have n1:¬ w3.heap.size=b:=oaa;have e5:¬ b=w3.heap.size:=oaa;have n2:¬ w3.heap.size=hb:=oaa;have e6:¬ hb=w3.heap.size:=oaa;have n3:¬ w3.heap.size=V.heap.size:=oaa;have e7:¬ V.heap.size=w3.heap.size:=oaa
   go_cut [9,10] (fun s9 s10 wx=>∃ (c:Nat) (mm pp:Int),s9=.pointer (some ⟨c,0,none⟩)/\s10=.int .i64 qe/\Hid (Bl w3 wx)/\wx.cell? ⟨c,3,none⟩=some (.int .i64 mm)/\wx.cell? ⟨c,4,none⟩=some (.int .i64 pp)/\w3.heap.size<=c/\Hid (qe=0->mm=(nd (rlm W qa).s P.toNat).m/\pp=(nd (rlm W qa).s P.toNat).p))
   case first =>
    go_region_held3 (fun Z=>Z.cell? ⟨b,0,none⟩=some (.slice (s.R qa).a0 r0 (s.R qa).c0)/\Z.cell? ⟨b,1,none⟩=some (.slice (some ⟨hb,ho,none⟩) 16 (s.R qa).c1)/\Z.cell? ⟨V.heap.size,2,none⟩=some (.int .i64 p)/\Z.cell? ⟨hb,ho+p*2,none⟩=some (.int .i64 P)/\Z.cell? ⟨hb,ho+p*2+1,none⟩=some (.int .i64 U)) (go_keep) (first|(go_at_call 14;refine yj (DD w3.drew (yv _ _).drew) ?_;rintro e w5 ⟨nx,ka,kl,kc,rfl,F,T,b2⟩;have E:Hid (Bl w3 w5):=(yv _ _).drew.trans F;have a9:Hid _:=T;have g0:=aA m0 E;have g1:=aA m1 E;have gy:=aA a7 E;have b8:=aA u0 E;have b9:=aA u1 E;clear F T b2)|(go_at_call 14;refine yj (DD (w3.alloc (.cells #[.bool false,.int .i64 0,.int .i64 0,.int .i64 0,.int .i64 0,.slice none 0 0,.int .i64 0,.bool false] 57)).drew (aB w3 _).drew) ?_;rintro e w5 ⟨nx,ka,kl,kc,rfl,F,T,b2⟩;have E:Hid (Bl w3 w5):=(aB w3 _).drew.trans (F.mono oac);have a9:Hid _:=T;have g0:=aA m0 E;have g1:=aA m1 E;have gy:=aA a7 E;have b8:=aA u0 E;have b9:=aA u1 E;have X3:Hid (w5.heap[w3.heap.size]?=some (.cells #[.bool false,.int .i64 0,.int .i64 0,.int .i64 0,.int .i64 0,.slice none 0 0,.int .i64 0,.bool false] 57 (0,0))):=aH (W:=(w3.alloc (.cells #[.bool false,.int .i64 0,.int .i64 0,.int .i64 0,.int .i64 0,.slice none 0 0,.int .i64 0,.bool false] 57)).drew) (yN w3 _) F;obtain⟨x0,x1,x2,x3,x4,x5,x6,x7,xf,xl⟩:=vW X3.out;clear F T b2))
    ·go_wp2_with fail
     go_meet
     case rel =>
      have r:=zP nx (.slice ka kl kc) 57 (yv w3.heap.size w3) E.out;exact⟨_,_,_,rfl,rfl,r.1,r.2.1,r.2.2.1,r.2.2.2,fun h=>by rw[a9.out h];exact⟨rfl,rfl⟩⟩
    ·go_wp2_with fail
     go_meet
     case rel =>
      have r:=zQ nx (.slice ka kl kc) (yv w3.heap.size w3) E.out X3.out;exact⟨_,_,_,rfl,rfl,r.1,r.2.1,r.2.2.1,r.2.2.2,fun h=>by rw[a9.out h];exact⟨rfl,rfl⟩⟩
   case rest =>
    obtain⟨c,mm,pp,rfl,rfl,b7,hm,d9,d6,HM⟩:=hcut;have I4:Hid _:=I2.below b7;have d4:c<wc.heap.size:=yi _ _ hm;clear m0 m1 m2 m3 u0 u1 a7
    go_wp2
    refine yz (v:=.tuple #[.int .i64 mm,.int .i64 qe]) (by simp[results,results115,go_sem]) rfl ?_;by_cases hE:qe=0
    ·obtain⟨h1,h2⟩:=Hid.out Q0 hE;subst hE;rw[(HM rfl).1,h1,h2];exact gT.ok I4.out
    ·rw[Hid.out Q1 hE];exact gT.no I4.out hE
  ·have hq:=a8.out;rw[show (if isH xb then (0:Int) else 4)=4 from yd J,yd oae] at hq;rw[show decide (0<=xb/\xb<=15)=false from yH J] at DW;subst hq;obtain rfl:=Hid.out Q1 oae;clear D HH
   go_wp2_with (go_at_call 66;refine(DW _).mono ?_;rintro e w3 ⟨rfl,b1⟩;subst b1)
   exact yz (v:=.tuple #[.int .i64 0,.int .i64 4]) (by simp[results,results115,go_sem]) rfl (gT.no I2.out oae)
