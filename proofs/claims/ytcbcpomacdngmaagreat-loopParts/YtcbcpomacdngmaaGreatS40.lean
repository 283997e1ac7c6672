/-
  x
-/
import Derived.Test.YtcbcpomacdngmaaGreatS39
namespace Go.Proofs.YtcbcpomacdngmaaGreat
set_option maxRecDepth 100000
set_option maxHeartbeats 4000000
set_option linter.unusedVariables false
open Go.RowKit Go.ChangeShapes Go.WideShapes
theorem ziX(a:Option Addr)(c:Nat)(L:List Fr)(k o:Int)(w:World)(hN:L.length<=9223372036854775807)(hL:zaP w a L) :
  yM 157 #[.slice a L.length c,.int .i64 k,.int .i64 o] w fun e w' => e=.returned (.int .i64 (goE L k o))/\Below w.heap.size w w' := by
 have D:Hid _:=zdZ a c L w hN hL;have U:Hid (∀ W,zaP W a L->_):=fun W hW=>zcB a c L k W hN hW;have DI:Hid (∀ W,_):=fun W=>zcC o 0 9 W;have HL:Hid (zaP w a L):=hL;clear hL;by_cases hc:zaN L=0
 ·by_cases hh:zaz L k=0
  ·have h1:zcv L k=0:=(by unfold zcv;rw[yb hc];exact hh);obtain⟨R,q,rfl,hq,_⟩:=zfm h1;rw[hc] at D;rw[hh] at U;have a6:(q:Int)<(L.length:Int):=(by omega);by_cases h2:0<=o/\o<=9
   ·rw[yG h2] at DI;have ht:(fr L q).t<=1000:=(zde.1 (R.ok q hq)).2.1.2.2.2
    have e:goE L q o=if (fr L q).t=1000 then 1 else 0:=by
     unfold goE;rw[ya (yJ h1),ya (yJ h2),yi];by_cases h3:(fr L q).t=1000
     ·rw[yb h3,yb (by omega)]
     ·rw[ya h3,ya (by omega)]
    rw[e]
    have HC:Hid (∀ W,zaP W a L->∃ b Z,a=some ⟨b,Z,none⟩/\W.cell? ⟨b,Z+q*5+3,none⟩=some (.int .i64 (fr L q).t)):=fun W hW=>by
     obtain⟨b,Z,ea,c0,c1,c2,c3,c4⟩:=hW q hq;exact⟨b,Z,ea,c3⟩
    obtain⟨b,Z,ea,_⟩:=HC.out w HL.out;subst ea
    have a5:Hid (∀ W,zaP W (some ⟨b,Z,none⟩) L->W.cell? ⟨b,Z+q*5+3,none⟩=some (.int .i64 (fr L q).t)):=fun W hW=>by
     obtain⟨b', a7,ea,c3⟩:=HC.out W hW;cases ea;exact c3
    clear e h1 R hc hh HC ht h2;generalize (fr L q).t=t at *;obtain⟨n,hn⟩:∃ n,L.length=n:=⟨_,rfl⟩;rw[hn] at hN D U hq a6 |-;clear hn;by_cases h3:t=1000
    ·rw[yb h3];subst h3
     go_enter Tryz.func157,Tryz.ntmps157
     go_wp2_with fail
     refine ye D.out ?_;rintro e T ⟨rfl,I⟩;have M:Hid (Below w.heap.size w T):=I;have O:Hid (zaP T (some ⟨b,Z,none⟩) L):=HL.out.below I;clear I
     go_wp2_with fail
     refine ye (U.out _ O.out) ?_;rintro e w2 ⟨rfl,F⟩;have J:=F.symm;clear F;subst J
     go_wp2_with fail
     refine ye (DI.out _) ?_;rintro e w2 ⟨rfl,F⟩;have J:=F.symm;clear F;subst J;have c3:=a5.out _ O.out
     go_wp2_with fail
     go_ret;exact⟨rfl,M.out⟩
    ·rw[ya h3];have h4:decide (t=1000)=false:=yF h3;have h5:(t == 1000)=false:=by simp[h3]
     go_enter Tryz.func157,Tryz.ntmps157
     go_wp2_with fail
     refine ye D.out ?_;rintro e T ⟨rfl,I⟩;have M:Hid (Below w.heap.size w T):=I;have O:Hid (zaP T (some ⟨b,Z,none⟩) L):=HL.out.below I;clear I
     go_wp2_with fail
     refine ye (U.out _ O.out) ?_;rintro e w2 ⟨rfl,F⟩;have J:=F.symm;clear F;subst J
     go_wp2_with fail
     refine ye (DI.out _) ?_;rintro e w2 ⟨rfl,F⟩;have J:=F.symm;clear F;subst J;have c3:=a5.out _ O.out
     go_wp2_with fail
     go_ret;exact⟨rfl,M.out⟩
   ·rw[yF h2] at DI;have e:goE L q o=2:=(by unfold goE;rw[ya (yJ h1),yb h2]);rw[e];clear e h1 R hc hh h2;obtain⟨n,hn⟩:∃ n,L.length=n:=⟨_,rfl⟩;rw[hn] at hN D U hq a6 |-;clear hn
    go_enter Tryz.func157,Tryz.ntmps157
    go_wp2_with fail
    refine ye D.out ?_;rintro e T ⟨rfl,I⟩;have M:Hid (Below w.heap.size w T):=I;have O:Hid (zaP T a L):=HL.out.below I;clear I
    go_wp2_with fail
    refine ye (U.out _ O.out) ?_;rintro e w2 ⟨rfl,F⟩;have J:=F.symm;clear F;subst J
    go_wp2_with fail
    refine ye (DI.out _) ?_;rintro e w2 ⟨rfl,F⟩;have J:=F.symm;clear F;subst J
    go_wp2_with fail
    go_ret;exact⟨rfl,M.out⟩
  ·have h1:zcv L k=zaz L k:=(by unfold zcv;rw[yb hc]);have e:goE L k o=zaz L k:=(by unfold goE;rw[h1,yb hh]);rw[e];rw[hc] at D;have e2:decide (zaz L k=0)=false:=yF hh;have e3:(zaz L k == 0)=false:=(by simp[hh]);clear e h1 hc;generalize zaz L k=E at *;obtain⟨n,hn⟩:∃ n,L.length=n:=⟨_,rfl⟩;rw[hn] at hN D U |-;clear hn hh
   go_enter Tryz.func157,Tryz.ntmps157
   go_wp2_with fail
   refine ye D.out ?_;rintro e T ⟨rfl,I⟩;have M:Hid (Below w.heap.size w T):=I;have O:Hid (zaP T a L):=HL.out.below I;clear I
   go_wp2_with fail
   refine ye (U.out _ O.out) ?_;rintro e w2 ⟨rfl,F⟩;have J:=F.symm;clear F;subst J
   go_wp2_with fail
   go_ret;exact⟨rfl,M.out⟩
 ·have h1:zcv L k=zaN L:=by unfold zcv;rw[ya hc]
  have e:goE L k o=zaN L:=by unfold goE;rw[h1,yb hc]
  rw[e];have e2:decide (zaN L=0)=false:=yF hc;have e3:(zaN L == 0)=false:=by simp[hc]
  clear e h1;generalize zaN L=E at *;obtain⟨n,hn⟩:∃ n,L.length=n:=⟨_,rfl⟩;rw[hn] at hN D U |-;clear hn hc
  go_enter Tryz.func157,Tryz.ntmps157
  go_wp2_with fail
  refine ye D.out ?_;rintro e T ⟨rfl,I⟩;have M:Hid (Below w.heap.size w T):=I;clear I
  go_wp2_with fail
  go_ret;exact⟨rfl,M.out⟩
theorem zzP(a:Option Addr)(c:Nat)(L:List Fr)(k o:Int)(w:World)(O:L.length<=9223372036854775807)(M:zaP w a L)(J:goE L k o≠0) :
  yM 141 #[.slice a L.length c,.int .i64 k,.int .i64 o] w fun e w' => e=.returned (.tuple #[.slice none 0 0,.int .i64 (goE L k o)])/\Below w.heap.size w w' := by
 have D:Hid _:=ziX a c L k o w O M;have U:decide (goE L k o=0)=false:=yF J;have Z:(goE L k o == 0)=false:=by simp[J]
 clear M;generalize goE L k o=E at *;generalize L.length=n at *
 go_enter Tryz.func141,Tryz.ntmps141
 go_wp2_with fail
 refine ye D.out ?_;rintro e T ⟨rfl,F⟩;have I:Hid (Below w.heap.size w T):=F;clear F
 go_wp2_with fail
 exact yw (v:=.tuple #[.slice none 0 0,.int .i64 E]) (by simp[results,Tryz.results141,go_sem]) rfl ⟨rfl,I.out⟩
def goG(L:List Fr)(k:Nat)(i:Nat):List Fr:=(List.range L.length).map fun j=>if j<i/\j≠k then { fr L j with g:=(fr L j).g || inF L j k } else fr L j
theorem zyx(L:List Fr)(k i:Nat):(goG L k i).length=L.length:=by unfold goG;simp
theorem zif{L:List Fr}{k i j:Nat}(h:j<L.length):fr (goG L k i) j=if j<i/\j≠k then { fr L j with g:=(fr L j).g || inF L j k } else fr L j:=by
 rw[zgo (by rw[zyx];exact h)];unfold goG;simp
theorem zoj{w:World}{g:Nat}{L:List Fr}{k:Nat}(h:zeX w g L.length L):zeX w g L.length (goG L k 0):=by
 obtain⟨F,h1,D⟩:=h;exact⟨F,h1,fun m E=>(D m E).trans (zgT (by rw[zif (by omega),ya (by omega)]))⟩
theorem zvY{w:World}{g i:Nat}{L:List Fr}{k:Nat}(h:zeX w g L.length (goG L k i))(hi:i<L.length)(D:i=k\/inF L i k=false):zeX w g L.length (goG L k (i+1)):=by
 obtain⟨F,h1,I⟩:=h;refine⟨F,h1,fun m J=>(I m J).trans (zgT ?_)⟩;rw[zif (by omega),zif (by omega)];by_cases e:m / 5=i
 ·rw[e,ya (by omega)];rcases D with D|D
  ·rw[ya (by omega)]
  ·by_cases M:i=k
   ·rw[ya (by omega)]
   ·rw[yb (by omega),D,Bool.or_false]
 ·by_cases E:m / 5<i/\m / 5≠k
  ·rw[yb E,yb (by omega)]
  ·rw[ya E,ya (by omega)]
theorem zth{w:World}{g i:Nat}{L:List Fr}{k:Nat}(h:zeX w g L.length (goG L k i))(hi:i<L.length)(T:i≠k)(E:inF L i k=true):zeX (w.setCell ⟨g,i*5+4,none⟩ (.bool true)) g L.length (goG L k (i+1)):=by
 obtain⟨F,h1,M⟩:=h;refine⟨_,h1.set (i*5+4) (.bool true),fun m O=>?_⟩;by_cases e:m=i*5+4
 ·subst e;rw[yb rfl,zdu _ _ 4 (by omega),zif hi,yb (by omega),E,Bool.or_true];rfl
 ·rw[ya e,M m O];unfold frF;rw[zif (by omega),zif (by omega)];by_cases J:m / 5=i
  ·rw[J,ya (by omega),yb (by omega)];have D:m % 5=0\/m % 5=1\/m % 5=2\/m % 5=3:=(by omega);rcases D with D|D|D|D <;> rw[D] <;> rfl
  ·by_cases I:m / 5<i/\m / 5≠k
   ·rw[yb I,yb (by omega)]
   ·rw[ya I,ya (by omega)]
theorem ztg{w:World}{g:Nat}{L:List Fr}{k:Nat}{o:Int}(h:zeX w g L.length (goG L k L.length))(E:k<L.length) :
  zeX ((w.setCell ⟨g,k*5+1,none⟩ (.int .i64 o)).setCell ⟨g,k*5+3,none⟩ (.int .i64 ((fr L k).t+1))) g L.length (goF L k o):=by
 obtain⟨F,h1,M⟩:=h;refine⟨_,(h1.set (k*5+1) (.int .i64 o)).set (k*5+3) (.int .i64 ((fr L k).t+1)),fun m O=>?_⟩;by_cases e:m=k*5+3
 ·subst e;rw[yb rfl,zdu _ _ 3 (by omega),zgq E];rfl
 ·rw[ya e];by_cases I:m=k*5+1
  ·subst I;rw[yb rfl,zdu _ _ 1 (by omega),zgq E];rfl
  ·rw[ya I,M m O];unfold frF;rw[zif (by omega)];by_cases J:m / 5=k
   ·rw[J,ya (by omega),zgq E];have D:m % 5=0\/m % 5=2\/m % 5=4:=(by omega);rcases D with D|D|D <;> rw[D] <;> rfl
   ·rw[yb (by omega),zdD (by omega) J]
theorem go_ok(a:Option Addr)(c:Nat)(L:List Fr)(k o:Int)(w:World)(hL:zaP w a L)(hE:goE L k o=0) :
  yM 141 #[.slice a L.length c,.int .i64 k,.int .i64 o] w fun e w' => ∃ g,e=.returned (.tuple #[.slice (some ⟨g,0,none⟩) L.length L.length,.int .i64 0])/\Below w.heap.size w w' /\ w.heap.size<=g/\zaP w' (some ⟨g,0,none⟩) (goF L k o):=by
 obtain⟨hh,ho,ht⟩:=ztj hE;obtain⟨R,q,rfl,hq,hg⟩:=zfm hh;have hN:=R.few;have d:=ziX a c L q o w (by omega) hL;rw[hE] at d;have D:Hid _:=d;have HL:Hid (zaP w a L):=hL;have e3:0<=(fr L q).t/\(fr L q).t<=1000:=(zde.1 (R.ok q hq)).2.1.2.2;obtain⟨b,ao,ea,c0,c1,c2,c3,c4⟩:=hL q hq;subst ea;clear c0 c1 c2 c3 c4 hg hE R d hL ho ht hh;have DW:Hid (∀ (i:Nat) (W:World),zaP W (some ⟨b,ao,none⟩) L->_):=fun i W hW=>zgp (some ⟨b,ao,none⟩) c L (i:Int) (q:Int) W (by omega) hW;obtain⟨i0,d4,e5,d7,e6⟩:=info_parts zjg;have d6:=zkP L.length (by omega);have c7:Hid (∀ W,zaP W (some ⟨b,ao,none⟩) L->∀ j v,(zbw L)[j]?=some v->W.cell? ((⟨b,ao,none⟩:Addr).add j)=some v):=fun W hW=>hW.src;have c6:Hid _:=zhz L;have b0:Hid ((zbw L).length=L.length*5):=zdY L;have CP:Hid (∀ (W:World) (g:Nat),W.heap[g]?=some (.cells (zbw L++(madeCells zex (L.length*5)).toList.drop (zbw L).length).toArray 65 (0,0))->zeX W g L.length (goG L q 0)):=fun W g hg=>zoj (by obtain⟨F,h1,Z⟩:=zkC hg (yj _);exact⟨F,h1,Z⟩);have b5:Hid (∀ (W:World) (g i:Nat),zeX W g L.length (goG L q i)->i<L.length->i≠q->inF L i q=true->zeX (W.setCell ⟨g,i*5+4,none⟩ (.bool true)) g L.length (goG L q (i+1))):=fun W g i h1 Z h3 h4=>zth h1 Z h3 h4;have NO:Hid (∀ (W:World) (g i:Nat),zeX W g L.length (goG L q i)->i<L.length->(i=q\/inF L i q=false)->zeX W g L.length (goG L q (i+1))):=fun W g i h1 Z h3=>zvY h1 Z h3
 have b3:Hid (∀ (W:World) (g:Nat),zeX W g L.length (goG L q L.length)->zaP ((W.setCell ⟨g,q*5+1,none⟩ (.int .i64 o)).setCell ⟨g,q*5+3,none⟩ (.int .i64 ((fr L q).t+1))) (some ⟨g,0,none⟩) (goF L q o)):=fun W g h=>by
  obtain⟨F,h1,Z⟩:=ztg (o:=o) h hq;exact zhC h1 (by rw[zgU];exact yj _) (fun m hm=>Z m (by rw[zgU] at hm;exact hm))
 have J:Hid (∀ (W:World) (g i j:Nat) (M:List Fr),j<5->zeX W g L.length M->i<L.length->(∃ u,W.cell? ⟨g,i*5+j,none⟩=some u)/\(∀ o,W.frozen? ⟨g,o,none⟩=false)/\g<W.heap.size):=fun W g i j M hj ⟨F,h1,Z⟩ hi=>⟨⟨_,h1.cell (by omega)⟩,h1.frozen,h1.lt⟩
 have a7:Hid (∀ (W:World) (g:Nat),zeX W g L.length (goG L q L.length)->W.cell? ⟨g,q*5+3,none⟩=some (.int .i64 (fr L q).t)):=fun W g ⟨F,h1,Z⟩=>by
  rw[h1.cell (by omega),Z _ (by omega),zdu _ _ 3 (by omega),zif hq,ya (by omega)];rfl
 generalize zbw L=cs at *;generalize goF L q o=DF at *;generalize (fr L q).t=t at *;have e4:IntKind.i64.wrap (t+1)=t+1:=by rw[yI];omega
 obtain⟨n,hn⟩:∃ n,L.length=n:=⟨_,rfl⟩;have HN:Hid (L.length=n):=hn;rw[hn] at hN hq D DW d6 b0 CP b5 NO b3 J a7 |-;clear hn;have e2:(q:Int)<(n:Int):=by omega
 go_enter Tryz.func141,Tryz.ntmps141
 go_wp2_with fail
 refine ye D.out ?_;rintro e E ⟨rfl,b1⟩;have a9:Hid (Below w.heap.size w E):=b1;have b4:Hid (zaP E (some ⟨b,ao,none⟩) L):=HL.out.below b1;clear b1
 have HG:Hid ((E.alloc (.cells (madeCells zex (n*5)) 65)).heap[E.heap.size]?=some (.cells (madeCells zex (n*5)).toList.toArray 65 (0,0))):=by
  have:=yL E (.cells (madeCells zex (n*5)) 65);show _=_;simpa using this
 go_wp2_with (refine zcY rfl (.tmp 21) (.tmp 22) 22 22 rfl 65 i0 Tryz.underlying22 d4 E.heap.size 0 n n ⟨b,ao,none⟩ n c n ?hd ?hs (madeCells zex (n*5)).toList 65 ?hg cs ?hn ?hl ?hsrc ?hfit ?h1 ?_)
 case hd=>rfl
 case hs=>rfl
 case hg=>exact HG.out
 case hn=>show n=min n n;omega
 case hl=>rw[b0.out,d7]
 case hsrc=>exact c7.out _ (b4.out.below (zaa _ _))
 case hfit=>rw[b0.out];simp[size_madeCells]
 case h1=>exact c6.out
 intro w3 b7 b6;have b8:Hid (Below E.heap.size E w3):=b6 _ _ (zaa E _) (yj _);have HR:Hid (zeX w3 E.heap.size n (goG L q 0)):=CP.out w3 _ b7;clear b7 b6 HG
 go_wp2_with fail
 go_loopg [26] n (fun g s26 wr=>∃ i:Nat,i<=n/\n-i<=g/\s26=.int .i64 i/\Hid (Below E.heap.size E wr)/\Hid (zeX wr E.heap.size n (goG L q i)))
 case atStart=>exact⟨0,by omega,by omega,rfl,b8,HR⟩
 case round =>
  obtain⟨i,hi,hg,rfl,O,I⟩:=hrel;clear HR;by_cases a6:i<n
  ·have e1:(i:Int)<(n:Int):=(by omega);have DI:=DW.out i wr (b4.out.below O.out);obtain⟨⟨u,hu⟩,c8,c9⟩:=J.out wr _ i 4 _ (by omega) I.out a6;by_cases a5:i=q
   ·have T:Hid _:=NO.out wr _ i I.out a6 (Or.inl a5);subst a5;clear DI
    go_wp2_with fail
    go_roundg (n-(i+1))
    case measure=>omega
    case rel=>exact⟨i+1,by omega,by omega,by go_num,O,T⟩
   ·have d8:decide ((i:Int)=(q:Int))=false:=yF (by omega);have d9:((i:Int) ==(q:Int))=false:=(by simp;omega);have e0:decide (i=q)=false:=yF a5
    cases hin:inF L (i:Int) (q:Int) with
    | true =>
     rw[hin] at DI;have a8:Hid _:=DI;have T:Hid _:=b5.out wr _ i I.out a6 a5 hin;clear hin DI
     go_wp2_with fail
     refine ye a8.out ?_;rintro e w4 ⟨rfl,U⟩;have b2:=U.symm;clear U;subst b2
     go_wp2_with fail
     go_roundg (n-(i+1))
     case measure=>omega
     case rel=>exact⟨i+1,by omega,by omega,by go_num,O.out.setCell (yj _) _,T⟩
    | false =>
     rw[hin] at DI;have a8:Hid _:=DI;have T:Hid _:=NO.out wr _ i I.out a6 (Or.inr hin);clear hin DI
     go_wp2_with fail
     refine ye a8.out ?_;rintro e w4 ⟨rfl,U⟩;have b2:=U.symm;clear U;subst b2
     go_wp2_with fail
     go_roundg (n-(i+1))
     case measure=>omega
     case rel=>exact⟨i+1,by omega,by omega,by go_num,O,T⟩
  ·have d5:i=n:=(by omega);subst d5;have HF:Hid _:=b3.out wr _ I.out;have ct:=a7.out wr _ I.out;obtain⟨⟨u,hu⟩,c8,c9⟩:=J.out wr _ q 1 _ (by omega) I.out hq;have b9:Hid (Below E.heap.size E ((wr.setCell ⟨E.heap.size,q*5+1,none⟩ (.int .i64 o)).setCell ⟨E.heap.size,q*5+3,none⟩ (.int .i64 (t+1)))):=(O.out.setCell (yj _) _).setCell (yj _) _;clear I
   go_wp2_with fail
   exact yw (v:=.tuple #[.slice (some ⟨E.heap.size,0,none⟩) i i,.int .i64 0]) (by simp[results,Tryz.results141,go_sem]) rfl ⟨_,rfl,a9.out.trans (b9.out.mono a9.out.size),a9.out.size,HF.out⟩
theorem zhA(x:Ac)(w:World):yM 113 #[acV x] w fun e w' => e=.returned (.int .i64 x.a)/\Below w.heap.size w w' := by
 obtain⟨I,D,E,F,J⟩:=x;show yM _ #[.agg #[.int .i64 I,.int .i64 D,.int .i64 E,.int .i64 F,.int .i64 J]] w _
 go_enter Tryz.func113,Tryz.ntmps113
 go_wp2
 go_ret;exact⟨rfl,zaa _ _⟩
theorem zhB(x:Ac)(w:World):yM 111 #[acV x] w fun e w' => e=.returned (.int .i64 x.n)/\Below w.heap.size w w' := by
 obtain⟨I,D,E,F,J⟩:=x;show yM _ #[.agg #[.int .i64 I,.int .i64 D,.int .i64 E,.int .i64 F,.int .i64 J]] w _
 go_enter Tryz.func111,Tryz.ntmps111
 go_wp2
 go_ret;exact⟨rfl,zaa _ _⟩
theorem zqQ(K1 K2 c1 c2 c3:Nat)(J:Array Value)(D t:Int)(b4:∀ args w,(callFunc K1 args).run Tryz.prog w=.ok (.enter K1 args) w)(b5:∀ args w,(callFunc K2 args).run Tryz.prog w=.ok (.enter K2 args) w)(me:Nat)(W:Wl)(x:Ac)(hw:(Lit.int .i64 D).wf=true)(h1:∀ V,yM K1 #[acV x] V fun e w' => e=.returned (.int .i64 t)/\Below V.heap.size V w')(C:World->Prop)(hC:∀ V V', C V->Below V.heap.size V V' -> C V')(q:Ws)(h2:zdN W.fs me t D=0->zhp K2 J C me W x q) :
  zhp 136 #[.pointer (some ⟨c1,0,none⟩),.pointer (some ⟨c2,0,none⟩),.pointer (some ⟨c3,0,none⟩)] (fun V=>V.cell? ⟨c1,0,none⟩=some (.func (.func K1) #[] #[])/\V.cell? ⟨c2,0,none⟩=some (.int .i64 D)/\V.cell? ⟨c3,0,none⟩=some (.func (.func K2) #[] J)/\C V) me W x (if zdN W.fs me t D=0 then q else ⟨zdN W.fs me t D,W,0⟩):=fun w0 d s V I ⟨v1,v2,v3,v4⟩=>by
 obtain⟨xk,xa,xb,xc,xn⟩:=x;have II:Hid (SW w0 d me W s V):=I;have b0:=I.lt;have b3:Hid _:=b0;obtain⟨l0,l1,l2,l3,l4,lf,ll⟩:=zal I.box;have d5:d<V.heap.size:=ll;have n8:W.fs.length<=8:=I.rt.fs.few;have d9:me<W.fs.length:=I.sf;clear b0;show yM _ #[.pointer (some ⟨d,0,none⟩),.int .i64 (me:Int),.agg #[.int .i64 xk,.int .i64 xa,.int .i64 xb,.int .i64 xc,.int .i64 xn],.pointer (some ⟨c1,0,none⟩),.pointer (some ⟨c2,0,none⟩),.pointer (some ⟨c3,0,none⟩)] V _;have D1:Hid (∀ V,Calls _ _ _ _ _):=h1;have D2:Hid (∀ U,Below V.heap.size V U->Calls _ _ _ _ _):=fun U hV=>zyI s.a0 s.c0 W.fs me t D U hw (by omega) (I.dp.fr.at.below hV);have HC:Hid (C V):=v4;have D3:Hid (zdN W.fs me t D=0->∀ U,SW w0 d me W s U->C U->yM K2 (#[.pointer (some ⟨d,0,none⟩),.int .i64 (me:Int),.agg #[.int .i64 xk,.int .i64 xa,.int .i64 xb,.int .i64 xc,.int .i64 xn]] ++ J) U (zdJ w0 d me q)):=fun h U hV hc=>h2 h w0 d s U hV hc;dsimp only[acV] at D1;have d6:c1<V.heap.size:=yd _ _ v1;have d7:c2<V.heap.size:=yd _ _ v2;have d8:c3<V.heap.size:=yd _ _ v3;obtain⟨n,hn⟩:∃ n,W.fs.length=n:=⟨_,rfl⟩;have HN:Hid (W.fs.length=n):=hn;obtain⟨nt,a9⟩:∃ n,W.pt.length=n:=⟨_,rfl⟩;have b2:Hid (W.pt.length=nt):=a9;rw[hn] at l0 D2;clear hn a9 I h1 h2 v4 l1 l2 l3 l4;obtain⟨E,Z⟩:∃ E,zdN W.fs me t D=E:=⟨_,rfl⟩;rw[Z] at D2 D3 |-;clear Z;obtain⟨qq,a5⟩:∃ qq:Ws,(if E=0 then q else ⟨E,W,0⟩)=qq:=⟨_,rfl⟩;have HQ:Hid (_=qq):=a5;rw[a5];clear a5
 go_enter Tryz.func136,Tryz.ntmps136
 go_upto_region 1 with fail
 obtain⟨V1,a6,T,y0,y1,y2,y3,y4,sV⟩:=zcz V xk xa xb xc xn;rw[a6];clear a6;replace l0:=zab l0 T.out;replace v1:=zab v1 T.out;replace v2:=zab v2 T.out;replace v3:=zab v3 T.out
 go_region_held3 (fun F=>F.cell? ⟨d,0,none⟩=some (.slice s.a0 n s.c0)/\F.cell? ⟨c1,0,none⟩=some (.func (.func K1) #[] #[])/\F.cell? ⟨c2,0,none⟩=some (.int .i64 D)/\F.cell? ⟨V.heap.size,0,none⟩=some (.int .i64 xk)/\F.cell? ⟨V.heap.size,1,none⟩=some (.int .i64 xa)/\F.cell? ⟨V.heap.size,2,none⟩=some (.int .i64 xb)/\F.cell? ⟨V.heap.size,3,none⟩=some (.int .i64 xc)/\F.cell? ⟨V.heap.size,4,none⟩=some (.int .i64 xn)) (go_keep) (first|(go_at_fn K1;refine ye (D1.out V1.drew) ?_;rintro e w3 ⟨rfl,a7⟩;have M:Hid (Below V1.heap.size V1 w3):=(yk _ _).drew.trans a7;have b6:=zab l0 M.out;have b7:=zab v1 M.out;have b8:=zab v2 M.out;have b9:=zab v3 M.out;have c6:=zab y0 M.out;have c7:=zab y1 M.out;have c8:=zab y2 M.out;have c9:=zab y3 M.out;have d4:=zab y4 M.out;clear a7)|(go_at_call 137;refine ye (D2.out w3 (T.out.trans (M.out.mono T.out.size))) ?_;rintro e w4 ⟨rfl,a8⟩;have O:Hid (Below V1.heap.size V1 w4):=M.out.trans (a8.mono M.out.size);have e0:=zab l0 O.out;have e1:=zab v1 O.out;have e2:=zab v2 O.out;have e3:=zab v3 O.out;have e4:=zab y0 O.out;have e5:=zab y1 O.out;have e6:=zab y2 O.out;have e7:=zab y3 O.out;have e8:=zab y4 O.out;clear a8))
 have I4:Hid _:=II.out.below (T.out.trans (O.out.mono T.out.size));have C4:Hid (C w4):=hC _ _ HC.out (T.out.trans (O.out.mono T.out.size));by_cases Z:E=0
 ·subst Z;obtain rfl:=(yb rfl).symm.trans HQ.out;have D4:Hid _:=D3.out rfl w4 I4.out C4.out
  go_wp2_with (go_at_fn K2;refine ye D4.out ?_;rintro e w5 ⟨o,s', rfl,ho,b1⟩)
  have HO:Hid _:=ho;have HS:Hid _:=b1;exact yw (v:=.tuple #[.int .i64 o,.int .i64 q.e]) (by simp[results,Tryz.results136,go_sem]) rfl ⟨o,s', rfl,HO.out,HS.out⟩
 ·obtain rfl:=(ya Z).symm.trans HQ.out;have hz:(E == 0)=false:=by simp[Z]
  go_wp2
  exact yw (v:=.tuple #[.int .i64 0,.int .i64 E]) (by simp[results,Tryz.results136,go_sem]) rfl (zdJ.no I4.out Z)
theorem zpB{L:List Fr}{f t x:Int}(h:zdN L f t x=0):zcv L t=0:=by
 obtain⟨h1,_,D,_⟩:=zca h;unfold zcv;simp[h1,D]
theorem zxA{X:Nat->Prop}{V:World}{g:Nat}{L:List Fr}(h:zaP V (some ⟨g,0,none⟩) L)(F:¬ X g):St X (fun V=>zaP V (some ⟨g,0,none⟩) L) V:=fun I E i hi=>by
 obtain⟨b,o,e,c0,c1,c2,c3,c4⟩:=h i hi;cases e;have D:=E.block g (yd _ _ c0) F;exact⟨g,0,rfl,(yC D).trans c0,(yC D).trans c1,(yC D).trans c2,(yC D).trans c3,(yC D).trans c4⟩
theorem zjQ(me:Nat)(W:Wl)(x:Ac)(hm:zdN W.fs me x.n 2=0):zhp 112 #[] (fun _=>True) me W x ⟨0,W,(zkn W.fs x.n:Nat)⟩:=fun w0 d s V I _=>by
 obtain⟨xk,xa,xb,xc,F⟩:=x;have II:Hid (SW w0 d me W s V):=I;have T:=I.lt;have a8:Hid _:=T;obtain⟨Z,l1,l2,l3,l4,lf,ll⟩:=zal I.box;have b1:d<V.heap.size:=ll;have n8:W.fs.length<=8:=I.rt.fs.few;have a5:me<W.fs.length:=I.sf;clear T;dsimp only at hm |-;have hh:zcv W.fs F=0:=zpB hm;have D:Hid (∀ V2,Below V.heap.size V V2->Calls _ _ _ _ _):=fun V2 hV=>zrf s.a0 s.c0 W.fs F V2 (by omega) (I.dp.fr.at.below hV);have e1:zBj W.fs F=(zkn W.fs F:Nat):=yb hh;rw[e1,hh] at D;clear e1 hh hm;show yM _ #[.pointer (some ⟨d,0,none⟩),.int .i64 (me:Int),.agg #[.int .i64 xk,.int .i64 xa,.int .i64 xb,.int .i64 xc,.int .i64 F]] V _;obtain⟨n,hn⟩:∃ n,W.fs.length=n:=⟨_,rfl⟩;have HN:Hid (W.fs.length=n):=hn;obtain⟨nt,J⟩:∃ n,W.pt.length=n:=⟨_,rfl⟩;have a7:Hid (W.pt.length=nt):=J;rw[J] at l4;rw[hn] at Z l1 l2 l3 n8 a5;rw[hn] at D;obtain⟨L,hL⟩:∃ L:Int,((zkn W.fs F:Nat):Int)=L:=⟨_,rfl⟩;rw[hL] at D |-;clear hL;clear hn J I;have a6:(me:Int)<(n:Int):=by omega
 go_enter Tryz.func112,Tryz.ntmps112
 go_upto_region 1 with fail
 obtain⟨V1,M,E,y0,y1,y2,y3,y4,sV⟩:=zcz V xk xa xb xc F;rw[M];clear M;replace Z:=zab Z E.out;replace l1:=zab l1 E.out;replace l2:=zab l2 E.out;replace l3:=zab l3 E.out;replace l4:=zab l4 E.out
 go_region_held3 (fun U=>U.cell? ⟨d,0,none⟩=some (.slice s.a0 n s.c0)/\U.cell? ⟨V.heap.size,4,none⟩=some (.int .i64 F)) (go_keep) (first|(go_at_call 138;refine ye (D.out V1.drew E.out.drew) ?_;rintro e w3 ⟨rfl,O⟩;have B3:Hid (Below V1.heap.size V1 w3):=(yk _ _).drew.trans O;have a9:=zab Z B3.out;have b0:=zab y4 B3.out;clear O))
 have I2:Hid _:=II.out.below (E.out.trans (B3.out.mono E.out.size))
 go_wp2
 exact yw (v:=.tuple #[.int .i64 L,.int .i64 0]) (by simp[results,Tryz.results112,go_sem]) rfl (zdJ.ok I2.out)
theorem zrd(me:Nat)(W:Wl)(x:Ac)(hm:zdN W.fs me x.n 4=0):zhp 116 #[] (fun _=>True) me W x ⟨0,{ W with fs:=zjW W.fs x.n },0⟩:=fun w0 d s V I _=>by
 obtain⟨xk,xa,xb,xc,J⟩:=x;have II:Hid (SW w0 d me W s V):=I;have a6:=I.lt;have a8:Hid _:=a6;obtain⟨l0,l1,l2,l3,l4,lf,ll⟩:=zal I.box;have b4:d<V.heap.size:=ll;have n8:W.fs.length<=8:=I.rt.fs.few;have a9:me<W.fs.length:=I.sf;clear a6;dsimp only at hm |-;have hh:zcv W.fs J=0:=zpB hm;have D:Hid (∀ F,Below V.heap.size V F->Calls _ _ _ _ _):=fun F hV=>zqD s.a0 s.c0 W.fs J F n8 (I.dp.fr.at.below hV) hh;have FS:Hid (∀ F g,SW w0 d me W s F->V.heap.size<=g->zaP F (some ⟨g,0,none⟩) (zjW W.fs J)->∃ s', SW w0 d me { W with fs:=zjW W.fs J } s' (F.setCell ⟨d,0,none⟩ (.slice (some ⟨g,0,none⟩) W.fs.length W.fs.length))):=fun F g h2 hg hf=>⟨_,h2.frames (zxA hf (fun hb=>by have:=a8.out g hb;omega)) (zdr _ _) (zji I.rt me J) (by rw[zdr];exact⟨(fun e=>by cases e),yj _,by omega⟩)⟩;clear hh hm;show yM _ #[.pointer (some ⟨d,0,none⟩),.int .i64 (me:Int),.agg #[.int .i64 xk,.int .i64 xa,.int .i64 xb,.int .i64 xc,.int .i64 J]] V _;obtain⟨n,hn⟩:∃ n,W.fs.length=n:=⟨_,rfl⟩;have HN:Hid (W.fs.length=n):=hn;obtain⟨nt,M⟩:∃ n,W.pt.length=n:=⟨_,rfl⟩;have b1:Hid (W.pt.length=nt):=M;rw[M] at l4;rw[hn] at l0 l1 l2 l3 n8 a9;rw[hn] at D FS;clear hn M I;have b0:(me:Int)<(n:Int):=by omega
 go_enter Tryz.func116,Tryz.ntmps116
 go_upto_region 1 with fail
 obtain⟨V1,O,E,y0,y1,y2,y3,y4,sV⟩:=zcz V xk xa xb xc J;rw[O];clear O;replace l0:=zab l0 E.out;replace l1:=zab l1 E.out;replace l2:=zab l2 E.out;replace l3:=zab l3 E.out;replace l4:=zab l4 E.out
 go_region_held3 (fun a7=>a7.cell? ⟨d,0,none⟩=some (.slice s.a0 n s.c0)/\a7.cell? ⟨V.heap.size,4,none⟩=some (.int .i64 J)) (go_keep) (first|(go_at_call 140;refine ye (D.out V1.drew E.out.drew) ?_;rintro e w3 ⟨g,rfl,T,Z,U⟩;have B3:Hid (Below V1.heap.size V1 w3):=(yk _ _).drew.trans T;have b2:=zab l0 B3.out;have b3:=zab y4 B3.out;have HG:Hid (V.heap.size<=g):=yH E.out.size (show V1.heap.size<=g from Z);have HF:Hid _:=U;clear U Z;clear T))
 have I2:Hid _:=II.out.below (E.out.trans (B3.out.mono E.out.size));obtain⟨s', a5⟩:=FS.out w3 g I2.out HG.out HF.out;have HS:Hid _:=a5;obtain⟨b5,b6,b7,b8,b9,c6,c7⟩:=zal I2.out.box;clear a5 l0 l1 l2 l3 l4
 go_wp2
 exact yw (v:=.tuple #[.int .i64 0,.int .i64 0]) (by simp[results,Tryz.results116,go_sem]) rfl (zdJ.ok HS.out)
theorem SW.fcell{D:W0}{d me:Nat}{W:Wl}{s:SD}{V:World}(I:SW D d me W s V){i:Nat}(hi:i<W.fs.length):∃ b o,s.a0=some ⟨b,o,none⟩/\V.cell? ⟨b,o+i*5+2,none⟩=some (.int .i64 (fr W.fs i).m)/\V.cell? ⟨b,o+i*5+3,none⟩=some (.int .i64 (fr W.fs i).t)/\b<V.heap.size:=by
 obtain⟨b,o,e,c0,c1,c2,c3,c4⟩:=I.dp.fr.at i hi;exact⟨b,o,e,c2,c3,yd _ _ c2⟩
theorem zmc(W:Wl)(k:Nat):zaD W (k:Int)=(fr W.fs k).t:=by unfold zaD;rw[yi]
theorem SW.big{D:W0}{d me:Nat}{W:Wl}{s:SD}{V:World}(I:SW D d me W s V):W.pt.length<=9223372036854775807/\znF W.pt:=(zeq I.rt).2.2.2.2
theorem zue(me:Nat)(W:Wl)(x:Ac):zhp 118 #[] (fun _=>True) me W x (zuZ W me):=fun w0 d s V I _=>by
 have QI:=zeO [zfw W.pt (many W) me (zaD W me)] W { W with pt:=zcw W.pt me (zaD W me) } W.pt.length;rw[zkH] at QI;change QIs (zuZ W me) _ _ _ _ at QI;obtain⟨xk,xa,xb,xc,xn⟩:=x;have II:Hid (SW w0 d me W s V):=I;have b3:=I.lt;have b5:Hid _:=b3;obtain⟨Z,l1,l2,l3,l4,lf,ll⟩:=zal I.box;have c9:d<V.heap.size:=ll;have n8:W.fs.length<=8:=I.rt.fs.few;have b9:me<W.fs.length:=I.sf;clear b3;obtain⟨fb,fo,ea,fm,ft,fl⟩:=I.fcell I.sf;rw[ea] at Z;have TN:=zmc W me;obtain⟨F,b4⟩:∃ t,(fr W.fs me).t=t:=⟨_,rfl⟩;rw[b4] at ft TN;clear b4 ea;have a7:∀ J,Below V.heap.size V J->∀ b,SX w0.heap.size d s b->b<J.heap.size:=fun J hV b hb=>yz (b5.out b hb) hV.size;have M:=I.big;rw[TN] at QI;have D:Hid (∀ J,Below V.heap.size V J->Calls _ _ _ _ _):=fun J hV=>ztZ (SX w0.heap.size d s) s.a4 s.c4 W.pt (many W) me F J (a7 J hV) M.1 M.2 I.dp.pc (I.dp.pt.off (zaq.of_below hV))
 have PS:Hid (zfw W.pt (many W) me F=0->∀ J va vc,SW w0 d me W s J->zbK (SX w0.heap.size d s) J va (znH W.pt (many W) me F)->SlA va (znH W.pt (many W) me F).length vc->∃ s', SW w0 d me { W with pt:=zcw W.pt me F } s' (J.setCell ⟨d,4,none⟩ (.slice va (znH W.pt (many W) me F).length vc))):=fun h J va vc h2 h3 h4=>by
  have e:znH W.pt (many W) me F=zcw W.pt me F:=yb h;rw[e] at h3 h4 |-;exact⟨_,h2.ports h3 (by have:=zjv I.rt (k:=me) (by rw[TN];exact h);rw[TN] at this;exact this) h4⟩
 have ON:Hid (zfw W.pt (many W) me F=0->zju W.pt (many W) me F=W.pt.length):=fun h=>yb h;have MN:Hid (many W=(W.fs.length:Int)):=rfl;clear a7 M;show yM _ #[.pointer (some ⟨d,0,none⟩),.int .i64 (me:Int),.agg #[.int .i64 xk,.int .i64 xa,.int .i64 xb,.int .i64 xc,.int .i64 xn]] V _;obtain⟨n,hn⟩:∃ n,W.fs.length=n:=⟨_,rfl⟩;have HN:Hid (W.fs.length=n):=hn;obtain⟨nt,T⟩:∃ n,W.pt.length=n:=⟨_,rfl⟩;have c7:Hid (W.pt.length=nt):=T;rw[T] at l4 D;rw[hn] at Z l1 l2 l3 n8 b9;rw[show many W=(n:Int) from by rw[<- hn];rfl] at D PS ON QI;generalize zfw W.pt n me F=E at *;generalize znH W.pt n me F=L at *;generalize zju W.pt n me F=a5 at *;generalize zuZ W me=q at *;obtain⟨qe,qw,qo⟩:=q;obtain⟨b0,Q0,Q1⟩:=QI;dsimp only at b0 Q0 Q1 |-;subst b0;have Q0:Hid _:=Q0;have Q1:Hid _:=Q1;clear hn T I;have c6:(me:Int)<(n:Int):=by omega
 go_enter Tryz.func118,Tryz.ntmps118
 go_upto_region 1 with fail
 obtain⟨V1,a6,O,y0,y1,y2,y3,y4,sV⟩:=zcz V xk xa xb xc xn;rw[a6];clear a6;replace Z:=zab Z O.out;replace l1:=zab l1 O.out;replace l2:=zab l2 O.out;replace l3:=zab l3 O.out;replace l4:=zab l4 O.out;replace ft:=zab ft O.out;have d4:fb<V1.heap.size:=by omega
 go_region_held3 (fun U=>U.cell? ⟨d,0,none⟩=some (.slice (some ⟨fb,fo,none⟩) n s.c0)/\U.cell? ⟨d,4,none⟩=some (.slice s.a4 nt s.c4)/\U.cell? ⟨fb,fo+me*5+3,none⟩=some (.int .i64 F)) (go_keep) (first|(go_at_call 142;refine ye (D.out V1.drew O.out.drew) ?_;rintro e w3 ⟨va,vc,rfl,a8,b2,a9⟩;have B3:Hid (Below V1.heap.size V1 w3):=(yk _ _).drew.trans a8;have b7:=zab Z B3.out;have b8:=zab l4 B3.out;have c8:=zab ft B3.out;have b6:Hid _:=b2;have HP:Hid _:=a9;clear a8 b2 a9))
 have I2:Hid _:=II.out.below (O.out.trans (B3.out.mono O.out.size));obtain⟨d5,d6,d7,d8,d9,e0,e1⟩:=zal I2.out.box;clear Z l1 l2 l3 l4 b7 b8;by_cases hE:qe=0
 ·subst hE;obtain⟨rfl,rfl⟩:=Q0.out rfl;obtain⟨s', b1⟩:=PS.out rfl w3 va vc I2.out HP.out b6.out;have HS:Hid _:=b1;have HO:Hid (a5=(W.pt.length:Int)):=ON.out rfl;clear b1
  go_wp2
  refine yw (v:=.tuple #[.int .i64 a5,.int .i64 0]) (by simp[results,Tryz.results118,go_sem]) rfl ?_;rw[HO.out];exact zdJ.ok HS.out
 ·obtain rfl:=Q1.out hE;have hz:(qe == 0)=false:=by simp[hE]
  go_wp2
  exact yw (v:=.tuple #[.int .i64 0,.int .i64 qe]) (by simp[results,Tryz.results118,go_sem]) rfl (zdJ.no I2.out hE)
def zjZ(F:W0)(d me:Nat)(W O:Wl)(E:Int)(L:List Pt)(g1:Nat)(J:World)(e:Ending)(V:World):Prop:=∃ (D:Option Addr) (I:Nat) (M:List Pt) (s:SD),e=.returned (.tuple #[.slice D M.length I,.int .i64 E])/\zaq (fun b=>b=g1) J V/\(E=0->M=L/\SW F d me O s V/\zbK (SX F.heap.size d s) V D L/\SlA D L.length I)/\(E≠0->SW F d me W s V)
def PBy(K:Nat)(me:Nat)(W:Wl)(x:Ac)(F:Wl)(E:Int)(L:List Pt):Prop:=∀ (D:W0) (d:Nat) (s:SD) (V:World),SW D d me W s V ->
 yM K #[.pointer (some ⟨d,0,none⟩),.int .i64 (me:Int),.int .i64 (zaD W me),acV x] V (zjZ D d me W F E L s.g1 V)
theorem zmW{W D:World}{b o g:Nat}{v:Value}(h:W.cell? ⟨b,o,none⟩=some v)(E:zaq (fun x=>x=g) W D)(hg:b≠g):D.cell? ⟨b,o,none⟩=some v:=(yC (E.block b (yd _ _ h) hg)).trans h
theorem SW.no_row{M:W0}{d me:Nat}{W:Wl}{s:SD}{V:World}(I:SW M d me W s V){b o:Nat}{v:Value}(h:V.cell? ⟨b,o,none⟩=some v)(D:∀ a n c,v≠.slice a n c):b≠s.g1:=fun e=>by
 subst e;obtain⟨c,hc,hl,J⟩:=I.r1;simp only[World.cell?,hc] at h
 have E:o<W.fs.length*4:=by
  rcases Nat.lt_or_ge o (W.fs.length*4) with F|F
  ·exact F
  ·rw[Array.getElem?_eq_none (by omega)] at h;cases h
 rw[J o E] at h;have e:=Option.some.inj h;unfold zpa at e
 split at e
 ·exact D _ _ _ e.symm
 ·split at e
  ·exact D _ _ _ e.symm
  ·split at e
   ·exact D _ _ _ e.symm
   ·exact D _ _ _ e.symm
theorem zeC(K cb:Nat)(eg:∀ args w,(callFunc K args).run Tryz.prog w=.ok (.enter K args) w)(me:Nat)(W:Wl)(x:Ac)(W1:Wl)(E:Int)(L:List Pt)(hK:PBy K me W x W1 E L)(hR:E=0->zao { W1 with pt:=L })(q:Ws)(QI:QIs q E W { W1 with pt:=L } 0) :
  zhp 143 #[.pointer (some ⟨cb,0,none⟩)] (fun V=>V.cell? ⟨cb,0,none⟩=some (.func (.func K) #[] #[])) me W x q:=fun w0 d s V I v1=>by
 obtain⟨xk,xa,xb,xc,xn⟩:=x;have II:Hid (SW w0 d me W s V):=I;have a9:=I.lt;have b7:Hid _:=a9;obtain⟨l0,l1,l2,l3,l4,lf,ll⟩:=zal I.box;have d7:d<V.heap.size:=ll;have n8:W.fs.length<=8:=I.rt.fs.few;have b1:me<W.fs.length:=I.sf;clear a9;obtain⟨fb,fo,ea,fm,ft,fl⟩:=I.fcell I.sf;rw[ea] at l0;have TN:=zmc W me;obtain⟨tn,b0⟩:∃ t,(fr W.fs me).t=t:=⟨_,rfl⟩;rw[b0] at ft TN;clear b0 ea;have D:Hid (∀ V2,Below V.heap.size V V2->Calls _ _ _ _ _):=fun V2 hV=>hK w0 d s V2 (I.below hV);dsimp only[acV] at D;rw[TN] at D;have RR:Hid _:=hR;have b2:d≠s.g1:=I.ap.d1;have b3:fb≠s.g1:=I.no_row ft (fun _ _ _ h=>by cases h);have b4:cb≠s.g1:=I.no_row v1 (fun _ _ _ h=>by cases h);have J:V.heap.size≠s.g1:=Nat.ne_of_gt I.r1.lt;clear hK hR;show yM _ #[.pointer (some ⟨d,0,none⟩),.int .i64 (me:Int),.agg #[.int .i64 xk,.int .i64 xa,.int .i64 xb,.int .i64 xc,.int .i64 xn],.pointer (some ⟨cb,0,none⟩)] V _;obtain⟨n,hn⟩:∃ n,W.fs.length=n:=⟨_,rfl⟩;have HN:Hid (W.fs.length=n):=hn;obtain⟨nt,U⟩:∃ n,W.pt.length=n:=⟨_,rfl⟩;have b6:Hid (W.pt.length=nt):=U;rw[U] at l4;rw[hn] at l0 l1 l2 l3 n8 b1;obtain⟨qe,qw,qo⟩:=q;obtain⟨a7,Q0,Q1⟩:=QI;dsimp only at a7 Q0 Q1 |-;subst a7;have Q0:Hid _:=Q0;have Q1:Hid _:=Q1;clear hn U I;have b5:(me:Int)<(n:Int):=by omega
 have d6:cb<V.heap.size:=yd _ _ v1
 go_enter Tryz.func143,Tryz.ntmps143
 go_upto_region 1 with fail
 obtain⟨V1,a5,O,y0,y1,y2,y3,y4,sV⟩:=zcz V xk xa xb xc xn;rw[a5];clear a5;replace l0:=zab l0 O.out;replace l1:=zab l1 O.out;replace l2:=zab l2 O.out;replace l3:=zab l3 O.out;replace l4:=zab l4 O.out;replace ft:=zab ft O.out;replace v1:=zab v1 O.out;have d8:fb<V1.heap.size:=by omega
 go_region_held3 (fun F=>F.cell? ⟨d,0,none⟩=some (.slice (some ⟨fb,fo,none⟩) n s.c0)/\F.cell? ⟨V.heap.size,0,none⟩=some (.int .i64 xk)/\F.cell? ⟨V.heap.size,1,none⟩=some (.int .i64 xa)/\F.cell? ⟨V.heap.size,2,none⟩=some (.int .i64 xb)/\F.cell? ⟨V.heap.size,3,none⟩=some (.int .i64 xc)/\F.cell? ⟨V.heap.size,4,none⟩=some (.int .i64 xn)/\F.cell? ⟨fb,fo+me*5+3,none⟩=some (.int .i64 tn)/\F.cell? ⟨cb,0,none⟩=some (.func (.func K) #[] #[])) (go_keep) (first|(go_at_fn K;refine ye (D.out V1.drew O.out.drew) ?_;rintro e w3 ⟨va,vc,M,s3,rfl,hx,h0,h1⟩;have T:Hid (zaq (fun b=>b=s.g1) V1 w3):=⟨hx.size,hx.block⟩;have b9:=zmW l0 T.out b2;have b8:=zmW ft T.out b3;have c6:=zmW v1 T.out b4;have c7:=zmW y0 T.out J;have c8:=zmW y1 T.out J;have c9:=zmW y2 T.out J;have d4:=zmW y3 T.out J;have d5:=zmW y4 T.out J;clear hx;have H0:Hid _:=h0;have H1:Hid _:=h1;clear h0 h1))
 by_cases hE:qe=0
 ·subst hE;obtain⟨rfl,rfl⟩:=Q0.out rfl;obtain⟨rfl,Z,a6,a8⟩:=H0.out rfl;have HS:Hid _:=Z.ports a6 (RR.out rfl) a8;obtain⟨d9,e0,e1,e2,e3,e4,e5⟩:=zal Z.box;clear Z a6 a8 H0 H1 l0 l1 l2 l3 l4
  go_wp2
  exact yw (v:=.tuple #[.int .i64 0,.int .i64 0]) (by simp[results,Tryz.results143,go_sem]) rfl (zdJ.ok HS.out)
 ·obtain rfl:=Q1.out hE;have HS:Hid _:=H1.out hE;have hz:(qe == 0)=false:=by simp[hE]
  go_wp2
  exact yw (v:=.tuple #[.int .i64 0,.int .i64 qe]) (by simp[results,Tryz.results143,go_sem]) rfl (zdJ.no HS.out hE)
theorem zxy{a b:Int}:zan [a,b]=if a=0 then b else a:=by
 show (if a=0 then (if b=0 then 0 else b) else a)=_;by_cases h:b=0
 ·rw[yb h,h]
 ·rw[ya h]
theorem zrx(me:Nat)(W:Wl)(x:Ac)(hm:zaz W.fs x.a=0)(q:Ws)(QI:QIs q (zan [if isH x.b then 0 else 4,zaG (rlm W x.a.toNat).s (hd (rlm W x.a.toNat) x.b).1 (hd (rlm W x.a.toNat) x.b).2]) W W (nd (rlm W x.a.toNat).s (hd (rlm W x.a.toNat) x.b).1.toNat).m):zhp 115 #[] (fun _=>True) me W x q:=fun w0 d s V I _=>by
 rw[zxy] at QI;obtain⟨xk,xa,xb,xc,xn⟩:=x;have II:Hid (SW w0 d me W s V):=I;have b6:=I.lt;have c9:Hid _:=b6;obtain⟨l0,l1,l2,l3,l4,lf,ll⟩:=zal I.box;have d7:d<V.heap.size:=ll;have n8:W.fs.length<=8:=I.rt.fs.few;have c6:me<W.fs.length:=I.sf;clear b6;obtain⟨qa,b4,a5,_⟩:=zdv hm;dsimp only at b4 QI;subst b4;rw[yi] at QI;obtain⟨wf,hl,_,_⟩:=zaB (I.rt.rs qa a5);obtain⟨k0,k1,k2,k3,kf,kl⟩:=I.rcells a5;have hw:=I.rat a5;have HW:Hid (zcZ V (s.R qa) (rlm W qa)):=hw;have D:Hid (∀ V2 P U,Below V.heap.size V V2->Calls _ _ _ _ _):=fun V2 P U hV=>zfJ (rlm W qa).s P U (s.R qa).a0 (s.R qa).c0 V2 wf (hw.1.below hV)
 have HH:Hid (∀ p:Nat,p<16->∃ b o,(s.R qa).a1=some ⟨b,o,none⟩/\V.cell? ⟨b,o+p*2,none⟩=some (.int .i64 (hd (rlm W qa) p).1)/\V.cell? ⟨b,o+p*2+1,none⟩=some (.int .i64 (hd (rlm W qa) p).2)/\b<V.heap.size):=fun p hp=>by
  obtain⟨b,o,e,h1,h2⟩:=hw.2.1 p (by omega);have e2:hd (rlm W qa) (p:Int)=(rlm W qa).hs.getD p (0,0):=by unfold hd;rw[yi]
  rw[e2];exact⟨b,o,e,h1,h2,yd _ _ h1⟩
 have DW:Hid (∀ V2,Calls _ _ _ _ _):=fun V2=>zaR xb 0 15 V2;rw[hl] at k1;clear hw hm wf hl;show yM _ #[.pointer (some ⟨d,0,none⟩),.int .i64 (me:Int),.agg #[.int .i64 xk,.int .i64 qa,.int .i64 xb,.int .i64 xc,.int .i64 xn]] V _;obtain⟨n,hn⟩:∃ n,W.fs.length=n:=⟨_,rfl⟩;have HN:Hid (W.fs.length=n):=hn;obtain⟨nt,b0⟩:∃ n,W.pt.length=n:=⟨_,rfl⟩;have c8:Hid (W.pt.length=nt):=b0;rw[b0] at l4;rw[hn] at l0 l1 l2 l3 n8 c6 a5;clear hn b0 I;have c7:(me:Int)<(n:Int):=by omega
 have e0:(qa:Int)<(n:Int):=by omega
 obtain⟨r0,b5⟩:∃ n,(rlm W qa).s.length=n:=⟨_,rfl⟩;rw[b5] at D k0;clear b5;generalize (rlm W qa).i.length=r2 at *;generalize (rlm W qa).t.length=r3 at *;obtain⟨qe,qw,qo⟩:=q;obtain⟨a6,Q0,Q1⟩:=QI;dsimp only at a6 Q0 Q1 |-;rw[<- a6] at Q0 Q1;have Q0:Hid _:=Q0;have Q1:Hid _:=Q1;have a8:Hid _:=a6;clear a6
 go_enter Tryz.func115,Tryz.ntmps115
 go_upto_region 1 with fail
 obtain⟨M,b3,O,y0,y1,y2,y3,y4,sV⟩:=zcz V xk qa xb xc xn;rw[b3];clear b3;replace l0:=zab l0 O.out;replace l1:=zab l1 O.out;replace l2:=zab l2 O.out;replace l3:=zab l3 O.out;replace l4:=zab l4 O.out;replace k0:=zab k0 O.out;replace k1:=zab k1 O.out;replace k2:=zab k2 O.out;replace k3:=zab k3 O.out;have n0:¬ M.heap.size=d:=by omega
 have o0:¬ d=M.heap.size:=by omega
 have n1:¬ M.heap.size=s.g1:=by omega
 have o1:¬ s.g1=M.heap.size:=by omega
 have n2:¬ M.heap.size=V.heap.size:=by omega
 have o2:¬ V.heap.size=M.heap.size:=by omega
 have e3:d<M.heap.size:=by omega
 have e4:s.g1<M.heap.size:=by omega
 go_cut [8] (fun s8 wx=>∃ (b:Nat),s8=.pointer (some ⟨b,0,none⟩)/\Hid (Below M.heap.size M wx)/\Hid (wx.heap[b]?=some (.cells #[.slice (s.R qa).a0 r0 (s.R qa).c0,.slice (s.R qa).a1 16 (s.R qa).c1,.slice (s.R qa).a2 r2 (s.R qa).c2,.slice (s.R qa).a3 r3 (s.R qa).c3] 50 (0,0)))/\M.heap.size<=b)
 case first =>
  go_region
  go_wp2_with fail
  go_meet
  case rel=>exact⟨_,rfl,(zaa M _).drew,zcc _ _ _ _ _ _,yj _⟩
 case rest =>
  obtain⟨b,rfl,HB,HX,d5⟩:=hcut;have BW:Hid (Below V.heap.size V wc):=O.out.trans (HB.out.mono O.out.size);have I2:Hid _:=II.out.below BW.out;obtain⟨m0,m1,m2,m3,ml⟩:=zxZ HX.out;have a7:=zab y2 HB.out;have e8:V.heap.size<wc.heap.size:=yd _ _ a7;clear l0 l1 l2 l3 l4 k0 k1 k2 k3 n0 o0 n1 o1 n2 o2;by_cases J:isH xb
  ·obtain⟨p,rfl,hp⟩:=zmk J;have hq:=a8.out;rw[show (if isH (p:Int) then (0:Int) else 4)=0 from yb J,yb rfl] at hq;rw[show decide (0<=(p:Int)/\(p:Int)<=15)=true from yG J] at DW;clear a8;obtain⟨hb,ho,ea,u0,u1,ul⟩:=HH.out p hp;replace u0:=zab u0 BW.out;replace u1:=zab u1 BW.out;rw[ea] at m1;clear ea HH;generalize hd (rlm W qa) (p:Int)=hh at *;obtain⟨P,U⟩:=hh;dsimp only at u0 u1 hq Q0 Q1;have DD:Hid (∀ V2,Below wc.heap.size wc V2->Calls _ _ _ _ _):=fun V2 hV=>D.out V2 P U (BW.out.trans (hV.mono BW.out.size));clear D;rw[<- hq] at DD;have HQ:Hid _:=hq;clear hq J;have d8:(p:Int)<16:=(by omega);have e1:hb<wc.heap.size:=yd _ _ u0
   go_upto_region 4 with (go_at_call 66;refine(DW.out _).mono ?_;rintro e w3 ⟨rfl,b1⟩;subst b1)
   have n1:¬ w3.heap.size=b:=(by omega);have e5:¬ b=w3.heap.size:=(by omega);have n2:¬ w3.heap.size=hb:=(by omega);have e6:¬ hb=w3.heap.size:=(by omega);have n3:¬ w3.heap.size=V.heap.size:=(by omega);have e7:¬ V.heap.size=w3.heap.size:=by omega
   go_cut [9,10] (fun s9 s10 wx=>∃ (c:Nat) (mm pp:Int),s9=.pointer (some ⟨c,0,none⟩)/\s10=.int .i64 qe/\Hid (Below w3.heap.size w3 wx)/\wx.cell? ⟨c,3,none⟩=some (.int .i64 mm)/\wx.cell? ⟨c,4,none⟩=some (.int .i64 pp)/\w3.heap.size<=c/\Hid (qe=0->mm=(nd (rlm W qa).s P.toNat).m/\pp=(nd (rlm W qa).s P.toNat).p))
   case first =>
    go_region_held3 (fun Z=>Z.cell? ⟨b,0,none⟩=some (.slice (s.R qa).a0 r0 (s.R qa).c0)/\Z.cell? ⟨b,1,none⟩=some (.slice (some ⟨hb,ho,none⟩) 16 (s.R qa).c1)/\Z.cell? ⟨V.heap.size,2,none⟩=some (.int .i64 p)/\Z.cell? ⟨hb,ho+p*2,none⟩=some (.int .i64 P)/\Z.cell? ⟨hb,ho+p*2+1,none⟩=some (.int .i64 U)) (go_keep) (first|(go_at_call 14;refine ye (DD.out w3.drew (yk _ _).drew) ?_;rintro e w5 ⟨nx,ka,kl,kc,rfl,F,T,b2⟩;have E:Hid (Below w3.heap.size w3 w5):=(yk _ _).drew.trans F;have a9:Hid _:=T;have g0:=zab m0 E.out;have g1:=zab m1 E.out;have gy:=zab a7 E.out;have b8:=zab u0 E.out;have b9:=zab u1 E.out;clear F T b2)|(go_at_call 14;refine ye (DD.out (w3.alloc (.cells #[.bool false,.int .i64 0,.int .i64 0,.int .i64 0,.int .i64 0,.slice none 0 0,.int .i64 0,.bool false] 57)).drew (zaa w3 _).drew) ?_;rintro e w5 ⟨nx,ka,kl,kc,rfl,F,T,b2⟩;have E:Hid (Below w3.heap.size w3 w5):=(zaa w3 _).drew.trans (F.mono (by simp));have a9:Hid _:=T;have g0:=zab m0 E.out;have g1:=zab m1 E.out;have gy:=zab a7 E.out;have b8:=zab u0 E.out;have b9:=zab u1 E.out;have X3:Hid (w5.heap[w3.heap.size]?=some (.cells #[.bool false,.int .i64 0,.int .i64 0,.int .i64 0,.int .i64 0,.slice none 0 0,.int .i64 0,.bool false] 57 (0,0))):=zaA (W:=(w3.alloc (.cells #[.bool false,.int .i64 0,.int .i64 0,.int .i64 0,.int .i64 0,.slice none 0 0,.int .i64 0,.bool false] 57)).drew) (yL w3 _) F;obtain⟨x0,x1,x2,x3,x4,x5,x6,x7,xf,xl⟩:=zdi X3.out;clear F T b2))
    ·go_wp2_with fail
     go_meet
     case rel =>
      have r:=zuC nx (.slice ka kl kc) 57 (yk w3.heap.size w3) E.out;exact⟨_,_,_,rfl,rfl,r.1,r.2.1,r.2.2.1,r.2.2.2,fun h=>by rw[a9.out h];exact⟨rfl,rfl⟩⟩
    ·go_wp2_with fail
     go_meet
     case rel =>
      have r:=zuD nx (.slice ka kl kc) (yk w3.heap.size w3) E.out X3.out;exact⟨_,_,_,rfl,rfl,r.1,r.2.1,r.2.2.1,r.2.2.2,fun h=>by rw[a9.out h];exact⟨rfl,rfl⟩⟩
   case rest =>
    obtain⟨c,mm,pp,rfl,rfl,b7,hm,d9,d6,HM⟩:=hcut;have I4:Hid _:=I2.out.below b7.out;have d4:c<wc.heap.size:=yd _ _ hm;clear m0 m1 m2 m3 u0 u1 a7
    go_wp2
    refine yw (v:=.tuple #[.int .i64 mm,.int .i64 qe]) (by simp[results,Tryz.results115,go_sem]) rfl ?_;by_cases hE:qe=0
    ·obtain⟨h1,h2⟩:=Hid.out Q0 hE;subst hE;rw[(HM.out rfl).1,h1,h2];exact zdJ.ok I4.out
    ·rw[Hid.out Q1 hE];exact zdJ.no I4.out hE
  ·have hq:=a8.out;rw[show (if isH xb then (0:Int) else 4)=4 from ya J,ya (by decide)] at hq;rw[show decide (0<=xb/\xb<=15)=false from yF J] at DW;subst hq;obtain rfl:=Hid.out Q1 (by decide);clear D HH
   go_wp2_with (go_at_call 66;refine(DW.out _).mono ?_;rintro e w3 ⟨rfl,b1⟩;subst b1)
   exact yw (v:=.tuple #[.int .i64 0,.int .i64 4]) (by simp[results,Tryz.results115,go_sem]) rfl (zdJ.no I2.out (by decide))
end Go.Proofs.YtcbcpomacdngmaaGreat
