/-
  x
-/
import Derived.Test.YtcbcpomacdngmaaGreatM40
namespace Go.Proofs.YtcbcpomacdngmaaGreat
set_option maxRecDepth 100000
set_option maxHeartbeats 4000000
set_option linter.unusedVariables false
open Go.RowKit Go.ChangeShapes Go.WideShapes
theorem ziR(a:Option Addr)(c:Nat)(L:List Fr)(k o:Int)(w:World)(hN:L.length<=9223372036854775807)(hL:zaS w a L) :
  yL 157 #[.slice a L.length c,.int .i64 k,.int .i64 o] w fun e w' => e=.returned (.int .i64 (goE L k o))/\Below w.heap.size w w' := by
 have D:Hid _:=zdZ a c L w hN hL;have T:Hid (∀ W,zaS W a L->_):=fun W hW=>zcz a c L k W hN hW;have DI:Hid (∀ W,_):=fun W=>zcB o 0 9 W;have HL:Hid (zaS w a L):=hL;clear hL;by_cases hc:zaO L=0
 ·by_cases hh:zax L k=0
  ·have h1:zcs L k=0:=(by unfold zcs;rw[yb hc];exact hh);obtain⟨R,q,rfl,hq,_⟩:=zfg h1;rw[hc] at D;rw[hh] at T;have a6:(q:Int)<(L.length:Int):=(by omega);by_cases h2:0<=o/\o<=9
   ·rw[yF h2] at DI;have ht:(fr L q).t<=1000:=(zde.1 (R.ok q hq)).2.1.2.2.2
    have e:goE L q o=if (fr L q).t=1000 then 1 else 0:=by
     unfold goE;rw[ya (yI h1),ya (yI h2),yi];by_cases Z:(fr L q).t=1000
     ·rw[yb Z,yb (by omega)]
     ·rw[ya Z,ya (by omega)]
    rw[e]
    have HC:Hid (∀ W,zaS W a L->∃ b U,a=some ⟨b,U,none⟩/\W.cell? ⟨b,U+q*5+3,none⟩=some (.int .i64 (fr L q).t)):=fun W hW=>by
     obtain⟨b,U,ea,c0,c1,c2,c3,c4⟩:=hW q hq;exact⟨b,U,ea,c3⟩
    obtain⟨b,U,ea,_⟩:=HC.out w HL.out;subst ea
    have a5:Hid (∀ W,zaS W (some ⟨b,U,none⟩) L->W.cell? ⟨b,U+q*5+3,none⟩=some (.int .i64 (fr L q).t)):=fun W hW=>by
     obtain⟨b', a7,ea,c3⟩:=HC.out W hW;cases ea;exact c3
    clear e h1 R hc hh HC ht h2;generalize (fr L q).t=t at *;obtain⟨n,hn⟩:∃ n,L.length=n:=⟨_,rfl⟩;rw[hn] at hN D T hq a6 |-;clear hn;by_cases Z:t=1000
    ·rw[yb Z];subst Z
     go_enter Tryz.func157,Tryz.ntmps157
     go_wp2_with fail
     refine ye D.out ?_;rintro e w1 ⟨rfl,I⟩;have M:Hid (Below w.heap.size w w1):=I;have O:Hid (zaS w1 (some ⟨b,U,none⟩) L):=HL.out.below I;clear I
     go_wp2_with fail
     refine ye (T.out _ O.out) ?_;rintro e w2 ⟨rfl,F⟩;have J:=F.symm;clear F;subst J
     go_wp2_with fail
     refine ye (DI.out _) ?_;rintro e w2 ⟨rfl,F⟩;have J:=F.symm;clear F;subst J;have c3:=a5.out _ O.out
     go_wp2_with fail
     go_ret;exact⟨rfl,M.out⟩
    ·rw[ya Z];have h4:decide (t=1000)=false:=yE Z;have h5:(t == 1000)=false:=by simp[Z]
     go_enter Tryz.func157,Tryz.ntmps157
     go_wp2_with fail
     refine ye D.out ?_;rintro e w1 ⟨rfl,I⟩;have M:Hid (Below w.heap.size w w1):=I;have O:Hid (zaS w1 (some ⟨b,U,none⟩) L):=HL.out.below I;clear I
     go_wp2_with fail
     refine ye (T.out _ O.out) ?_;rintro e w2 ⟨rfl,F⟩;have J:=F.symm;clear F;subst J
     go_wp2_with fail
     refine ye (DI.out _) ?_;rintro e w2 ⟨rfl,F⟩;have J:=F.symm;clear F;subst J;have c3:=a5.out _ O.out
     go_wp2_with fail
     go_ret;exact⟨rfl,M.out⟩
   ·rw[yE h2] at DI;have e:goE L q o=2:=(by unfold goE;rw[ya (yI h1),yb h2]);rw[e];clear e h1 R hc hh h2;obtain⟨n,hn⟩:∃ n,L.length=n:=⟨_,rfl⟩;rw[hn] at hN D T hq a6 |-;clear hn
    go_enter Tryz.func157,Tryz.ntmps157
    go_wp2_with fail
    refine ye D.out ?_;rintro e w1 ⟨rfl,I⟩;have M:Hid (Below w.heap.size w w1):=I;have O:Hid (zaS w1 a L):=HL.out.below I;clear I
    go_wp2_with fail
    refine ye (T.out _ O.out) ?_;rintro e w2 ⟨rfl,F⟩;have J:=F.symm;clear F;subst J
    go_wp2_with fail
    refine ye (DI.out _) ?_;rintro e w2 ⟨rfl,F⟩;have J:=F.symm;clear F;subst J
    go_wp2_with fail
    go_ret;exact⟨rfl,M.out⟩
  ·have h1:zcs L k=zax L k:=(by unfold zcs;rw[yb hc]);have e:goE L k o=zax L k:=(by unfold goE;rw[h1,yb hh]);rw[e];rw[hc] at D;have e2:decide (zax L k=0)=false:=yE hh;have e3:(zax L k == 0)=false:=(by simp[hh]);clear e h1 hc;generalize zax L k=E at *;obtain⟨n,hn⟩:∃ n,L.length=n:=⟨_,rfl⟩;rw[hn] at hN D T |-;clear hn hh
   go_enter Tryz.func157,Tryz.ntmps157
   go_wp2_with fail
   refine ye D.out ?_;rintro e w1 ⟨rfl,I⟩;have M:Hid (Below w.heap.size w w1):=I;have O:Hid (zaS w1 a L):=HL.out.below I;clear I
   go_wp2_with fail
   refine ye (T.out _ O.out) ?_;rintro e w2 ⟨rfl,F⟩;have J:=F.symm;clear F;subst J
   go_wp2_with fail
   go_ret;exact⟨rfl,M.out⟩
 ·have h1:zcs L k=zaO L:=by unfold zcs;rw[ya hc]
  have e:goE L k o=zaO L:=by unfold goE;rw[h1,yb hc]
  rw[e];have e2:decide (zaO L=0)=false:=yE hc;have e3:(zaO L == 0)=false:=by simp[hc]
  clear e h1;generalize zaO L=E at *;obtain⟨n,hn⟩:∃ n,L.length=n:=⟨_,rfl⟩;rw[hn] at hN D T |-;clear hn hc
  go_enter Tryz.func157,Tryz.ntmps157
  go_wp2_with fail
  refine ye D.out ?_;rintro e w1 ⟨rfl,I⟩;have M:Hid (Below w.heap.size w w1):=I;clear I
  go_wp2_with fail
  go_ret;exact⟨rfl,M.out⟩
theorem zzx(a:Option Addr)(c:Nat)(L:List Fr)(k o:Int)(w:World)(O:L.length<=9223372036854775807)(M:zaS w a L)(J:goE L k o≠0) :
  yL 141 #[.slice a L.length c,.int .i64 k,.int .i64 o] w fun e w' => e=.returned (.tuple #[.slice none 0 0,.int .i64 (goE L k o)])/\Below w.heap.size w w' := by
 have D:Hid _:=ziR a c L k o w O M;have T:decide (goE L k o=0)=false:=yE J;have U:(goE L k o == 0)=false:=by simp[J]
 clear M;generalize goE L k o=E at *;generalize L.length=n at *
 go_enter Tryz.func141,Tryz.ntmps141
 go_wp2_with fail
 refine ye D.out ?_;rintro e w1 ⟨rfl,F⟩;have I:Hid (Below w.heap.size w w1):=F;clear F
 go_wp2_with fail
 exact yv (v:=.tuple #[.slice none 0 0,.int .i64 E]) (by simp[results,Tryz.results141,go_sem]) rfl ⟨rfl,I.out⟩
def goG(L:List Fr)(k:Nat)(i:Nat):List Fr:=(List.range L.length).map fun j=>if j<i/\j≠k then { fr L j with g:=(fr L j).g || inF L j k } else fr L j
theorem zyh(L:List Fr)(k i:Nat):(goG L k i).length=L.length:=by unfold goG;simp
theorem zib{L:List Fr}{k i j:Nat}(h:j<L.length):fr (goG L k i) j=if j<i/\j≠k then { fr L j with g:=(fr L j).g || inF L j k } else fr L j:=by
 rw[zgk (by rw[zyh];exact h)];unfold goG;simp
theorem znY{w:World}{g:Nat}{L:List Fr}{k:Nat}(h:zeW w g L.length L):zeW w g L.length (goG L k 0):=by
 obtain⟨F,h1,D⟩:=h;exact⟨F,h1,fun m E=>(D m E).trans (zgS (by rw[zib (by omega),ya (by omega)]))⟩
theorem zvH{w:World}{g i:Nat}{L:List Fr}{k:Nat}(h:zeW w g L.length (goG L k i))(hi:i<L.length)(D:i=k\/inF L i k=false):zeW w g L.length (goG L k (i+1)):=by
 obtain⟨F,h1,I⟩:=h;refine⟨F,h1,fun m J=>(I m J).trans (zgS ?_)⟩;rw[zib (by omega),zib (by omega)];by_cases e:m / 5=i
 ·rw[e,ya (by omega)];rcases D with D|D
  ·rw[ya (by omega)]
  ·by_cases M:i=k
   ·rw[ya (by omega)]
   ·rw[yb (by omega),D,Bool.or_false]
 ·by_cases E:m / 5<i/\m / 5≠k
  ·rw[yb E,yb (by omega)]
  ·rw[ya E,ya (by omega)]
theorem zsS{w:World}{g i:Nat}{L:List Fr}{k:Nat}(h:zeW w g L.length (goG L k i))(hi:i<L.length)(T:i≠k)(E:inF L i k=true):zeW (w.setCell ⟨g,i*5+4,none⟩ (.bool true)) g L.length (goG L k (i+1)):=by
 obtain⟨F,h1,M⟩:=h;refine⟨_,h1.set (i*5+4) (.bool true),fun m O=>?_⟩;by_cases e:m=i*5+4
 ·subst e;rw[yb rfl,zdx _ _ 4 (by omega),zib hi,yb (by omega),E,Bool.or_true];rfl
 ·rw[ya e,M m O];unfold frF;rw[zib (by omega),zib (by omega)];by_cases J:m / 5=i
  ·rw[J,ya (by omega),yb (by omega)];have D:m % 5=0\/m % 5=1\/m % 5=2\/m % 5=3:=(by omega);rcases D with D|D|D|D <;> rw[D] <;> rfl
  ·by_cases I:m / 5<i/\m / 5≠k
   ·rw[yb I,yb (by omega)]
   ·rw[ya I,ya (by omega)]
theorem zsR{w:World}{g:Nat}{L:List Fr}{k:Nat}{o:Int}(h:zeW w g L.length (goG L k L.length))(E:k<L.length) :
  zeW ((w.setCell ⟨g,k*5+1,none⟩ (.int .i64 o)).setCell ⟨g,k*5+3,none⟩ (.int .i64 ((fr L k).t+1))) g L.length (goF L k o):=by
 obtain⟨F,h1,M⟩:=h;refine⟨_,(h1.set (k*5+1) (.int .i64 o)).set (k*5+3) (.int .i64 ((fr L k).t+1)),fun m O=>?_⟩;by_cases e:m=k*5+3
 ·subst e;rw[yb rfl,zdx _ _ 3 (by omega),zgm E];rfl
 ·rw[ya e];by_cases I:m=k*5+1
  ·subst I;rw[yb rfl,zdx _ _ 1 (by omega),zgm E];rfl
  ·rw[ya I,M m O];unfold frF;rw[zib (by omega)];by_cases J:m / 5=k
   ·rw[J,ya (by omega),zgm E];have D:m % 5=0\/m % 5=2\/m % 5=4:=(by omega);rcases D with D|D|D <;> rw[D] <;> rfl
   ·rw[yb (by omega),zdH (by omega) J]
theorem go_ok(a:Option Addr)(c:Nat)(L:List Fr)(k o:Int)(w:World)(hL:zaS w a L)(hE:goE L k o=0) :
  yL 141 #[.slice a L.length c,.int .i64 k,.int .i64 o] w fun e w' => ∃ g,e=.returned (.tuple #[.slice (some ⟨g,0,none⟩) L.length L.length,.int .i64 0])/\Below w.heap.size w w' /\ w.heap.size<=g/\zaS w' (some ⟨g,0,none⟩) (goF L k o):=by
 obtain⟨hh,ho,ht⟩:=zsV hE;obtain⟨R,q,rfl,hq,hg⟩:=zfg hh;have hN:=R.few;have d:=ziR a c L q o w (by omega) hL;rw[hE] at d;have D:Hid _:=d;have HL:Hid (zaS w a L):=hL;have e2:0<=(fr L q).t/\(fr L q).t<=1000:=(zde.1 (R.ok q hq)).2.1.2.2;obtain⟨b,ao,ea,c0,c1,c2,c3,c4⟩:=hL q hq;subst ea;clear c0 c1 c2 c3 c4 hg hE R d hL ho ht hh;have DW:Hid (∀ (i:Nat) (W:World),zaS W (some ⟨b,ao,none⟩) L->_):=fun i W hW=>zgl (some ⟨b,ao,none⟩) c L (i:Int) (q:Int) W (by omega) hW;obtain⟨i0,c9,e4,d6,e5⟩:=info_parts ziZ;have d5:=zkL L.length (by omega);have c6:Hid (∀ W,zaS W (some ⟨b,ao,none⟩) L->∀ j v,(zbA L)[j]?=some v->W.cell? ((⟨b,ao,none⟩:Addr).add j)=some v):=fun W hW=>hW.src;have b9:Hid _:=zhv L;have a9:Hid ((zbA L).length=L.length*5):=zdY L;have CP:Hid (∀ (W:World) (g:Nat),W.heap[g]?=some (.cells (zbA L++(madeCells zeu (L.length*5)).toList.drop (zbA L).length).toArray 65 (0,0))->zeW W g L.length (goG L q 0)):=fun W g hg=>znY (by obtain⟨F,h1,U⟩:=zky hg (yj _);exact⟨F,h1,U⟩);have b4:Hid (∀ (W:World) (g i:Nat),zeW W g L.length (goG L q i)->i<L.length->i≠q->inF L i q=true->zeW (W.setCell ⟨g,i*5+4,none⟩ (.bool true)) g L.length (goG L q (i+1))):=fun W g i h1 U h3 h4=>zsS h1 U h3 h4;have NO:Hid (∀ (W:World) (g i:Nat),zeW W g L.length (goG L q i)->i<L.length->(i=q\/inF L i q=false)->zeW W g L.length (goG L q (i+1))):=fun W g i h1 U h3=>zvH h1 U h3
 have b2:Hid (∀ (W:World) (g:Nat),zeW W g L.length (goG L q L.length)->zaS ((W.setCell ⟨g,q*5+1,none⟩ (.int .i64 o)).setCell ⟨g,q*5+3,none⟩ (.int .i64 ((fr L q).t+1))) (some ⟨g,0,none⟩) (goF L q o)):=fun W g h=>by
  obtain⟨F,h1,U⟩:=zsR (o:=o) h hq;exact zhy h1 (by rw[zgU];exact yj _) (fun m hm=>U m (by rw[zgU] at hm;exact hm))
 have I:Hid (∀ (W:World) (g i j:Nat) (M:List Fr),j<5->zeW W g L.length M->i<L.length->(∃ u,W.cell? ⟨g,i*5+j,none⟩=some u)/\(∀ o,W.frozen? ⟨g,o,none⟩=false)/\g<W.heap.size):=fun W g i j M hj ⟨F,h1,U⟩ hi=>⟨⟨_,h1.cell (by omega)⟩,h1.frozen,h1.lt⟩
 have a6:Hid (∀ (W:World) (g:Nat),zeW W g L.length (goG L q L.length)->W.cell? ⟨g,q*5+3,none⟩=some (.int .i64 (fr L q).t)):=fun W g ⟨F,h1,U⟩=>by
  rw[h1.cell (by omega),U _ (by omega),zdx _ _ 3 (by omega),zib hq,ya (by omega)];rfl
 generalize zbA L=cs at *;generalize goF L q o=DF at *;generalize (fr L q).t=t at *;have e3:IntKind.i64.wrap (t+1)=t+1:=by rw[yH];omega
 obtain⟨n,hn⟩:∃ n,L.length=n:=⟨_,rfl⟩;have HN:Hid (L.length=n):=hn;rw[hn] at hN hq D DW d5 a9 CP b4 NO b2 I a6 |-;clear hn;have e1:(q:Int)<(n:Int):=by omega
 go_enter Tryz.func141,Tryz.ntmps141
 go_wp2_with fail
 refine ye D.out ?_;rintro e w1 ⟨rfl,b0⟩;have a8:Hid (Below w.heap.size w w1):=b0;have b3:Hid (zaS w1 (some ⟨b,ao,none⟩) L):=HL.out.below b0;clear b0
 have HG:Hid ((w1.alloc (.cells (madeCells zeu (n*5)) 65)).heap[w1.heap.size]?=some (.cells (madeCells zeu (n*5)).toList.toArray 65 (0,0))):=by
  have:=yK w1 (.cells (madeCells zeu (n*5)) 65);show _=_;simpa using this
 go_wp2_with (refine zcY rfl (.tmp 21) (.tmp 22) 22 22 rfl 65 i0 Tryz.underlying22 c9 w1.heap.size 0 n n ⟨b,ao,none⟩ n c n ?hd ?hs (madeCells zeu (n*5)).toList 65 ?hg cs ?hn ?hl ?hsrc ?hfit ?h1 ?_)
 case hd=>rfl
 case hs=>rfl
 case hg=>exact HG.out
 case hn=>show n=min n n;omega
 case hl=>rw[a9.out,d6]
 case hsrc=>exact c6.out _ (b3.out.below (zaa _ _))
 case hfit=>rw[a9.out];simp[size_madeCells]
 case h1=>exact b9.out
 intro w3 b6 b5;have b7:Hid (Below w1.heap.size w1 w3):=b5 _ _ (zaa w1 _) (yj _);have HR:Hid (zeW w3 w1.heap.size n (goG L q 0)):=CP.out w3 _ b6;clear b6 b5 HG
 go_wp2_with fail
 go_loopg [26] n (fun g s26 wr=>∃ i:Nat,i<=n/\n-i<=g/\s26=.int .i64 i/\Hid (Below w1.heap.size w1 wr)/\Hid (zeW wr w1.heap.size n (goG L q i)))
 case atStart=>exact⟨0,by omega,by omega,rfl,b7,HR⟩
 case round =>
  obtain⟨i,hi,hg,rfl,J,E⟩:=hrel;clear HR;by_cases a5:i<n
  ·have e0:(i:Int)<(n:Int):=(by omega);have DI:=DW.out i wr (b3.out.below J.out);obtain⟨⟨u,hu⟩,c7,c8⟩:=I.out wr _ i 4 _ (by omega) E.out a5;by_cases Z:i=q
   ·have O:Hid _:=NO.out wr _ i E.out a5 (Or.inl Z);subst Z;clear DI
    go_wp2_with fail
    go_roundg (n-(i+1))
    case measure=>omega
    case rel=>exact⟨i+1,by omega,by omega,by go_num,J,O⟩
   ·have d7:decide ((i:Int)=(q:Int))=false:=yE (by omega);have d8:((i:Int) ==(q:Int))=false:=(by simp;omega);have d9:decide (i=q)=false:=yE Z
    cases hin:inF L (i:Int) (q:Int) with
    | true =>
     rw[hin] at DI;have a7:Hid _:=DI;have O:Hid _:=b4.out wr _ i E.out a5 Z hin;clear hin DI
     go_wp2_with fail
     refine ye a7.out ?_;rintro e w4 ⟨rfl,T⟩;have b1:=T.symm;clear T;subst b1
     go_wp2_with fail
     go_roundg (n-(i+1))
     case measure=>omega
     case rel=>exact⟨i+1,by omega,by omega,by go_num,J.out.setCell (yj _) _,O⟩
    | false =>
     rw[hin] at DI;have a7:Hid _:=DI;have O:Hid _:=NO.out wr _ i E.out a5 (Or.inr hin);clear hin DI
     go_wp2_with fail
     refine ye a7.out ?_;rintro e w4 ⟨rfl,T⟩;have b1:=T.symm;clear T;subst b1
     go_wp2_with fail
     go_roundg (n-(i+1))
     case measure=>omega
     case rel=>exact⟨i+1,by omega,by omega,by go_num,J,O⟩
  ·have d4:i=n:=(by omega);subst d4;have HF:Hid _:=b2.out wr _ E.out;have ct:=a6.out wr _ E.out;obtain⟨⟨u,hu⟩,c7,c8⟩:=I.out wr _ q 1 _ (by omega) E.out hq;have b8:Hid (Below w1.heap.size w1 ((wr.setCell ⟨w1.heap.size,q*5+1,none⟩ (.int .i64 o)).setCell ⟨w1.heap.size,q*5+3,none⟩ (.int .i64 (t+1)))):=(J.out.setCell (yj _) _).setCell (yj _) _;clear E
   go_wp2_with fail
   exact yv (v:=.tuple #[.slice (some ⟨w1.heap.size,0,none⟩) i i,.int .i64 0]) (by simp[results,Tryz.results141,go_sem]) rfl ⟨_,rfl,a8.out.trans (b8.out.mono a8.out.size),a8.out.size,HF.out⟩
theorem zhw(x:Ac)(w:World):yL 113 #[acV x] w fun e w' => e=.returned (.int .i64 x.a)/\Below w.heap.size w w' := by
 obtain⟨I,D,E,F,J⟩:=x;show yL _ #[.agg #[.int .i64 I,.int .i64 D,.int .i64 E,.int .i64 F,.int .i64 J]] w _
 go_enter Tryz.func113,Tryz.ntmps113
 go_wp2
 go_ret;exact⟨rfl,zaa _ _⟩
theorem zhx(x:Ac)(w:World):yL 111 #[acV x] w fun e w' => e=.returned (.int .i64 x.n)/\Below w.heap.size w w' := by
 obtain⟨I,D,E,F,J⟩:=x;show yL _ #[.agg #[.int .i64 I,.int .i64 D,.int .i64 E,.int .i64 F,.int .i64 J]] w _
 go_enter Tryz.func111,Tryz.ntmps111
 go_wp2
 go_ret;exact⟨rfl,zaa _ _⟩
theorem zqE(K1 K2 c1 c2 c3:Nat)(J:Array Value)(D t:Int)(b4:∀ args w,(callFunc K1 args).run Tryz.prog w=.ok (.enter K1 args) w)(b5:∀ args w,(callFunc K2 args).run Tryz.prog w=.ok (.enter K2 args) w)(me:Nat)(W:Wl)(x:Ac)(hw:(Lit.int .i64 D).wf=true)(h1:∀ V,yL K1 #[acV x] V fun e w' => e=.returned (.int .i64 t)/\Below V.heap.size V w')(C:World->Prop)(hC:∀ V V', C V->Below V.heap.size V V' -> C V')(q:Ws)(h2:zdF W.fs me t D=0->zhn K2 J C me W x q) :
  zhn 136 #[.pointer (some ⟨c1,0,none⟩),.pointer (some ⟨c2,0,none⟩),.pointer (some ⟨c3,0,none⟩)] (fun V=>V.cell? ⟨c1,0,none⟩=some (.func (.func K1) #[] #[])/\V.cell? ⟨c2,0,none⟩=some (.int .i64 D)/\V.cell? ⟨c3,0,none⟩=some (.func (.func K2) #[] J)/\C V) me W x (if zdF W.fs me t D=0 then q else ⟨zdF W.fs me t D,W,0⟩):=fun w0 d s V I ⟨v1,v2,v3,v4⟩=>by
 obtain⟨xk,xa,xb,xc,xn⟩:=x;have II:Hid (SW w0 d me W s V):=I;have b0:=I.lt;have b3:Hid _:=b0;obtain⟨l0,l1,l2,l3,l4,lf,ll⟩:=zaj I.box;have d5:d<V.heap.size:=ll;have n8:W.fs.length<=8:=I.rt.fs.few;have d9:me<W.fs.length:=I.sf;clear b0;show yL _ #[.pointer (some ⟨d,0,none⟩),.int .i64 (me:Int),.agg #[.int .i64 xk,.int .i64 xa,.int .i64 xb,.int .i64 xc,.int .i64 xn],.pointer (some ⟨c1,0,none⟩),.pointer (some ⟨c2,0,none⟩),.pointer (some ⟨c3,0,none⟩)] V _;have D1:Hid (∀ V,Calls _ _ _ _ _):=h1;have D2:Hid (∀ U,Below V.heap.size V U->Calls _ _ _ _ _):=fun U hV=>zys s.a0 s.c0 W.fs me t D U hw (by omega) (I.dp.fr.at.below hV);have HC:Hid (C V):=v4;have D3:Hid (zdF W.fs me t D=0->∀ U,SW w0 d me W s U->C U->yL K2 (#[.pointer (some ⟨d,0,none⟩),.int .i64 (me:Int),.agg #[.int .i64 xk,.int .i64 xa,.int .i64 xb,.int .i64 xc,.int .i64 xn]] ++ J) U (zdM w0 d me q)):=fun h U hV hc=>h2 h w0 d s U hV hc;dsimp only[acV] at D1;have d6:c1<V.heap.size:=yd _ _ v1;have d7:c2<V.heap.size:=yd _ _ v2;have d8:c3<V.heap.size:=yd _ _ v3;obtain⟨n,hn⟩:∃ n,W.fs.length=n:=⟨_,rfl⟩;have HN:Hid (W.fs.length=n):=hn;obtain⟨nt,a9⟩:∃ n,W.pt.length=n:=⟨_,rfl⟩;have b2:Hid (W.pt.length=nt):=a9;rw[hn] at l0 D2;clear hn a9 I h1 h2 v4 l1 l2 l3 l4;obtain⟨E,Z⟩:∃ E,zdF W.fs me t D=E:=⟨_,rfl⟩;rw[Z] at D2 D3 |-;clear Z;obtain⟨qq,a5⟩:∃ qq:Ws,(if E=0 then q else ⟨E,W,0⟩)=qq:=⟨_,rfl⟩;have HQ:Hid (_=qq):=a5;rw[a5];clear a5
 go_enter Tryz.func136,Tryz.ntmps136
 go_upto_region 1 with fail
 obtain⟨V1,a6,T,y0,y1,y2,y3,y4,sV⟩:=zcx V xk xa xb xc xn;rw[a6];clear a6;replace l0:=zab l0 T.out;replace v1:=zab v1 T.out;replace v2:=zab v2 T.out;replace v3:=zab v3 T.out
 go_region_held3 (fun F=>F.cell? ⟨d,0,none⟩=some (.slice s.a0 n s.c0)/\F.cell? ⟨c1,0,none⟩=some (.func (.func K1) #[] #[])/\F.cell? ⟨c2,0,none⟩=some (.int .i64 D)/\F.cell? ⟨V.heap.size,0,none⟩=some (.int .i64 xk)/\F.cell? ⟨V.heap.size,1,none⟩=some (.int .i64 xa)/\F.cell? ⟨V.heap.size,2,none⟩=some (.int .i64 xb)/\F.cell? ⟨V.heap.size,3,none⟩=some (.int .i64 xc)/\F.cell? ⟨V.heap.size,4,none⟩=some (.int .i64 xn)) (go_keep) (first|(go_at_fn K1;refine ye (D1.out V1.drew) ?_;rintro e w3 ⟨rfl,a7⟩;have M:Hid (Below V1.heap.size V1 w3):=(yk _ _).drew.trans a7;have b6:=zab l0 M.out;have b7:=zab v1 M.out;have b8:=zab v2 M.out;have b9:=zab v3 M.out;have c6:=zab y0 M.out;have c7:=zab y1 M.out;have c8:=zab y2 M.out;have c9:=zab y3 M.out;have d4:=zab y4 M.out;clear a7)|(go_at_call 137;refine ye (D2.out w3 (T.out.trans (M.out.mono T.out.size))) ?_;rintro e w4 ⟨rfl,a8⟩;have O:Hid (Below V1.heap.size V1 w4):=M.out.trans (a8.mono M.out.size);have e0:=zab l0 O.out;have e1:=zab v1 O.out;have e2:=zab v2 O.out;have e3:=zab v3 O.out;have e4:=zab y0 O.out;have e5:=zab y1 O.out;have e6:=zab y2 O.out;have e7:=zab y3 O.out;have e8:=zab y4 O.out;clear a8))
 have I4:Hid _:=II.out.below (T.out.trans (O.out.mono T.out.size));have C4:Hid (C w4):=hC _ _ HC.out (T.out.trans (O.out.mono T.out.size));by_cases Z:E=0
 ·subst Z;obtain rfl:=(yb rfl).symm.trans HQ.out;have D4:Hid _:=D3.out rfl w4 I4.out C4.out
  go_wp2_with (go_at_fn K2;refine ye D4.out ?_;rintro e w5 ⟨o,s', rfl,ho,b1⟩)
  have HO:Hid _:=ho;have HS:Hid _:=b1;exact yv (v:=.tuple #[.int .i64 o,.int .i64 q.e]) (by simp[results,Tryz.results136,go_sem]) rfl ⟨o,s', rfl,HO.out,HS.out⟩
 ·obtain rfl:=(ya Z).symm.trans HQ.out;have hz:(E == 0)=false:=by simp[Z]
  go_wp2
  exact yv (v:=.tuple #[.int .i64 0,.int .i64 E]) (by simp[results,Tryz.results136,go_sem]) rfl (zdM.no I4.out Z)
theorem zpk{L:List Fr}{f t x:Int}(h:zdF L f t x=0):zcs L t=0:=by
 obtain⟨h1,_,D,_⟩:=zbR h;unfold zcs;simp[h1,D]
theorem zxl{X:Nat->Prop}{V:World}{g:Nat}{L:List Fr}(h:zaS V (some ⟨g,0,none⟩) L)(F:¬ X g):St X (fun V=>zaS V (some ⟨g,0,none⟩) L) V:=fun I E i hi=>by
 obtain⟨b,o,e,c0,c1,c2,c3,c4⟩:=h i hi;cases e;have D:=E.block g (yd _ _ c0) F;exact⟨g,0,rfl,(yB D).trans c0,(yB D).trans c1,(yB D).trans c2,(yB D).trans c3,(yB D).trans c4⟩
theorem zjJ(me:Nat)(W:Wl)(x:Ac)(hm:zdF W.fs me x.n 2=0):zhn 112 #[] (fun _=>True) me W x ⟨0,W,(zki W.fs x.n:Nat)⟩:=fun w0 d s V I _=>by
 obtain⟨xk,xa,xb,xc,F⟩:=x;have II:Hid (SW w0 d me W s V):=I;have T:=I.lt;have a8:Hid _:=T;obtain⟨Z,l1,l2,l3,l4,lf,ll⟩:=zaj I.box;have b1:d<V.heap.size:=ll;have n8:W.fs.length<=8:=I.rt.fs.few;have a5:me<W.fs.length:=I.sf;clear T;dsimp only at hm |-;have hh:zcs W.fs F=0:=zpk hm;have D:Hid (∀ V2,Below V.heap.size V V2->Calls _ _ _ _ _):=fun V2 hV=>zqT s.a0 s.c0 W.fs F V2 (by omega) (I.dp.fr.at.below hV);have e1:zAF W.fs F=(zki W.fs F:Nat):=yb hh;rw[e1,hh] at D;clear e1 hh hm;show yL _ #[.pointer (some ⟨d,0,none⟩),.int .i64 (me:Int),.agg #[.int .i64 xk,.int .i64 xa,.int .i64 xb,.int .i64 xc,.int .i64 F]] V _;obtain⟨n,hn⟩:∃ n,W.fs.length=n:=⟨_,rfl⟩;have HN:Hid (W.fs.length=n):=hn;obtain⟨nt,J⟩:∃ n,W.pt.length=n:=⟨_,rfl⟩;have a7:Hid (W.pt.length=nt):=J;rw[J] at l4;rw[hn] at Z l1 l2 l3 n8 a5;rw[hn] at D;obtain⟨L,hL⟩:∃ L:Int,((zki W.fs F:Nat):Int)=L:=⟨_,rfl⟩;rw[hL] at D |-;clear hL;clear hn J I;have a6:(me:Int)<(n:Int):=by omega
 go_enter Tryz.func112,Tryz.ntmps112
 go_upto_region 1 with fail
 obtain⟨V1,M,E,y0,y1,y2,y3,y4,sV⟩:=zcx V xk xa xb xc F;rw[M];clear M;replace Z:=zab Z E.out;replace l1:=zab l1 E.out;replace l2:=zab l2 E.out;replace l3:=zab l3 E.out;replace l4:=zab l4 E.out
 go_region_held3 (fun U=>U.cell? ⟨d,0,none⟩=some (.slice s.a0 n s.c0)/\U.cell? ⟨V.heap.size,4,none⟩=some (.int .i64 F)) (go_keep) (first|(go_at_call 138;refine ye (D.out V1.drew E.out.drew) ?_;rintro e w3 ⟨rfl,O⟩;have B3:Hid (Below V1.heap.size V1 w3):=(yk _ _).drew.trans O;have a9:=zab Z B3.out;have b0:=zab y4 B3.out;clear O))
 have I2:Hid _:=II.out.below (E.out.trans (B3.out.mono E.out.size))
 go_wp2
 exact yv (v:=.tuple #[.int .i64 L,.int .i64 0]) (by simp[results,Tryz.results112,go_sem]) rfl (zdM.ok I2.out)
theorem zqR(me:Nat)(W:Wl)(x:Ac)(hm:zdF W.fs me x.n 4=0):zhn 116 #[] (fun _=>True) me W x ⟨0,{ W with fs:=zjR W.fs x.n },0⟩:=fun w0 d s V I _=>by
 obtain⟨xk,xa,xb,xc,J⟩:=x;have II:Hid (SW w0 d me W s V):=I;have a6:=I.lt;have a8:Hid _:=a6;obtain⟨l0,l1,l2,l3,l4,lf,ll⟩:=zaj I.box;have b4:d<V.heap.size:=ll;have n8:W.fs.length<=8:=I.rt.fs.few;have a9:me<W.fs.length:=I.sf;clear a6;dsimp only at hm |-;have hh:zcs W.fs J=0:=zpk hm;have D:Hid (∀ F,Below V.heap.size V F->Calls _ _ _ _ _):=fun F hV=>zqr s.a0 s.c0 W.fs J F n8 (I.dp.fr.at.below hV) hh;have FS:Hid (∀ F g,SW w0 d me W s F->V.heap.size<=g->zaS F (some ⟨g,0,none⟩) (zjR W.fs J)->∃ s', SW w0 d me { W with fs:=zjR W.fs J } s' (F.setCell ⟨d,0,none⟩ (.slice (some ⟨g,0,none⟩) W.fs.length W.fs.length))):=fun F g h2 hg hf=>⟨_,h2.frames (zxl hf (fun hb=>by have:=a8.out g hb;omega)) (zdu _ _) (zjb I.rt me J) (by rw[zdu];exact⟨(fun e=>by cases e),yj _,by omega⟩)⟩;clear hh hm;show yL _ #[.pointer (some ⟨d,0,none⟩),.int .i64 (me:Int),.agg #[.int .i64 xk,.int .i64 xa,.int .i64 xb,.int .i64 xc,.int .i64 J]] V _;obtain⟨n,hn⟩:∃ n,W.fs.length=n:=⟨_,rfl⟩;have HN:Hid (W.fs.length=n):=hn;obtain⟨nt,M⟩:∃ n,W.pt.length=n:=⟨_,rfl⟩;have b1:Hid (W.pt.length=nt):=M;rw[M] at l4;rw[hn] at l0 l1 l2 l3 n8 a9;rw[hn] at D FS;clear hn M I;have b0:(me:Int)<(n:Int):=by omega
 go_enter Tryz.func116,Tryz.ntmps116
 go_upto_region 1 with fail
 obtain⟨V1,O,E,y0,y1,y2,y3,y4,sV⟩:=zcx V xk xa xb xc J;rw[O];clear O;replace l0:=zab l0 E.out;replace l1:=zab l1 E.out;replace l2:=zab l2 E.out;replace l3:=zab l3 E.out;replace l4:=zab l4 E.out
 go_region_held3 (fun a7=>a7.cell? ⟨d,0,none⟩=some (.slice s.a0 n s.c0)/\a7.cell? ⟨V.heap.size,4,none⟩=some (.int .i64 J)) (go_keep) (first|(go_at_call 140;refine ye (D.out V1.drew E.out.drew) ?_;rintro e w3 ⟨g,rfl,T,Z,U⟩;have B3:Hid (Below V1.heap.size V1 w3):=(yk _ _).drew.trans T;have b2:=zab l0 B3.out;have b3:=zab y4 B3.out;have HG:Hid (V.heap.size<=g):=yG E.out.size (show V1.heap.size<=g from Z);have HF:Hid _:=U;clear U Z;clear T))
 have I2:Hid _:=II.out.below (E.out.trans (B3.out.mono E.out.size));obtain⟨s', a5⟩:=FS.out w3 g I2.out HG.out HF.out;have HS:Hid _:=a5;obtain⟨b5,b6,b7,b8,b9,c6,c7⟩:=zaj I2.out.box;clear a5 l0 l1 l2 l3 l4
 go_wp2
 exact yv (v:=.tuple #[.int .i64 0,.int .i64 0]) (by simp[results,Tryz.results116,go_sem]) rfl (zdM.ok HS.out)
theorem SW.fcell{D:W0}{d me:Nat}{W:Wl}{s:SD}{V:World}(I:SW D d me W s V){i:Nat}(hi:i<W.fs.length):∃ b o,s.a0=some ⟨b,o,none⟩/\V.cell? ⟨b,o+i*5+2,none⟩=some (.int .i64 (fr W.fs i).m)/\V.cell? ⟨b,o+i*5+3,none⟩=some (.int .i64 (fr W.fs i).t)/\b<V.heap.size:=by
 obtain⟨b,o,e,c0,c1,c2,c3,c4⟩:=I.dp.fr.at i hi;exact⟨b,o,e,c2,c3,yd _ _ c2⟩
theorem zlY(W:Wl)(k:Nat):zaB W (k:Int)=(fr W.fs k).t:=by unfold zaB;rw[yi]
theorem SW.big{D:W0}{d me:Nat}{W:Wl}{s:SD}{V:World}(I:SW D d me W s V):W.pt.length<=9223372036854775807/\zrF W.pt:=(zcK I.rt).2.2.2.2
theorem ztP(me:Nat)(W:Wl)(x:Ac):zhn 118 #[] (fun _=>True) me W x (zuL W me):=fun w0 d s V I _=>by
 have QI:=zeO [zfq W.pt (many W) me (zaB W me)] W { W with pt:=zct W.pt me (zaB W me) } W.pt.length;rw[zkD] at QI;change QIs (zuL W me) _ _ _ _ at QI;obtain⟨xk,xa,xb,xc,xn⟩:=x;have II:Hid (SW w0 d me W s V):=I;have b3:=I.lt;have b5:Hid _:=b3;obtain⟨Z,l1,l2,l3,l4,lf,ll⟩:=zaj I.box;have c9:d<V.heap.size:=ll;have n8:W.fs.length<=8:=I.rt.fs.few;have b9:me<W.fs.length:=I.sf;clear b3;obtain⟨fb,fo,ea,fm,ft,fl⟩:=I.fcell I.sf;rw[ea] at Z;have TN:=zlY W me;obtain⟨F,b4⟩:∃ t,(fr W.fs me).t=t:=⟨_,rfl⟩;rw[b4] at ft TN;clear b4 ea;have a7:∀ J,Below V.heap.size V J->∀ b,SX w0.heap.size d s b->b<J.heap.size:=fun J hV b hb=>yx (b5.out b hb) hV.size;have M:=I.big;rw[TN] at QI;have D:Hid (∀ J,Below V.heap.size V J->Calls _ _ _ _ _):=fun J hV=>ztN (SX w0.heap.size d s) s.a4 s.c4 W.pt (many W) me F J (a7 J hV) M.1 M.2 I.dp.pc (I.dp.pt.off (zar.of_below hV))
 have PS:Hid (zfq W.pt (many W) me F=0->∀ J va vc,SW w0 d me W s J->zbN (SX w0.heap.size d s) J va (znA W.pt (many W) me F)->SlA va (znA W.pt (many W) me F).length vc->∃ s', SW w0 d me { W with pt:=zct W.pt me F } s' (J.setCell ⟨d,4,none⟩ (.slice va (znA W.pt (many W) me F).length vc))):=fun h J va vc h2 h3 h4=>by
  have e:znA W.pt (many W) me F=zct W.pt me F:=yb h;rw[e] at h3 h4 |-;exact⟨_,h2.ports h3 (by have:=zjl I.rt (k:=me) (by rw[TN];exact h);rw[TN] at this;exact this) h4⟩
 have ON:Hid (zfq W.pt (many W) me F=0->zjk W.pt (many W) me F=W.pt.length):=fun h=>yb h;have MN:Hid (many W=(W.fs.length:Int)):=rfl;clear a7 M;show yL _ #[.pointer (some ⟨d,0,none⟩),.int .i64 (me:Int),.agg #[.int .i64 xk,.int .i64 xa,.int .i64 xb,.int .i64 xc,.int .i64 xn]] V _;obtain⟨n,hn⟩:∃ n,W.fs.length=n:=⟨_,rfl⟩;have HN:Hid (W.fs.length=n):=hn;obtain⟨nt,T⟩:∃ n,W.pt.length=n:=⟨_,rfl⟩;have c7:Hid (W.pt.length=nt):=T;rw[T] at l4 D;rw[hn] at Z l1 l2 l3 n8 b9;rw[show many W=(n:Int) from by rw[<- hn];rfl] at D PS ON QI;generalize zfq W.pt n me F=E at *;generalize znA W.pt n me F=L at *;generalize zjk W.pt n me F=a5 at *;generalize zuL W me=q at *;obtain⟨qe,qw,qo⟩:=q;obtain⟨b0,Q0,Q1⟩:=QI;dsimp only at b0 Q0 Q1 |-;subst b0;have Q0:Hid _:=Q0;have Q1:Hid _:=Q1;clear hn T I;have c6:(me:Int)<(n:Int):=by omega
 go_enter Tryz.func118,Tryz.ntmps118
 go_upto_region 1 with fail
 obtain⟨V1,a6,O,y0,y1,y2,y3,y4,sV⟩:=zcx V xk xa xb xc xn;rw[a6];clear a6;replace Z:=zab Z O.out;replace l1:=zab l1 O.out;replace l2:=zab l2 O.out;replace l3:=zab l3 O.out;replace l4:=zab l4 O.out;replace ft:=zab ft O.out;have d4:fb<V1.heap.size:=by omega
 go_region_held3 (fun U=>U.cell? ⟨d,0,none⟩=some (.slice (some ⟨fb,fo,none⟩) n s.c0)/\U.cell? ⟨d,4,none⟩=some (.slice s.a4 nt s.c4)/\U.cell? ⟨fb,fo+me*5+3,none⟩=some (.int .i64 F)) (go_keep) (first|(go_at_call 142;refine ye (D.out V1.drew O.out.drew) ?_;rintro e w3 ⟨va,vc,rfl,a8,b2,a9⟩;have B3:Hid (Below V1.heap.size V1 w3):=(yk _ _).drew.trans a8;have b7:=zab Z B3.out;have b8:=zab l4 B3.out;have c8:=zab ft B3.out;have b6:Hid _:=b2;have HP:Hid _:=a9;clear a8 b2 a9))
 have I2:Hid _:=II.out.below (O.out.trans (B3.out.mono O.out.size));obtain⟨d5,d6,d7,d8,d9,e0,e1⟩:=zaj I2.out.box;clear Z l1 l2 l3 l4 b7 b8;by_cases hE:qe=0
 ·subst hE;obtain⟨rfl,rfl⟩:=Q0.out rfl;obtain⟨s', b1⟩:=PS.out rfl w3 va vc I2.out HP.out b6.out;have HS:Hid _:=b1;have HO:Hid (a5=(W.pt.length:Int)):=ON.out rfl;clear b1
  go_wp2
  refine yv (v:=.tuple #[.int .i64 a5,.int .i64 0]) (by simp[results,Tryz.results118,go_sem]) rfl ?_;rw[HO.out];exact zdM.ok HS.out
 ·obtain rfl:=Q1.out hE;have hz:(qe == 0)=false:=by simp[hE]
  go_wp2
  exact yv (v:=.tuple #[.int .i64 0,.int .i64 qe]) (by simp[results,Tryz.results118,go_sem]) rfl (zdM.no I2.out hE)
def zjV(F:W0)(d me:Nat)(W O:Wl)(E:Int)(L:List Pt)(g1:Nat)(J:World)(e:Ending)(V:World):Prop:=∃ (D:Option Addr) (I:Nat) (M:List Pt) (s:SD),e=.returned (.tuple #[.slice D M.length I,.int .i64 E])/\zar (fun b=>b=g1) J V/\(E=0->M=L/\SW F d me O s V/\zbN (SX F.heap.size d s) V D L/\SlA D L.length I)/\(E≠0->SW F d me W s V)
def PBy(K:Nat)(me:Nat)(W:Wl)(x:Ac)(F:Wl)(E:Int)(L:List Pt):Prop:=∀ (D:W0) (d:Nat) (s:SD) (V:World),SW D d me W s V ->
 yL K #[.pointer (some ⟨d,0,none⟩),.int .i64 (me:Int),.int .i64 (zaB W me),acV x] V (zjV D d me W F E L s.g1 V)
theorem zmQ{W D:World}{b o g:Nat}{v:Value}(h:W.cell? ⟨b,o,none⟩=some v)(E:zar (fun x=>x=g) W D)(hg:b≠g):D.cell? ⟨b,o,none⟩=some v:=(yB (E.block b (yd _ _ h) hg)).trans h
theorem SW.no_row{M:W0}{d me:Nat}{W:Wl}{s:SD}{V:World}(I:SW M d me W s V){b o:Nat}{v:Value}(h:V.cell? ⟨b,o,none⟩=some v)(D:∀ a n c,v≠.slice a n c):b≠s.g1:=fun e=>by
 subst e;obtain⟨c,hc,hl,J⟩:=I.r1;simp only[World.cell?,hc] at h
 have E:o<W.fs.length*4:=by
  rcases Nat.lt_or_ge o (W.fs.length*4) with F|F
  ·exact F
  ·rw[Array.getElem?_eq_none (by omega)] at h;cases h
 rw[J o E] at h;have e:=Option.some.inj h;unfold zoN at e
 split at e
 ·exact D _ _ _ e.symm
 ·split at e
  ·exact D _ _ _ e.symm
  ·split at e
   ·exact D _ _ _ e.symm
   ·exact D _ _ _ e.symm
theorem zez(K cb:Nat)(eg:∀ args w,(callFunc K args).run Tryz.prog w=.ok (.enter K args) w)(me:Nat)(W:Wl)(x:Ac)(W1:Wl)(E:Int)(L:List Pt)(hK:PBy K me W x W1 E L)(hR:E=0->zan { W1 with pt:=L })(q:Ws)(QI:QIs q E W { W1 with pt:=L } 0) :
  zhn 143 #[.pointer (some ⟨cb,0,none⟩)] (fun V=>V.cell? ⟨cb,0,none⟩=some (.func (.func K) #[] #[])) me W x q:=fun w0 d s V I v1=>by
 obtain⟨xk,xa,xb,xc,xn⟩:=x;have II:Hid (SW w0 d me W s V):=I;have a9:=I.lt;have b7:Hid _:=a9;obtain⟨l0,l1,l2,l3,l4,lf,ll⟩:=zaj I.box;have d7:d<V.heap.size:=ll;have n8:W.fs.length<=8:=I.rt.fs.few;have b1:me<W.fs.length:=I.sf;clear a9;obtain⟨fb,fo,ea,fm,ft,fl⟩:=I.fcell I.sf;rw[ea] at l0;have TN:=zlY W me;obtain⟨tn,b0⟩:∃ t,(fr W.fs me).t=t:=⟨_,rfl⟩;rw[b0] at ft TN;clear b0 ea;have D:Hid (∀ V2,Below V.heap.size V V2->Calls _ _ _ _ _):=fun V2 hV=>hK w0 d s V2 (I.below hV);dsimp only[acV] at D;rw[TN] at D;have RR:Hid _:=hR;have b2:d≠s.g1:=I.ap.d1;have b3:fb≠s.g1:=I.no_row ft (fun _ _ _ h=>by cases h);have b4:cb≠s.g1:=I.no_row v1 (fun _ _ _ h=>by cases h);have J:V.heap.size≠s.g1:=Nat.ne_of_gt I.r1.lt;clear hK hR;show yL _ #[.pointer (some ⟨d,0,none⟩),.int .i64 (me:Int),.agg #[.int .i64 xk,.int .i64 xa,.int .i64 xb,.int .i64 xc,.int .i64 xn],.pointer (some ⟨cb,0,none⟩)] V _;obtain⟨n,hn⟩:∃ n,W.fs.length=n:=⟨_,rfl⟩;have HN:Hid (W.fs.length=n):=hn;obtain⟨nt,U⟩:∃ n,W.pt.length=n:=⟨_,rfl⟩;have b6:Hid (W.pt.length=nt):=U;rw[U] at l4;rw[hn] at l0 l1 l2 l3 n8 b1;obtain⟨qe,qw,qo⟩:=q;obtain⟨a7,Q0,Q1⟩:=QI;dsimp only at a7 Q0 Q1 |-;subst a7;have Q0:Hid _:=Q0;have Q1:Hid _:=Q1;clear hn U I;have b5:(me:Int)<(n:Int):=by omega
 have d6:cb<V.heap.size:=yd _ _ v1
 go_enter Tryz.func143,Tryz.ntmps143
 go_upto_region 1 with fail
 obtain⟨V1,a5,O,y0,y1,y2,y3,y4,sV⟩:=zcx V xk xa xb xc xn;rw[a5];clear a5;replace l0:=zab l0 O.out;replace l1:=zab l1 O.out;replace l2:=zab l2 O.out;replace l3:=zab l3 O.out;replace l4:=zab l4 O.out;replace ft:=zab ft O.out;replace v1:=zab v1 O.out;have d8:fb<V1.heap.size:=by omega
 go_region_held3 (fun F=>F.cell? ⟨d,0,none⟩=some (.slice (some ⟨fb,fo,none⟩) n s.c0)/\F.cell? ⟨V.heap.size,0,none⟩=some (.int .i64 xk)/\F.cell? ⟨V.heap.size,1,none⟩=some (.int .i64 xa)/\F.cell? ⟨V.heap.size,2,none⟩=some (.int .i64 xb)/\F.cell? ⟨V.heap.size,3,none⟩=some (.int .i64 xc)/\F.cell? ⟨V.heap.size,4,none⟩=some (.int .i64 xn)/\F.cell? ⟨fb,fo+me*5+3,none⟩=some (.int .i64 tn)/\F.cell? ⟨cb,0,none⟩=some (.func (.func K) #[] #[])) (go_keep) (first|(go_at_fn K;refine ye (D.out V1.drew O.out.drew) ?_;rintro e w3 ⟨va,vc,M,s3,rfl,hx,h0,h1⟩;have T:Hid (zar (fun b=>b=s.g1) V1 w3):=⟨hx.size,hx.block⟩;have b9:=zmQ l0 T.out b2;have b8:=zmQ ft T.out b3;have c6:=zmQ v1 T.out b4;have c7:=zmQ y0 T.out J;have c8:=zmQ y1 T.out J;have c9:=zmQ y2 T.out J;have d4:=zmQ y3 T.out J;have d5:=zmQ y4 T.out J;clear hx;have H0:Hid _:=h0;have H1:Hid _:=h1;clear h0 h1))
 by_cases hE:qe=0
 ·subst hE;obtain⟨rfl,rfl⟩:=Q0.out rfl;obtain⟨rfl,Z,a6,a8⟩:=H0.out rfl;have HS:Hid _:=Z.ports a6 (RR.out rfl) a8;obtain⟨d9,e0,e1,e2,e3,e4,e5⟩:=zaj Z.box;clear Z a6 a8 H0 H1 l0 l1 l2 l3 l4
  go_wp2
  exact yv (v:=.tuple #[.int .i64 0,.int .i64 0]) (by simp[results,Tryz.results143,go_sem]) rfl (zdM.ok HS.out)
 ·obtain rfl:=Q1.out hE;have HS:Hid _:=H1.out hE;have hz:(qe == 0)=false:=by simp[hE]
  go_wp2
  exact yv (v:=.tuple #[.int .i64 0,.int .i64 qe]) (by simp[results,Tryz.results143,go_sem]) rfl (zdM.no HS.out hE)
end Go.Proofs.YtcbcpomacdngmaaGreat
