/-
  x
-/
import Derived.Test.YtcbcpomacdngmaaGreatQ41
import Derived.Deep.AppendLies
import Derived.ArgAppend
namespace Go.Proofs.YtcbcpomacdngmaaGreat
set_option maxRecDepth 100000
set_option maxHeartbeats 4000000
set_option linter.unusedVariables false
open Go.RowKit Go.ChangeShapes Go.WideShapes
def N1:List Fr:=[⟨-1,0,7,0,false⟩,⟨0,1,7,0,false⟩]
def N3:List Fr:=[⟨-1,0,7,0,false⟩,⟨0,5,7,1,false⟩,⟨1,1,7,0,true⟩]
theorem zjd(a:Option Addr)(c:Nat)(L:List Fr)(k o:Int)(w:World)(hN:L.length<=9223372036854775807)(hL:zaS w a L) :
  Calls Tryz.prog 157 #[.slice a L.length c,.int .i64 k,.int .i64 o] w fun e w' => e=.returned (.int .i64 (goE L k o))/\Below w.heap.size w w' := by
 have D:Hid _:=zdW a c L w hN hL;have U:Hid (∀ W,zaS W a L->_):=fun W hW=>zcB a c L k W hN hW;have DI:Hid (∀ W,_):=fun W=>zcC o 0 9 W;have HL:Hid (zaS w a L):=hL;clear hL;by_cases hc:zaM L=0
 ·by_cases hh:zaA L k=0
  ·have h1:zcw L k=0:=by unfold zcw;rw[yb hc];exact hh
   obtain⟨R,q,rfl,hq,_⟩:=zfp h1;rw[hc] at D;rw[hh] at U;have a6:(q:Int)<(L.length:Int):=by omega
   by_cases h2:0<=o/\o<=9
   ·rw[decide_eq_true h2] at DI;have ht:(fr L q).t<=1000:=(zcM.1 (R.ok q hq)).2.1.2.2.2
    have e:goE L q o=if (fr L q).t=1000 then 1 else 0:=by
     unfold goE;rw[ya (not_not_intro h1),ya (not_not_intro h2),yi];by_cases h3:(fr L q).t=1000
     ·rw[yb h3,yb (by omega)]
     ·rw[ya h3,ya (by omega)]
    rw[e]
    have HC:Hid (∀ W,zaS W a L->∃ b Z,a=some ⟨b,Z,none⟩/\W.cell? ⟨b,Z+q*5+3,none⟩=some (.int .i64 (fr L q).t)):=fun W hW=>by
     obtain⟨b,Z,ea,c0,c1,c2,c3,c4⟩:=hW q hq;exact⟨b,Z,ea,c3⟩
    obtain⟨b,Z,ea,_⟩:=HC.out w HL.out;subst ea
    have a5:Hid (∀ W,zaS W (some ⟨b,Z,none⟩) L->W.cell? ⟨b,Z+q*5+3,none⟩=some (.int .i64 (fr L q).t)):=fun W hW=>by
     obtain⟨b', a7,ea,c3⟩:=HC.out W hW;cases ea;exact c3
    clear e h1 R hc hh HC ht h2;generalize (fr L q).t=t at *;obtain⟨n,hn⟩:∃ n,L.length=n:=⟨_,rfl⟩;rw[hn] at hN D U hq a6 |-;clear hn;by_cases h3:t=1000
    ·rw[yb h3];subst h3
     go_enter Tryz.func157,Tryz.ntmps157
     go_wp2_with fail
     refine ye D.out ?_;rintro e T ⟨rfl,I⟩;have M:Hid (Below w.heap.size w T):=I;have O:Hid (zaS T (some ⟨b,Z,none⟩) L):=HL.out.below I;clear I
     go_wp2_with fail
     refine ye (U.out _ O.out) ?_;rintro e w2 ⟨rfl,F⟩;have J:=F.symm;clear F;subst J
     go_wp2_with fail
     refine ye (DI.out _) ?_;rintro e w2 ⟨rfl,F⟩;have J:=F.symm;clear F;subst J;have c3:=a5.out _ O.out
     go_wp2_with fail
     go_ret;exact⟨rfl,M.out⟩
    ·rw[ya h3];have h4:decide (t=1000)=false:=decide_eq_false h3;have h5:(t == 1000)=false:=by simp[h3]
     go_enter Tryz.func157,Tryz.ntmps157
     go_wp2_with fail
     refine ye D.out ?_;rintro e T ⟨rfl,I⟩;have M:Hid (Below w.heap.size w T):=I;have O:Hid (zaS T (some ⟨b,Z,none⟩) L):=HL.out.below I;clear I
     go_wp2_with fail
     refine ye (U.out _ O.out) ?_;rintro e w2 ⟨rfl,F⟩;have J:=F.symm;clear F;subst J
     go_wp2_with fail
     refine ye (DI.out _) ?_;rintro e w2 ⟨rfl,F⟩;have J:=F.symm;clear F;subst J;have c3:=a5.out _ O.out
     go_wp2_with fail
     go_ret;exact⟨rfl,M.out⟩
   ·rw[decide_eq_false h2] at DI;have e:goE L q o=2:=by unfold goE;rw[ya (not_not_intro h1),yb h2]
    rw[e];clear e h1 R hc hh h2;obtain⟨n,hn⟩:∃ n,L.length=n:=⟨_,rfl⟩;rw[hn] at hN D U hq a6 |-;clear hn
    go_enter Tryz.func157,Tryz.ntmps157
    go_wp2_with fail
    refine ye D.out ?_;rintro e T ⟨rfl,I⟩;have M:Hid (Below w.heap.size w T):=I;have O:Hid (zaS T a L):=HL.out.below I;clear I
    go_wp2_with fail
    refine ye (U.out _ O.out) ?_;rintro e w2 ⟨rfl,F⟩;have J:=F.symm;clear F;subst J
    go_wp2_with fail
    refine ye (DI.out _) ?_;rintro e w2 ⟨rfl,F⟩;have J:=F.symm;clear F;subst J
    go_wp2_with fail
    go_ret;exact⟨rfl,M.out⟩
  ·have h1:zcw L k=zaA L k:=by unfold zcw;rw[yb hc]
   have e:goE L k o=zaA L k:=by unfold goE;rw[h1,yb hh]
   rw[e];rw[hc] at D;have e2:decide (zaA L k=0)=false:=decide_eq_false hh;have e3:(zaA L k == 0)=false:=by simp[hh]
   clear e h1 hc;generalize zaA L k=E at *;obtain⟨n,hn⟩:∃ n,L.length=n:=⟨_,rfl⟩;rw[hn] at hN D U |-;clear hn hh
   go_enter Tryz.func157,Tryz.ntmps157
   go_wp2_with fail
   refine ye D.out ?_;rintro e T ⟨rfl,I⟩;have M:Hid (Below w.heap.size w T):=I;have O:Hid (zaS T a L):=HL.out.below I;clear I
   go_wp2_with fail
   refine ye (U.out _ O.out) ?_;rintro e w2 ⟨rfl,F⟩;have J:=F.symm;clear F;subst J
   go_wp2_with fail
   go_ret;exact⟨rfl,M.out⟩
 ·have h1:zcw L k=zaM L:=by unfold zcw;rw[ya hc]
  have e:goE L k o=zaM L:=by unfold goE;rw[h1,yb hc]
  rw[e];have e2:decide (zaM L=0)=false:=decide_eq_false hc;have e3:(zaM L == 0)=false:=by simp[hc]
  clear e h1;generalize zaM L=E at *;obtain⟨n,hn⟩:∃ n,L.length=n:=⟨_,rfl⟩;rw[hn] at hN D U |-;clear hn hc
  go_enter Tryz.func157,Tryz.ntmps157
  go_wp2_with fail
  refine ye D.out ?_;rintro e T ⟨rfl,I⟩;have M:Hid (Below w.heap.size w T):=I;clear I
  go_wp2_with fail
  go_ret;exact⟨rfl,M.out⟩
theorem zzP(a:Option Addr)(c:Nat)(L:List Fr)(k o:Int)(w:World)(O:L.length<=9223372036854775807)(M:zaS w a L)(J:goE L k o≠0) :
  Calls Tryz.prog 141 #[.slice a L.length c,.int .i64 k,.int .i64 o] w fun e w' => e=.returned (.tuple #[.slice none 0 0,.int .i64 (goE L k o)])/\Below w.heap.size w w' := by
 have D:Hid _:=zjd a c L k o w O M;have U:decide (goE L k o=0)=false:=decide_eq_false J;have Z:(goE L k o == 0)=false:=by simp[J]
 clear M;generalize goE L k o=E at *;generalize L.length=n at *
 go_enter Tryz.func141,Tryz.ntmps141
 go_wp2_with fail
 refine ye D.out ?_;rintro e T ⟨rfl,F⟩;have I:Hid (Below w.heap.size w T):=F;clear F
 go_wp2_with fail
 exact yv (v:=.tuple #[.slice none 0 0,.int .i64 E]) (by simp[results,Tryz.results141,go_sem]) rfl ⟨rfl,I.out⟩
def goG(L:List Fr)(k:Nat)(i:Nat):List Fr:=(List.range L.length).map fun j=>if j<i/\j≠k then { fr L j with g:=(fr L j).g || inF L j k } else fr L j
theorem zyv(L:List Fr)(k i:Nat):(goG L k i).length=L.length:=by unfold goG;simp
theorem zih{L:List Fr}{k i j:Nat}(h:j<L.length):fr (goG L k i) j=if j<i/\j≠k then { fr L j with g:=(fr L j).g || inF L j k } else fr L j:=by
 rw[zgs (by rw[zyv];exact h)];unfold goG;simp
theorem zop{w:World}{g:Nat}{L:List Fr}{k:Nat}(h:zeu w g L.length L):zeu w g L.length (goG L k 0):=by
 obtain⟨F,h1,D⟩:=h;exact⟨F,h1,fun m E=>(D m E).trans (zgZ (by rw[zih (by omega),ya (by omega)]))⟩
theorem zvP{w:World}{g i:Nat}{L:List Fr}{k:Nat}(h:zeu w g L.length (goG L k i))(hi:i<L.length)(D:i=k\/inF L i k=false):zeu w g L.length (goG L k (i+1)):=by
 obtain⟨F,h1,I⟩:=h;refine⟨F,h1,fun m J=>(I m J).trans (zgZ ?_)⟩;rw[zih (by omega),zih (by omega)];by_cases e:m / 5=i
 ·rw[e,ya (by omega)];rcases D with D|D
  ·rw[ya (by omega)]
  ·by_cases M:i=k
   ·rw[ya (by omega)]
   ·rw[yb (by omega),D,Bool.or_false]
 ·by_cases E:m / 5<i/\m / 5≠k
  ·rw[yb E,yb (by omega)]
  ·rw[ya E,ya (by omega)]
theorem ztk{w:World}{g i:Nat}{L:List Fr}{k:Nat}(h:zeu w g L.length (goG L k i))(hi:i<L.length)(T:i≠k)(E:inF L i k=true):zeu (w.setCell ⟨g,i*5+4,none⟩ (.bool true)) g L.length (goG L k (i+1)):=by
 obtain⟨F,h1,M⟩:=h;refine⟨_,h1.set (i*5+4) (.bool true),fun m O=>?_⟩;by_cases e:m=i*5+4
 ·subst e;rw[yb rfl,zds _ _ 4 (by omega),zih hi,yb (by omega),E,Bool.or_true];rfl
 ·rw[ya e,M m O];unfold frF;rw[zih (by omega),zih (by omega)];by_cases J:m / 5=i
  ·rw[J,ya (by omega),yb (by omega)];have D:m % 5=0\/m % 5=1\/m % 5=2\/m % 5=3:=by omega
   rcases D with D|D|D|D <;> rw[D] <;> rfl
  ·by_cases I:m / 5<i/\m / 5≠k
   ·rw[yb I,yb (by omega)]
   ·rw[ya I,ya (by omega)]
theorem ztj{w:World}{g:Nat}{L:List Fr}{k:Nat}{o:Int}(h:zeu w g L.length (goG L k L.length))(E:k<L.length) :
  zeu ((w.setCell ⟨g,k*5+1,none⟩ (.int .i64 o)).setCell ⟨g,k*5+3,none⟩ (.int .i64 ((fr L k).t+1))) g L.length (goF L k o):=by
 obtain⟨F,h1,M⟩:=h;refine⟨_,(h1.set (k*5+1) (.int .i64 o)).set (k*5+3) (.int .i64 ((fr L k).t+1)),fun m O=>?_⟩;by_cases e:m=k*5+3
 ·subst e;rw[yb rfl,zds _ _ 3 (by omega),zgu E];rfl
 ·rw[ya e];by_cases I:m=k*5+1
  ·subst I;rw[yb rfl,zds _ _ 1 (by omega),zgu E];rfl
  ·rw[ya I,M m O];unfold frF;rw[zih (by omega)];by_cases J:m / 5=k
   ·rw[J,ya (by omega),zgu E];have D:m % 5=0\/m % 5=2\/m % 5=4:=by omega
    rcases D with D|D|D <;> rw[D] <;> rfl
   ·rw[yb (by omega),zdz (by omega) J]
theorem go_ok(a:Option Addr)(c:Nat)(L:List Fr)(k o:Int)(w:World)(hL:zaS w a L)(hE:goE L k o=0) :
  Calls Tryz.prog 141 #[.slice a L.length c,.int .i64 k,.int .i64 o] w fun e w' => ∃ g,e=.returned (.tuple #[.slice (some ⟨g,0,none⟩) L.length L.length,.int .i64 0])/\Below w.heap.size w w' /\ w.heap.size<=g/\zaS w' (some ⟨g,0,none⟩) (goF L k o):=by
 obtain⟨hh,ho,ht⟩:=ztm hE;obtain⟨R,q,rfl,hq,hg⟩:=zfp hh;have hN:=R.few;have d:=zjd a c L q o w (by omega) hL;rw[hE] at d;have D:Hid _:=d;have HL:Hid (zaS w a L):=hL;have e3:0<=(fr L q).t/\(fr L q).t<=1000:=(zcM.1 (R.ok q hq)).2.1.2.2;obtain⟨b,ao,ea,c0,c1,c2,c3,c4⟩:=hL q hq;subst ea;clear c0 c1 c2 c3 c4 hg hE R d hL ho ht hh;have DW:Hid (∀ (i:Nat) (W:World),zaS W (some ⟨b,ao,none⟩) L->_):=fun i W hW=>zgt (some ⟨b,ao,none⟩) c L (i:Int) (q:Int) W (by omega) hW;obtain⟨i0,d4,e5,d7,e6⟩:=info_parts zjk;have d6:=zkU L.length (by omega);have c7:Hid (∀ W,zaS W (some ⟨b,ao,none⟩) L->∀ j v,(zbx L)[j]?=some v->W.cell? ((⟨b,ao,none⟩:Addr).add j)=some v):=fun W hW=>hW.src;have c6:Hid _:=zhF L;have b0:Hid ((zbx L).length=L.length*5):=zdV L;have CP:Hid (∀ (W:World) (g:Nat),W.heap[g]?=some (.cells (zbx L++(madeCells zet (L.length*5)).toList.drop (zbx L).length).toArray 65 (0,0))->zeu W g L.length (goG L q 0)):=fun W g hg=>zop (by obtain⟨F,h1,Z⟩:=zkI hg (yj _);exact⟨F,h1,Z⟩);have b5:Hid (∀ (W:World) (g i:Nat),zeu W g L.length (goG L q i)->i<L.length->i≠q->inF L i q=true->zeu (W.setCell ⟨g,i*5+4,none⟩ (.bool true)) g L.length (goG L q (i+1))):=fun W g i h1 Z h3 h4=>ztk h1 Z h3 h4;have NO:Hid (∀ (W:World) (g i:Nat),zeu W g L.length (goG L q i)->i<L.length->(i=q\/inF L i q=false)->zeu W g L.length (goG L q (i+1))):=fun W g i h1 Z h3=>zvP h1 Z h3
 have b3:Hid (∀ (W:World) (g:Nat),zeu W g L.length (goG L q L.length)->zaS ((W.setCell ⟨g,q*5+1,none⟩ (.int .i64 o)).setCell ⟨g,q*5+3,none⟩ (.int .i64 ((fr L q).t+1))) (some ⟨g,0,none⟩) (goF L q o)):=fun W g h=>by
  obtain⟨F,h1,Z⟩:=ztj (o:=o) h hq;exact zhI h1 (by rw[zha];exact yj _) (fun m hm=>Z m (by rw[zha] at hm;exact hm))
 have J:Hid (∀ (W:World) (g i j:Nat) (M:List Fr),j<5->zeu W g L.length M->i<L.length->(∃ u,W.cell? ⟨g,i*5+j,none⟩=some u)/\(∀ o,W.frozen? ⟨g,o,none⟩=false)/\g<W.heap.size):=fun W g i j M hj ⟨F,h1,Z⟩ hi=>⟨⟨_,h1.cell (by omega)⟩,h1.frozen,h1.lt⟩
 have a7:Hid (∀ (W:World) (g:Nat),zeu W g L.length (goG L q L.length)->W.cell? ⟨g,q*5+3,none⟩=some (.int .i64 (fr L q).t)):=fun W g ⟨F,h1,Z⟩=>by
  rw[h1.cell (by omega),Z _ (by omega),zds _ _ 3 (by omega),zih hq,ya (by omega)];rfl
 generalize zbx L=cs at *;generalize goF L q o=DF at *;generalize (fr L q).t=t at *;have e4:IntKind.i64.wrap (t+1)=t+1:=by rw[IntKind.wrap_i64];omega
 obtain⟨n,hn⟩:∃ n,L.length=n:=⟨_,rfl⟩;have HN:Hid (L.length=n):=hn;rw[hn] at hN hq D DW d6 b0 CP b5 NO b3 J a7 |-;clear hn;have e2:(q:Int)<(n:Int):=by omega
 go_enter Tryz.func141,Tryz.ntmps141
 go_wp2_with fail
 refine ye D.out ?_;rintro e E ⟨rfl,b1⟩;have a9:Hid (Below w.heap.size w E):=b1;have b4:Hid (zaS E (some ⟨b,ao,none⟩) L):=HL.out.below b1;clear b1
 have HG:Hid ((E.alloc (.cells (madeCells zet (n*5)) 65)).heap[E.heap.size]?=some (.cells (madeCells zet (n*5)).toList.toArray 65 (0,0))):=by
  have:=heap_alloc_new E (.cells (madeCells zet (n*5)) 65);show _=_;simpa using this
 go_wp2_with (refine zcX rfl (.tmp 21) (.tmp 22) 22 22 rfl 65 i0 Tryz.underlying22 d4 E.heap.size 0 n n ⟨b,ao,none⟩ n c n ?hd ?hs (madeCells zet (n*5)).toList 65 ?hg cs ?hn ?hl ?hsrc ?hfit ?h1 ?_)
 case hd=>rfl
 case hs=>rfl
 case hg=>exact HG.out
 case hn=>show n=min n n;omega
 case hl=>rw[b0.out,d7]
 case hsrc=>exact c7.out _ (b4.out.below (zaa _ _))
 case hfit=>rw[b0.out];simp[size_madeCells]
 case h1=>exact c6.out
 intro w3 b7 b6;have b8:Hid (Below E.heap.size E w3):=b6 _ _ (zaa E _) (yj _);have HR:Hid (zeu w3 E.heap.size n (goG L q 0)):=CP.out w3 _ b7;clear b7 b6 HG
 go_wp2_with fail
 go_loopg [26] n (fun g s26 wr=>∃ i:Nat,i<=n/\n-i<=g/\s26=.int .i64 i/\Hid (Below E.heap.size E wr)/\Hid (zeu wr E.heap.size n (goG L q i)))
 case atStart=>exact⟨0,by omega,by omega,rfl,b8,HR⟩
 case round =>
  obtain⟨i,hi,hg,rfl,O,I⟩:=hrel;clear HR;by_cases a6:i<n
  ·have e1:(i:Int)<(n:Int):=by omega
   have DI:=DW.out i wr (b4.out.below O.out);obtain⟨⟨u,hu⟩,c8,c9⟩:=J.out wr _ i 4 _ (by omega) I.out a6;by_cases a5:i=q
   ·have T:Hid _:=NO.out wr _ i I.out a6 (Or.inl a5);subst a5;clear DI
    go_wp2_with fail
    go_roundg (n-(i+1))
    case measure=>omega
    case rel=>exact⟨i+1,by omega,by omega,by go_num,O,T⟩
   ·have d8:decide ((i:Int)=(q:Int))=false:=decide_eq_false (by omega);have d9:((i:Int) ==(q:Int))=false:=by simp;omega
    have e0:decide (i=q)=false:=decide_eq_false a5
    cases hin:inF L (i:Int) (q:Int) with
    | true =>
     rw[hin] at DI;have a8:Hid _:=DI;have T:Hid _:=b5.out wr _ i I.out a6 a5 hin;clear hin DI
     go_wp2_with fail
     refine ye a8.out ?_;rintro e w4 ⟨rfl,U⟩;have b2:=U.symm;clear U;subst b2
     go_wp2_with fail
     go_roundg (n-(i+1))
     case measure=>omega
     case rel=>exact⟨i+1,by omega,by omega,by go_num,O.out.setCell (yj _) _,T⟩
    | false =>
     rw[hin] at DI;have a8:Hid _:=DI;have T:Hid _:=NO.out wr _ i I.out a6 (Or.inr hin);clear hin DI
     go_wp2_with fail
     refine ye a8.out ?_;rintro e w4 ⟨rfl,U⟩;have b2:=U.symm;clear U;subst b2
     go_wp2_with fail
     go_roundg (n-(i+1))
     case measure=>omega
     case rel=>exact⟨i+1,by omega,by omega,by go_num,O,T⟩
  ·have d5:i=n:=by omega
   subst d5;have HF:Hid _:=b3.out wr _ I.out;have ct:=a7.out wr _ I.out;obtain⟨⟨u,hu⟩,c8,c9⟩:=J.out wr _ q 1 _ (by omega) I.out hq;have b9:Hid (Below E.heap.size E ((wr.setCell ⟨E.heap.size,q*5+1,none⟩ (.int .i64 o)).setCell ⟨E.heap.size,q*5+3,none⟩ (.int .i64 (t+1)))):=(O.out.setCell (yj _) _).setCell (yj _) _;clear I
   go_wp2_with fail
   exact yv (v:=.tuple #[.slice (some ⟨E.heap.size,0,none⟩) i i,.int .i64 0]) (by simp[results,Tryz.results141,go_sem]) rfl ⟨_,rfl,a9.out.trans (b9.out.mono a9.out.size),a9.out.size,HF.out⟩
def mkF(R:Rl)(m h k j:Nat):Value :=
 if j=0 then .int .i64 (m:Int) else if j=1 then .slice (some ⟨h,0,none⟩) m m
 else if j % 2=0 then (if j / 2-1<k then .int .i64 (nd R.s (hd R ((j / 2-1:Nat):Int)).1.toNat).m else .int .i64 0) else .slice none 0 0
def kdF(k j:Nat):Value:=if j<k then .int .i64 ((j:Int)+1) else .int .i64 0
structure MkI (w:World) (A:RA) (R:Rl) (m k:Nat) (V:World):Prop where
 bel:Below w.heap.size w V
 r:V.heap[w.heap.size]?=some (.cells #[.slice A.a0 R.s.length A.c0,.slice A.a1 R.hs.length A.c1,.slice A.a2 R.i.length A.c2,.slice A.a3 R.t.length A.c3] 50 (0,0))
 z:V.heap[w.heap.size+1]?=some (.cells #[.slice none 0 0] 47 (0,0))
 g:V.rowIs (w.heap.size+1+1) 55 ((m+1)*2) (mkF R m (w.heap.size+1+1+1) k)
 h:V.rowIs (w.heap.size+1+1+1) 3 m (kdF k)
 ok:∀ i:Nat,i<k->zaH R.s (hd R i).1 (hd R i).2=0
theorem MkI.below{w:World}{A:RA}{R:Rl}{m k:Nat}{V E:World}(I:MkI w A R m k V)(D:Below V.heap.size V E):MkI w A R m k E:=⟨I.bel.trans (D.mono I.bel.size),zaD I.r D,zaD I.z D,I.g.of_block (D.block _ I.g.lt),I.h.of_block (D.block _ I.h.lt),I.ok⟩
theorem MkI.step{w:World}{A:RA}{R:Rl}{m k:Nat}{V:World}(I:MkI w A R m k V)(hk:k<m)(U:zaH R.s (hd R k).1 (hd R k).2=0):MkI w A R m (k+1) (((V.setCell ⟨w.heap.size+1+1+1,k,none⟩ (.int .i64 ((k:Int)+1))).setCell ⟨w.heap.size+1+1,(k+1)*2,none⟩ (.int .i64 (nd R.s (hd R (k:Int)).1.toNat).m)).setCell ⟨w.heap.size+1+1,(k+1)*2+1,none⟩ (.slice none 0 0)):=by
 have h0:∀ b,b≠w.heap.size+1+1->b≠w.heap.size+1+1+1->(((V.setCell ⟨w.heap.size+1+1+1,k,none⟩ (.int .i64 ((k:Int)+1))).setCell ⟨w.heap.size+1+1,(k+1)*2,none⟩ (.int .i64 (nd R.s (hd R (k:Int)).1.toNat).m)).setCell ⟨w.heap.size+1+1,(k+1)*2+1,none⟩ (.slice none 0 0)).heap[b]?=V.heap[b]?:=fun b h1 T=>by
  rw[ys _ _ _ _ h1,ys _ _ _ _ h1,ys _ _ _ _ T]
 refine⟨((I.bel.setCell (by simp;omega) _).setCell (by simp;omega) _).setCell (by simp;omega) _,(h0 _ (by omega) (by omega)).trans I.r,(h0 _ (by omega) (by omega)).trans I.z,?_,?_,fun i hi=>?_⟩
 ·refine yD (((I.g.setOther (by simp) _).set ((k+1)*2) _).set ((k+1)*2+1) _) (fun j Z=>?_);unfold mkF;by_cases M:j=(k+1)*2+1
  ·rw[yb M,ya (by omega),ya (by omega),ya (by omega)]
  ·rw[ya M];by_cases D:j=(k+1)*2
   ·rw[yb D,ya (by omega),ya (by omega),yb (by omega),show j / 2-1=k by omega,yb (by omega)]
   ·rw[ya D];by_cases E:j=0
    ·rw[yb E,yb E]
    ·rw[ya E,ya E];by_cases F:j=1
     ·rw[yb F,yb F]
     ·rw[ya F,ya F];by_cases J:j % 2=0
      ·rw[yb J,yb J];by_cases O:j / 2-1<k
       ·rw[yb O,yb (by omega)]
       ·rw[ya O,ya (by omega)]
      ·rw[ya J,ya J]
 ·refine yD (((I.h.set k _).setOther (by simp) _).setOther (by simp) _) (fun j Z=>?_);unfold kdF;by_cases e:j=k
  ·subst e;rw[yb rfl,yb (by omega)]
  ·rw[ya e];by_cases D:j<k
   ·rw[yb D,yb (by omega)]
   ·rw[ya D,ya (by omega)]
 ·by_cases e:i=k
  ·rw[e];exact U
  ·exact I.ok i (by omega)
theorem MkI.cls{w:World}{A:RA}{R:Rl}{m:Nat}{V:World}(I:MkI w A R m m V)(X:Nat->Prop)(F:∀ b,X b->b<w.heap.size):St X (fun V=>zaG V (some ⟨w.heap.size+1+1,0,none⟩) (zbf R m)) V:=fun M J i hi=>by
 have hg:=I.g.of_block (J.block _ I.g.lt (fun h=>by have:=F _ h;omega));have hh:=I.h.of_block (J.block _ I.h.lt (fun h=>by have:=F _ h;omega));rw[zcn] at hi;refine⟨w.heap.size+1+1,0,rfl,?_⟩;rw[yz]
 match i,hi with
 | 0,_ =>
  rw[zhf];refine⟨?_,some ⟨w.heap.size+1+1+1,0,none⟩,m,?_,fun j E=>?_⟩
  ·rw[hg.cell (by omega)];rfl
  ·rw[hg.cell (by omega)];show some (Value.slice _ m m)=some (.slice _ (List.map _ (List.range m)).length m);rw[List.length_map,List.length_range]
  ·have D:j<m:=by simpa using E
   refine⟨_,0,rfl,?_⟩;rw[yz,hh.cell D];unfold kdF;rw[yb D];simp[List.getD_eq_getElem?_getD,D]
 | i+1,hi =>
  rw[zhg (by omega)];refine⟨?_,none,0,?_,fun j E=>absurd E (yw _)⟩
  ·rw[hg.cell (by omega)];unfold mkF;rw[ya (by omega),ya (by omega),yb (by omega),show (i+1)*2 / 2-1=i by omega,yb (by omega)]
  ·rw[hg.cell (by omega)];unfold mkF;rw[ya (by omega),ya (by omega),ya (by omega)];rfl
theorem ztQ{R:Rl}{n:Int}(h:¬ (0<=n/\n<=8)):zbv R n=2:=ya h
theorem ztP{R:Rl}{m:Nat}(E:m<=8)(h:∀ i:Nat,i<m->zaH R.s (hd R i).1 (hd R i).2=0):zbv R m=0:=by
 have key:∀ n,n<=m->zcZ R n=0:=fun n=>by
  induction n with
  | zero=>intro _;rfl
  | succ n D=>intro hn;unfold zcZ;rw[yb (D (by omega))];exact h n (by omega)
 unfold zbv;rw[yb (by omega),yi];exact key m (yj _)
theorem zwz{R:Rl}{m k:Nat}(J:m<=8)(M:k<m)(h:∀ i:Nat,i<k->zaH R.s (hd R i).1 (hd R i).2=0)(F:zaH R.s (hd R k).1 (hd R k).2≠0):zbv R m=zaH R.s (hd R k).1 (hd R k).2:=by
 have key:∀ n,n<=k->zcZ R n=0:=fun n=>by
  induction n with
  | zero=>intro _;rfl
  | succ n E=>intro hn;unfold zcZ;rw[yb (E (by omega))];exact h n (by omega)
 have I:zcZ R (k+1)=zaH R.s (hd R k).1 (hd R k).2:=by unfold zcZ;rw[yb (key k (yj _))]
 have D:∀ n,zcZ R (k+1+n)=zaH R.s (hd R k).1 (hd R k).2:=fun n=>by
  induction n with
  | zero=>exact I
  | succ n E=>show (if zcZ R (k+1+n)=0 then _ else zcZ R (k+1+n))=_;rw[E,ya F]
 unfold zbv;rw[yb (by omega),yi,show m=k+1+(m-k-1) by omega];exact D _
def mkG(R:Rl)(n:Int):List Cl:=if zbv R n=0 then zbf R n.toNat else []
theorem zyV{P:Program}(w:World)(t ty:TypeId)(e:TypeId)(i:TypeInfo)(z:Value)(size bytes:Nat)(ht:P.underlying t=some (.slice e))(hi:P.info? e=some i)(hz:i.zero=some z)
  (F:i.size=size) (J:i.bytes=bytes) (O:z.cells.size=size) (M:0<size)
  {X:Nat->Prop} {B:Nat} (av:Option Addr) (n cv:Nat) (Z:List Value) (tt:Option Nat) (hA:App X B e size av n cv Z tt w) (hB:B<=w.heap.size)
  (T:Addr) (m c:Nat) (news:List Value) (hl:news.length=m*size) (E:∀ j u,news[j]?=some u->w.cell? (T.add j)=some u) (h1:∀ u ∈ news,u.oneCell' = true)
  (hm:0<m) (I:n+m<=maxLen) (D:(n+m)*bytes<=140737488355328) :
  ∃ g cap w',(Builtin.append_ #[t,t] ty #[.slice av n cv,.slice (some T) m c]).run P w=.ok (.slice (some ⟨g,0,none⟩) (n+m) cap) w' /\
   w'.ownsRow B e size (.slice (some ⟨g,0,none⟩) (n+m) cap) (n+m) (Z++news)/\w.grownBy w' tt/\(tt=some g\/w.heap.size<=g)/\g<w'.heap.size:=by
 rcases hA.2 with ⟨rfl,rfl,h3,h4⟩ |⟨b,rfl,rfl,h3⟩
 ·cases av with
  | some b =>
   obtain⟨v', w', U,r1,r2⟩:=run_append_arg_grows (P:=P) w t ty e i z size bytes ht hi hz F J O M b cv cv Z hA.1 (h4.at b rfl) T m c news hl E (by omega) I D;obtain⟨g,cap,rfl,h5,h6⟩:=r1.form (by omega);exact⟨g,cap,w', U,zaP r1 hB,r2,.inr h5,h6⟩
  | none =>
   obtain rfl:=h3.1 rfl;obtain rfl:Z=[]:=List.eq_nil_of_length_eq_zero (by simpa using hA.1);obtain⟨g,cap,w', U,r1,r2,r3,r4⟩:=run_append_lies (P:=P) w t ty w.heap.size e i z size bytes ht hi hz F J O M (.slice none 0 0) 0 [] (World.ownsRow_nil w _ e size) T m c news hl E h1 hm I D (yj _) _ rfl;refine⟨g,cap,w', U,zaP r1 hB,r2,?_,r4⟩;rcases r3 with r3|r3
   ·cases r3
   ·exact .inr (by omega)
 ·obtain⟨g,cap,w', U,r1,r2,r3,r4⟩:=run_append_lies (P:=P) w t ty B e i z size bytes ht hi hz F J O M (.slice (some ⟨b,0,none⟩) n cv) n Z h3 T m c news hl E h1 hm I D hB _ rfl;refine⟨g,cap,w', U,r1,r2,?_,r4⟩;rcases r3 with r3|r3
  ·exact .inl r3
  ·exact .inr (by omega)
theorem zAH{P:Program}(w:World){o:Oper}{a:Act}{K:Act->World->Prop}{Q:Exit->Act->World->Prop}(s x:Operand)(t:TypeId)
  (ho:o.op=.call { callee:=.builtin .append,args:=#[s,x],argTypes:=#[t,t] })
  (e:TypeId) (i:TypeInfo) (z:Value) (size bytes:Nat) (ht:P.underlying t=some (.slice e)) (hi:P.info? e=some i) (hz:i.zero=some z)
  (F:i.size=size) (O:i.bytes=bytes) (U:z.cells.size=size) (T:0<size)
  {X:Nat->Prop} {B:Nat} (J:Option Addr) (n cv:Nat) (Z:List Value) (tt:Option Nat) (hA:App X B e size J n cv Z tt w) (hB:B<=w.heap.size) (hs:a.eval s=.slice J n cv)
  (I:Addr) (m c:Nat) (news:List Value) (hx:a.eval x=.slice (some I) m c) (hl:news.length=m*size) (E:∀ j u,news[j]?=some u->w.cell? (I.add j)=some u) (h1:∀ u ∈ news,u.oneCell' = true)
  (hm:0<m) (M:n+m<=maxLen) (D:(n+m)*bytes<=140737488355328)
  (h:∀ g cap w', w'.ownsRow B e size (.slice (some ⟨g,0,none⟩) (n+m) cap) (n+m) (Z++news)->w.grownBy w' tt->(tt=some g\/w.heap.size<=g)->g<w'.heap.size->K (a.put o.dst (.slice (some ⟨g,0,none⟩) (n+m) cap)) w'):o.wp P a w K Q:=by
 obtain⟨g,cap,w', hr,h2,h3,h4,h5⟩:=zyV (P:=P) w t o.type e i z size bytes ht hi hz F O U T J n cv Z tt hA hB I m c news hl E h1 hm M D;unfold Oper.wp execOp;simp only[ho,resolve,invoke,builtin,Sem.run_bind,Sem.run_pure,Result.andThen_ok,List.map_toArray,List.map_cons,List.map_nil,hs,hx,hr];exact h g cap w' h2 h3 h4 h5
theorem zmi{P:Program}(w:World){ops:Array Oper}{o:Oper}{a:Act}{K:Act->World->Prop}{Q:Exit->Act->World->Prop}{E:Prop}(U:o.guard=none)(s x:Operand)(t:TypeId)
  (ho:o.op=.call { callee:=.builtin .append,args:=#[s,x],argTypes:=#[t,t] })
  (e:TypeId) (i:TypeInfo) (z:Value) (size bytes:Nat) (ht:P.underlying t=some (.slice e)) (hi:P.info? e=some i) (hz:i.zero=some z)
  (I:i.size=size) (T:i.bytes=bytes) (a5:z.cells.size=size) (Z:0<size)
  {X:Nat->Prop} {B:Nat} (M:Option Addr) (n cv:Nat) (xs:List Value) (tt:Option Nat) (hA:App X B e size M n cv xs tt w) (hB:B<=w.heap.size) (hs:a.eval s=.slice M n cv)
  (J:Addr) (m c:Nat) (news:List Value) (hx:a.eval x=.slice (some J) m c) (hl:news.length=m*size) (F:∀ j u,news[j]?=some u->w.cell? (J.add j)=some u) (h1:∀ u ∈ news,u.oneCell' = true)
  (hm:0<m) (O:n+m<=maxLen) (D:(n+m)*bytes<=140737488355328)
  (h:∀ g cap w', w'.ownsRow B e size (.slice (some ⟨g,0,none⟩) (n+m) cap) (n+m) (xs++news)->w.grownBy w' tt->(tt=some g\/w.heap.size<=g)->g<w'.heap.size->K (a.put o.dst (.slice (some ⟨g,0,none⟩) (n+m) cap)) w') :
  if Region.wanted o (yielded ops a.tmps)=true then Oper.wp P o a w K Q else E:=by
 have hw:Region.wanted o (yielded ops a.tmps)=true:=by simp[Region.wanted,U]
 rw[yb hw];exact zAH w s x t ho e i z size bytes ht hi hz I T a5 Z M n cv xs tt hA hB hs J m c news hx hl F h1 hm O D h
end Go.Proofs.YtcbcpomacdngmaaGreat
