/-
  x
-/
import Derived.Test.YtgjfmepbphfjoaaGreatQ40
namespace Go.Proofs.YtgjfmepbphfjoaaGreat
set_option maxRecDepth 100000
set_option maxHeartbeats 4000000
set_option linter.unusedVariables false
open Go.RowKit
theorem zpT{A B:List (Int × Int)}(hl:A.length=B.length)(h:∀ i,i<A.length->A.getD i (0,0)=B.getD i (0,0)):A=B:=by
 refine List.ext_getElem hl fun i h1 w=>?_;have:=h i h1
 rwa [zaf _ _ h1,zaf _ _ w] at this
theorem zeS(a U:Option Addr)(c c' : Nat)(A B:List (Int × Int))(w:World)(hN:A.length<=9223372036854775807)(h1:zam w a A)(V:zam w U B) :
  Calls Tryz.prog 31 #[.slice a A.length c,.slice U B.length c'] w fun e w' => ∃ r:Bool,e=.returned (.bool r)/\Below w.heap.size w w' /\(r=true↔A=B):=by
 by_cases hl:A.length=B.length
 ·have E1:Hid ((∀ i,i<A.length->A.getD i (0,0)=B.getD i (0,0))->A=B):=fun h=>zpT hl h;have E2:Hid (∀ i,A.getD i (0,0)≠B.getD i (0,0)->A≠B):=fun i h e=>h (by rw[e]);have H1:Hid (zam w a A):=h1;have H2:Hid (zam w U B):=V;have HL:Hid (B.length=A.length):=hl.symm;rw[<- hl];clear h1 V hl;obtain⟨n,hn⟩:∃ n,A.length=n:=⟨_,rfl⟩;have HN:Hid (A.length=n):=hn;rw[hn] at hN E1 HL |-;clear hn
  go_enter Tryz.func31,Tryz.ntmps31
  go_wp2
  go_loopg [13] n (fun g s13 wr=>∃ k:Nat,k<=n/\n-k<=g/\s13=.int .i64 k/\Below w.heap.size w wr/\Hid (∀ i,i<k->A.getD i (0,0)=B.getD i (0,0)))
  case atStart=>exact⟨0,by omega,by omega,rfl,yj _ _,fun i hi=>by omega⟩
  case round =>
   obtain⟨k,hk,hg,rfl,D,AA⟩:=hrel;by_cases F:k<n
   ·have a4:(k:Int)<(n:Int):=by omega
    obtain⟨b,o,rfl,c0,c1⟩:=(H1.out.below D) k (by rw[HN.out];exact F);obtain⟨b', o', rfl,e0,e1⟩:=(H2.out.below D) k (by rw[HL.out];exact F)
    have KK:Hid (A.getD k (0,0)=B.getD k (0,0)->∀ i,i<k+1->A.getD i (0,0)=B.getD i (0,0)):=fun h i hi=>by
     by_cases e:i=k
     ·subst e;exact h
     ·exact AA.out i (by omega)
    have EE:Hid _:=E2.out k;generalize A.getD k (0,0)=x at *;generalize B.getD k (0,0)=y at *;obtain⟨Z,x1⟩:=x;obtain⟨y0,y1⟩:=y;dsimp only at c0 c1 e0 e1;by_cases J:Z=y0
    ·subst J;by_cases M:x1=y1
     ·subst M
      go_wp2_with fail
      go_quiet (fail)
      go_wp2
      go_roundg (n-(k+1))
      case measure=>omega
      case rel=>exact⟨k+1,by omega,by omega,by go_num,zjQ D _,KK.out trivial⟩
     ·have q2:(x1 == y1)=false:=beq_eq_false_iff_ne.2 M;have q3:decide (x1=y1)=false:=decide_eq_false M;have T:Hid (A≠B):=EE.out (fun h=>M (congrArg Prod.snd h))
      go_wp2_with fail
      go_quiet (fail)
      go_wp2
      go_ret;exact⟨false,rfl,zjQ D _,⟨fun h=>(by cases h),fun h=>absurd h T.out⟩⟩
    ·have q2:(Z == y0)=false:=beq_eq_false_iff_ne.2 J;have q3:decide (Z=y0)=false:=decide_eq_false J;have T:Hid (A≠B):=EE.out (fun h=>J (congrArg Prod.fst h))
     go_wp2_with fail
     go_quiet (fail)
     go_wp2
     go_ret;exact⟨false,rfl,zjQ D _,⟨fun h=>(by cases h),fun h=>absurd h T.out⟩⟩
   ·have:k=n:=by omega
    subst this;have Y:Hid (A=B):=E1.out AA.out
    go_wp2
    go_ret;exact⟨true,rfl,D,⟨fun _=>Y.out,fun _=>rfl⟩⟩
 ·have I:A≠B:=fun e=>hl (by rw[e]);have O:Hid (A≠B):=I;have a5:decide ((A.length:Int)=(B.length:Int))=false:=decide_eq_false (by omega);have a6:((A.length:Int) ==(B.length:Int))=false:=beq_eq_false_iff_ne.2 (by omega);have a7:(A.length == B.length)=false:=beq_eq_false_iff_ne.2 hl;clear h1 V I;generalize A.length=n at *;generalize B.length=m at *
  go_enter Tryz.func31,Tryz.ntmps31
  go_wp2
  go_ret;exact⟨false,rfl,yj _ _,⟨fun h=>(by cases h),fun h=>absurd h O.out⟩⟩
theorem zrd{R Q:Rl}:R=Q↔R.s=Q.s/\R.hs=Q.hs/\R.i=Q.i/\R.t=Q.t:=by
 cases R;cases Q;simp
theorem zfJ(A B:RA)(R Q:Rl)(w:World)(hB:ziu R)(h1:zaS w A R)(h2:zaS w B Q) :
  Calls Tryz.prog 14 #[rlV A R,rlV B Q] w fun e w' => ∃ r:Bool,e=.returned (.bool r)/\Below w.heap.size w w' /\(r=true↔R=Q):=by
 obtain⟨a0,a1,a2,a3,c0,c1,c2,c3⟩:=A;obtain⟨b0,b1,b2,b3,d0,d1,d2,d3⟩:=B;have EX:Hid (R=Q↔R.s=Q.s/\R.hs=Q.hs/\R.i=Q.i/\R.t=Q.t):=zrd;obtain⟨g1,g2,g3,g4,g5,g6⟩:=hB;have D1:Hid (∀ W,Below w.heap.size w W->_):=fun W T=>zoT a0 b0 c0 d0 R.s Q.s W g1 g2 (h1.1.below T) (h2.1.below T);have D2:Hid (∀ W,Below w.heap.size w W->_):=fun W T=>zeS a1 b1 c1 d1 R.hs Q.hs W g3 (h1.2.1.below T) (h2.2.1.below T);have D3:Hid (∀ W,Below w.heap.size w W->_):=fun W T=>zmN a2 b2 c2 d2 R.i Q.i W g4 g5 (h1.2.2.1.below T) (h2.2.2.1.below T);have D4:Hid (∀ W,Below w.heap.size w W->Calls Tryz.prog 19 #[.slice a3 R.t.length c3,.slice b3 Q.t.length d3] W fun e w' => ∃ r:Bool,e=.returned (.bool r)/\Below W.heap.size W w' /\(r=true↔R.t=Q.t)):=fun W T=>(zdo a3 b3 c3 d3 R.t Q.t W g6 (h1.2.2.2.below T) (h2.2.2.2.below T)).mono fun e w' ⟨e1,D⟩=>⟨_,e1,D,decide_eq_true_iff⟩;clear h1 h2 g1 g2 g3 g4 g5 g6;dsimp only[rlV];generalize R.s=x0 at *;generalize Q.s=y0 at *;generalize R.hs=x1 at *;generalize Q.hs=y1 at *;generalize R.i=x2 at *;generalize Q.i=y2 at *;generalize R.t=x3 at *;generalize Q.t=y3 at *;generalize x0.length=U at *;generalize y0.length=n0 at *;generalize x1.length=V at *;generalize y1.length=n1 at *;generalize x2.length=Z at *;generalize y2.length=n2 at *;generalize x3.length=m3 at *;generalize y3.length=n3 at *
 go_enter Tryz.func14,Tryz.ntmps14
 go_wp2_with fail
 refine yf (D1.out _ (zai _ _ _)) ?_;rintro e W1 ⟨r1,rfl,D,hr⟩;have a4:Hid _:=hr;clear hr;have F:Hid (Below w.heap.size w W1):=(zai w _ _).trans (D.mono (by simp;omega));have l0:=zac (zaH w #[.slice a0 U c0,.slice a1 V c1,.slice a2 Z c2,.slice a3 m3 c3] 31 0 (.cells #[.slice b0 n0 d0,.slice b1 n1 d1,.slice b2 n2 d2,.slice b3 n3 d3] 31) rfl) D;have I:=zac (zaI w #[.slice b0 n0 d0,.slice b1 n1 d1,.slice b2 n2 d2,.slice b3 n3 d3] 31 0 (.cells #[.slice a0 U c0,.slice a1 V c1,.slice a2 Z c2,.slice a3 m3 c3] 31) rfl) D;have l1:=zac (zaH w #[.slice a0 U c0,.slice a1 V c1,.slice a2 Z c2,.slice a3 m3 c3] 31 1 (.cells #[.slice b0 n0 d0,.slice b1 n1 d1,.slice b2 n2 d2,.slice b3 n3 d3] 31) rfl) D;have J:=zac (zaI w #[.slice b0 n0 d0,.slice b1 n1 d1,.slice b2 n2 d2,.slice b3 n3 d3] 31 1 (.cells #[.slice a0 U c0,.slice a1 V c1,.slice a2 Z c2,.slice a3 m3 c3] 31) rfl) D;have l2:=zac (zaH w #[.slice a0 U c0,.slice a1 V c1,.slice a2 Z c2,.slice a3 m3 c3] 31 2 (.cells #[.slice b0 n0 d0,.slice b1 n1 d1,.slice b2 n2 d2,.slice b3 n3 d3] 31) rfl) D;have M:=zac (zaI w #[.slice b0 n0 d0,.slice b1 n1 d1,.slice b2 n2 d2,.slice b3 n3 d3] 31 2 (.cells #[.slice a0 U c0,.slice a1 V c1,.slice a2 Z c2,.slice a3 m3 c3] 31) rfl) D;have l3:=zac (zaH w #[.slice a0 U c0,.slice a1 V c1,.slice a2 Z c2,.slice a3 m3 c3] 31 3 (.cells #[.slice b0 n0 d0,.slice b1 n1 d1,.slice b2 n2 d2,.slice b3 n3 d3] 31) rfl) D
 have O:=zac (zaI w #[.slice b0 n0 d0,.slice b1 n1 d1,.slice b2 n2 d2,.slice b3 n3 d3] 31 3 (.cells #[.slice a0 U c0,.slice a1 V c1,.slice a2 Z c2,.slice a3 m3 c3] 31) rfl) D;clear D D1;cases r1
 ·go_wp2_with fail
  go_ret;exact⟨_,rfl,F.out,⟨fun h=>(by cases h),fun h=>(by have:=a4.out.2 ((EX.out.1 h).1);cases this)⟩⟩
 go_wp2_with fail
 refine yf (D2.out _ F.out) ?_;rintro e W2 ⟨r2,rfl,D,hr⟩;have a5:Hid _:=hr;clear hr;have F:Hid (Below w.heap.size w W2):=F.out.trans (D.mono F.out.size);have l0:=zac l0 D;have I:=zac I D;have l1:=zac l1 D;have J:=zac J D;have l2:=zac l2 D;have M:=zac M D;have l3:=zac l3 D;have O:=zac O D;clear D D2;cases r2
 ·go_wp2_with fail
  go_ret;exact⟨_,rfl,F.out,⟨fun h=>(by cases h),fun h=>(by have:=a5.out.2 ((EX.out.1 h).2.1);cases this)⟩⟩
 go_wp2_with fail
 refine yf (D3.out _ F.out) ?_;rintro e W3 ⟨r3,rfl,D,hr⟩;have a6:Hid _:=hr;clear hr;have F:Hid (Below w.heap.size w W3):=F.out.trans (D.mono F.out.size);have l0:=zac l0 D;have I:=zac I D;have l1:=zac l1 D;have J:=zac J D;have l2:=zac l2 D;have M:=zac M D;have l3:=zac l3 D;have O:=zac O D;clear D D3;cases r3
 ·go_wp2_with fail
  go_ret;exact⟨_,rfl,F.out,⟨fun h=>(by cases h),fun h=>(by have:=a6.out.2 ((EX.out.1 h).2.2.1);cases this)⟩⟩
 go_wp2_with fail
 refine yf (D4.out _ F.out) ?_;rintro e W4 ⟨r4,rfl,D,hr⟩;have a7:Hid _:=hr;clear hr;have F:Hid (Below w.heap.size w W4):=F.out.trans (D.mono F.out.size);have l0:=zac l0 D;have I:=zac I D;have l1:=zac l1 D;have J:=zac J D;have l2:=zac l2 D;have M:=zac M D;have l3:=zac l3 D;have O:=zac O D;clear D D4
 go_wp2_with fail
 go_ret;exact⟨_,rfl,F.out,⟨fun h=>EX.out.2 ⟨a4.out.1 trivial,a5.out.1 trivial,a6.out.1 trivial,a7.out.1 h⟩,fun h=>a7.out.2 (EX.out.1 h).2.2.2⟩⟩
theorem zmP(A B:RA)(R Q:Rl)(w:World)(hB:ziu R)(h1:zaS w A R)(h2:zaS w B Q) :
  Calls Tryz.prog 13 #[rlV A R,rlV B Q] w fun e w' => ∃ r:Bool,e=.returned (.bool r)/\Below w.heap.size w w' /\(r=true↔R=Q):=by
 obtain⟨a0,a1,a2,a3,c0,c1,c2,c3⟩:=A;obtain⟨b0,b1,b2,b3,d0,d1,d2,d3⟩:=B;have EX:Hid (R=Q↔R.s=Q.s/\R.hs=Q.hs/\R.i=Q.i/\R.t=Q.t):=zrd;obtain⟨g1,g2,g3,g4,g5,g6⟩:=hB;have D1:Hid (∀ W,Below w.heap.size w W->_):=fun W T=>zqH a0 b0 c0 d0 R.s Q.s W g1 g2 (h1.1.below T) (h2.1.below T);have D2:Hid (∀ W,Below w.heap.size w W->_):=fun W T=>zeS a1 b1 c1 d1 R.hs Q.hs W g3 (h1.2.1.below T) (h2.2.1.below T);have D3:Hid (∀ W,Below w.heap.size w W->_):=fun W T=>znX a2 b2 c2 d2 R.i Q.i W g4 g5 (h1.2.2.1.below T) (h2.2.2.1.below T);have D4:Hid (∀ W,Below w.heap.size w W->Calls Tryz.prog 19 #[.slice a3 R.t.length c3,.slice b3 Q.t.length d3] W fun e w' => ∃ r:Bool,e=.returned (.bool r)/\Below W.heap.size W w' /\(r=true↔R.t=Q.t)):=fun W T=>(zdo a3 b3 c3 d3 R.t Q.t W g6 (h1.2.2.2.below T) (h2.2.2.2.below T)).mono fun e w' ⟨e1,D⟩=>⟨_,e1,D,decide_eq_true_iff⟩;clear h1 h2 g1 g2 g3 g4 g5 g6;dsimp only[rlV];generalize R.s=x0 at *;generalize Q.s=y0 at *;generalize R.hs=x1 at *;generalize Q.hs=y1 at *;generalize R.i=x2 at *;generalize Q.i=y2 at *;generalize R.t=x3 at *;generalize Q.t=y3 at *;generalize x0.length=U at *;generalize y0.length=n0 at *;generalize x1.length=V at *;generalize y1.length=n1 at *;generalize x2.length=Z at *;generalize y2.length=n2 at *;generalize x3.length=m3 at *;generalize y3.length=n3 at *
 go_enter Tryz.func13,Tryz.ntmps13
 go_wp2_with fail
 refine yf (D1.out _ (zai _ _ _)) ?_;rintro e W1 ⟨r1,rfl,D,hr⟩;have a4:Hid _:=hr;clear hr;have F:Hid (Below w.heap.size w W1):=(zai w _ _).trans (D.mono (by simp;omega));have l0:=zac (zaH w #[.slice a0 U c0,.slice a1 V c1,.slice a2 Z c2,.slice a3 m3 c3] 31 0 (.cells #[.slice b0 n0 d0,.slice b1 n1 d1,.slice b2 n2 d2,.slice b3 n3 d3] 31) rfl) D;have I:=zac (zaI w #[.slice b0 n0 d0,.slice b1 n1 d1,.slice b2 n2 d2,.slice b3 n3 d3] 31 0 (.cells #[.slice a0 U c0,.slice a1 V c1,.slice a2 Z c2,.slice a3 m3 c3] 31) rfl) D;have l1:=zac (zaH w #[.slice a0 U c0,.slice a1 V c1,.slice a2 Z c2,.slice a3 m3 c3] 31 1 (.cells #[.slice b0 n0 d0,.slice b1 n1 d1,.slice b2 n2 d2,.slice b3 n3 d3] 31) rfl) D;have J:=zac (zaI w #[.slice b0 n0 d0,.slice b1 n1 d1,.slice b2 n2 d2,.slice b3 n3 d3] 31 1 (.cells #[.slice a0 U c0,.slice a1 V c1,.slice a2 Z c2,.slice a3 m3 c3] 31) rfl) D;have l2:=zac (zaH w #[.slice a0 U c0,.slice a1 V c1,.slice a2 Z c2,.slice a3 m3 c3] 31 2 (.cells #[.slice b0 n0 d0,.slice b1 n1 d1,.slice b2 n2 d2,.slice b3 n3 d3] 31) rfl) D;have M:=zac (zaI w #[.slice b0 n0 d0,.slice b1 n1 d1,.slice b2 n2 d2,.slice b3 n3 d3] 31 2 (.cells #[.slice a0 U c0,.slice a1 V c1,.slice a2 Z c2,.slice a3 m3 c3] 31) rfl) D;have l3:=zac (zaH w #[.slice a0 U c0,.slice a1 V c1,.slice a2 Z c2,.slice a3 m3 c3] 31 3 (.cells #[.slice b0 n0 d0,.slice b1 n1 d1,.slice b2 n2 d2,.slice b3 n3 d3] 31) rfl) D
 have O:=zac (zaI w #[.slice b0 n0 d0,.slice b1 n1 d1,.slice b2 n2 d2,.slice b3 n3 d3] 31 3 (.cells #[.slice a0 U c0,.slice a1 V c1,.slice a2 Z c2,.slice a3 m3 c3] 31) rfl) D;clear D D1;cases r1
 ·go_wp2_with fail
  go_ret;exact⟨_,rfl,F.out,⟨fun h=>(by cases h),fun h=>(by have:=a4.out.2 ((EX.out.1 h).1);cases this)⟩⟩
 go_wp2_with fail
 refine yf (D2.out _ F.out) ?_;rintro e W2 ⟨r2,rfl,D,hr⟩;have a5:Hid _:=hr;clear hr;have F:Hid (Below w.heap.size w W2):=F.out.trans (D.mono F.out.size);have l0:=zac l0 D;have I:=zac I D;have l1:=zac l1 D;have J:=zac J D;have l2:=zac l2 D;have M:=zac M D;have l3:=zac l3 D;have O:=zac O D;clear D D2;cases r2
 ·go_wp2_with fail
  go_ret;exact⟨_,rfl,F.out,⟨fun h=>(by cases h),fun h=>(by have:=a5.out.2 ((EX.out.1 h).2.1);cases this)⟩⟩
 go_wp2_with fail
 refine yf (D3.out _ F.out) ?_;rintro e W3 ⟨r3,rfl,D,hr⟩;have a6:Hid _:=hr;clear hr;have F:Hid (Below w.heap.size w W3):=F.out.trans (D.mono F.out.size);have l0:=zac l0 D;have I:=zac I D;have l1:=zac l1 D;have J:=zac J D;have l2:=zac l2 D;have M:=zac M D;have l3:=zac l3 D;have O:=zac O D;clear D D3;cases r3
 ·go_wp2_with fail
  go_ret;exact⟨_,rfl,F.out,⟨fun h=>(by cases h),fun h=>(by have:=a6.out.2 ((EX.out.1 h).2.2.1);cases this)⟩⟩
 go_wp2_with fail
 refine yf (D4.out _ F.out) ?_;rintro e W4 ⟨r4,rfl,D,hr⟩;have a7:Hid _:=hr;clear hr;have F:Hid (Below w.heap.size w W4):=F.out.trans (D.mono F.out.size);have l0:=zac l0 D;have I:=zac I D;have l1:=zac l1 D;have J:=zac J D;have l2:=zac l2 D;have M:=zac M D;have l3:=zac l3 D;have O:=zac O D;clear D D4
 go_wp2_with fail
 go_ret;exact⟨_,rfl,F.out,⟨fun h=>EX.out.2 ⟨a4.out.1 trivial,a5.out.1 trivial,a6.out.1 trivial,a7.out.1 h⟩,fun h=>a7.out.2 (EX.out.1 h).2.2.2⟩⟩
def zbp(S:List Nd):Nat->Nat->Nat
 | 0,_=>0
 | k+1,i=>zbp S k i+(if (nd S k).h=(i:Int) then 1 else 0)
def zfM(S:List Nd)(i k:Nat):Prop:=(∀ c ∈ (nd S k).ks,c≠-1/\(c=(i:Int)->(nd S i).u=true/\(nd S i).p=k))/\((nd S k).h=(i:Int)->(nd S i).u=true)
def OkB(S:List Nd)(i:Nat):Prop:=(∀ k,k<S.length->zfM S i k)/\zdA S S.length i<=1/\zbp S S.length i<=1/\(0<zdA S S.length i↔(nd S i).p≠-1)/\(zaT S (S.length+1) i).length<=S.length
theorem ziP{S:List Nd}{i:Nat}:∀ {k:Nat},zdY S k->zbp S k i<=1/\(0<zbp S k i->∃ k', k' < k/\(nd S k').h=(i:Int))
 | 0,_=>⟨by simp[zbp],fun h=>by simp[zbp] at h⟩
 | k+1,h=>by
  obtain⟨h1,F⟩:=ziP (k:=k) (fun j J=>h j (by omega));simp only[zbp];by_cases e:(nd S k).h=(i:Int)
  ·rw[yd e]
   have h0:zbp S k i=0:=by
    by_cases I:zbp S k i=0
    ·exact I
    ·obtain⟨k', w,A⟩:=F (Nat.pos_of_ne_zero I);have D:(nd S k).h≠-1:=by rw[e];omega
     exact absurd (A.trans e.symm) ((h k (Nat.lt_succ_self k) D).2 k' w)
   exact⟨by omega,fun _=>⟨k,by omega,e⟩⟩
  ·rw[ya e];exact⟨by omega,fun M=>by obtain⟨k', w,A⟩:=F (by omega);exact⟨k', by omega,A⟩⟩
theorem zgr{S:List Nd}{i:Nat}:∀ {j k:Nat},j<=k->zbp S j i<=zbp S k i:=by
 intro j k h
 induction k with
 | zero =>
  have:j=0:=by omega
  subst this;exact yi _
 | succ k w =>
  by_cases e:j=k+1
  ·subst e;exact yi _
  ·have:=w (by omega);simp only[zbp];omega
theorem zmd{S:List Nd}{i a b k:Nat}(D:a<b)(M:b<k)(w:(nd S a).h=(i:Int))(A:(nd S b).h=(i:Int)):2<=zbp S k i:=by
 have h1:1<=zbp S (a+1) i:=by simp only[zbp];rw[yd w];omega
 have F:=zgr (S:=S) (i:=i) (j:=a+1) (k:=b) (by omega);have I:zbp S (b+1) i=zbp S b i+1:=by simp only[zbp];rw[yd A]
 have J:=zgr (S:=S) (i:=i) (j:=b+1) (k:=k) (by omega);omega
theorem zoq{S:List Nd}:∀ {f m:Nat} {x:Int},m<(zaT S f x).length->∃ w z:Nat,x=w/\w<S.length/\Up S m w z
 | 0,m,x,h=>by simp[zaT] at h
 | f+1,m,x,h=>by
  simp only[zaT] at h
  split at h
  ·rename_i hx;have hx2:0<=x/\x<=(S.length:Int)-1:=of_decide_eq_true hx;obtain⟨w,rfl⟩:∃ w:Nat,x=w:=⟨x.toNat,by omega⟩
   cases m with
   | zero=>exact⟨w,w,rfl,by omega,rfl⟩
   | succ m =>
    rw[yg] at h;obtain⟨y,z,e,hy,A⟩:=zoq (f:=f) (m:=m) (by simpa using h);exact⟨w,z,rfl,by omega,⟨y,hy,e,A⟩⟩
  ·simp at h
theorem ziW{S:List Nd}:∀ (f:Nat) {x:Nat},x<S.length->(∃ j,Up S (j+1) x x)->(zaT S f (x:Int)).length=f
 | 0,_,_,_=>rfl
 | f+1,x,hx,⟨j,z,w,hr,A⟩=>by
  rw[zaT,yd (zcZ.2 hx),yg,hr,List.length_cons,ziW f w ⟨j,by
   have h1:Up S 1 x z:=⟨z,w,hr,rfl⟩;exact Up.trans A h1⟩]
theorem zsB{S:List Nd}(h:WF S){i:Nat}(A:i<S.length):OkB S i:=by
 refine⟨fun k w=>⟨fun c M=>?_,fun e=>?_⟩,(h.kids.2 i A).1,(ziP h.hosts).1,⟨fun F=>?_,fun F=>?_⟩,?_⟩
 ·obtain⟨j,rfl,_,I,J,_⟩:=h.kid w M
  exact⟨by omega,fun e=>by
   have:j=i:=by omega
   subst this;exact⟨I,J⟩⟩
 ·have:=(h.hosts k w (by omega)).1;rw[e,yg] at this;exact this
 ·intro e
  have h0:zdA S S.length i=0:=by
   cases hz:zdA S S.length i with
   | zero=>rfl
   | succ m =>
    exfalso
    have O:(i:Int) ∈ (S.take S.length).flatMap Nd.ks:=by
     have:0<((S.take S.length).flatMap Nd.ks).count (i:Int):=by unfold zdA at hz;omega
     exact List.count_pos_iff.1 this
    obtain⟨y,hy,D⟩:=List.mem_flatMap.1 O;rw[List.take_length] at hy;obtain⟨k,w,rfl⟩:=List.getElem_of_mem hy;rw[<- zaJ w] at D;exact h.not_kid e w D
  omega
 ·have:=(h.kids.2 i A).2 F;omega
 ·rcases Nat.lt_or_ge S.length (zaT S (S.length+1) i).length with hl|hl
  ·obtain⟨U,z,e,hx,T⟩:=zoq hl;have:U=i:=by omega
   subst this;have:=h.up_short hx T;omega
  ·exact hl
theorem zkF(S:List Nd):zeQ S=0\/zeQ S=6:=by
 unfold zeQ;split
 ·split
  ·split
   ·exact Or.inr rfl
   ·exact Or.inl rfl
  ·exact Or.inr rfl
 ·exact Or.inr rfl
theorem zqn{S:List Nd}(hn:∀ i,i<S.length->zba S.length (nd S i)=0)(A:∀ i,i<S.length->OkB S i):zeQ S=0:=by
 have D:=fun i w=>zeI (zeJ (hn i w))
 have hK:zdk S:=by
  refine⟨fun i w x hx=>?_,fun j F=>⟨(A j F).2.1,fun hp=>?_⟩⟩
  ·have h1:=(((A i w).1 i w).1 x hx).1;have T:=(D i w).1 x hx;obtain⟨j,rfl⟩:∃ j:Nat,x=j:=⟨x.toNat,by omega⟩;have O:=(((A j (by omega)).1 i w).1 (j:Int) hx).2 rfl;refine⟨h1,?_,?_⟩ <;> rw[yg]
   ·exact O.1
   ·exact O.2
  ·have:=(A j F).2.2.2.1.2 hp;omega
 have U:zdY S S.length:=fun i w hh=>by
  have T:=(D i w).2.1;obtain⟨j,F⟩:∃ j:Nat,(nd S i).h=j:=⟨(nd S i).h.toNat,by omega⟩;have I:j<S.length:=by omega
  refine⟨by rw[F,yg];exact((A j I).1 i w).2 F,fun i' J e=>?_⟩;have:=zmd (S:=S) (i:=j) (k:=S.length) J w (e.trans F) F;have:=(A j I).2.2.1;omega
 have V:zkx S=false:=by
  unfold zkx;rw[List.any_eq_false];intro i w;rw[List.mem_range] at w;intro Z;obtain⟨j,j1,_,j3⟩:=zdO w Z;obtain⟨M,rfl⟩:∃ M,j=M+1:=⟨j-1,by omega⟩;have:=ziW (S.length+1) w ⟨M,j3⟩;have:=(A i w).2.2.2.2;omega
 unfold zeQ;rw[yd (decide_eq_true hK),yd (decide_eq_true U),V];rfl
theorem zpx{S:List Nd}(F:S.length<=24)(hn:∀ i,i<S.length->zba S.length (nd S i)=0){i:Nat}(D:i<S.length)(A:¬ OkB S i):zeQ S=6:=by
 rcases zkF S with h|h
 ·exfalso;refine A (zsB ((zdy S).1 ?_) D);unfold zaD
  rw[ya (by omega),yd ((zcP _ _).2 fun x hx=>by
   obtain⟨j,w,rfl⟩:=List.getElem_of_mem hx;have:=hn j w
   rwa [zaJ w] at this)]
  exact h
 ·exact h
end Go.Proofs.YtgjfmepbphfjoaaGreat
