/-
  x
-/
import Derived.Test.YtcbcpomacdngmaaGreatM0
import Derived.Test.YtcbcpomacdngmaaGreatProg
import Derived.WalkKit
import Derived.Deep.LoopGhost
import Derived.Deep.Draws
import Derived.Laws.CopyOwn
import Derived.Deep.OwnRows
import Derived.Shelf.Abstract
import Derived.Laws.AppendOwn
import Derived.Laws.Rows
namespace Go.Proofs.YtcbcpomacdngmaaGreat
set_option maxRecDepth 100000
set_option maxHeartbeats 4000000
set_option linter.unusedVariables false
open Go.RowKit
structure Nd where
 u:Bool
 n:Int
 t:Int
 m:Int
 p:Int
 ks:List Int
 h:Int
 c:Bool
def zhj:Nd:=⟨false,0,0,0,0,[],0,false⟩
theorem zae{α:Type}(l:List α)(d:α){k:Nat}(h:k<l.length):l.getD k d=l[k]:=by
 simp[List.getD,h]
def zal(w:World)(a:Option Addr)(ks:List Int):Prop :=
 ∀ i,i<ks.length->∃ b o,a=some ⟨b,o,none⟩/\w.cell? ⟨b,o+i,none⟩=some (.int .i64 (ks.getD i 0))
theorem zal.below{w w' : World}{a:Option Addr}{ks:List Int}(h:zal w a ks)(D:Below w.heap.size w w'):zal w' a ks:=by
 intro i hi;obtain⟨b,o,e,hc⟩:=h i hi;exact⟨b,o,e,(D.cell (yd w ⟨b,o+i,none⟩ hc)).trans hc⟩
def zrO(K:Nat)(D:Array Value)(p:Int->Bool)(w:World):Prop :=
 ∀ (x:Int) (w1:World),Below w.heap.size w w1->yL K (#[.int .i64 x] ++ D) w1 fun e E=>e=.returned (.bool (p x))/\Below w1.heap.size w1 E
theorem zgV(K:Nat)(E:Array Value)(p:Int->Bool)(a:Option Addr)(c:Nat)(ks:List Int)(w:World)(U:ks.length<=9223372036854775807)(I:zal w a ks)
  (eg:∀ args w,(callFunc K args).run Tryz.prog w=.ok (.enter K args) w) (O:zrO K E p w) :
  yL 153 #[.slice a ks.length c,.func (.func K) #[] E] w fun e w' => ∃ r:Int,e=.returned (.int .i64 r)/\Below w.heap.size w w' /\
   ((r = -1/\∀ i,i<ks.length->p (ks.getD i 0)=false)\/(∃ k:Nat,k<ks.length/\r=k/\p (ks.getD k 0)=true/\∀ i,i<k->p (ks.getD i 0)=false)):=by
 generalize hn:ks.length=n at *
 go_enter Tryz.func153,Tryz.ntmps153
 go_wp2
 go_loopg [8] n (fun g s8 wr=>∃ k:Nat,k<=n/\n-k<=g/\s8=.int .i64 k/\Below w.heap.size w wr/\Hid (∀ i,i<k->p (ks.getD i 0)=false))
 case atStart=>exact⟨0,by omega,by omega,rfl,yk _ _,fun i hi=>by omega⟩
 case round =>
  obtain⟨k,hk,hg,rfl,J,A⟩:=hrel;by_cases T:k<n
  ·obtain⟨b,o,rfl,hc⟩:=(I.below J) k (by omega);have D:=O (ks.getD k 0) wr J;have F:Hid (zrO K E p w):=O;have KS:Hid (zal w (some ⟨b,o,none⟩) ks):=I;clear I O;generalize Z:ks.getD k 0=y at hc D;have Y:Hid (ks.getD k 0=y):=Z;clear Z
   cases hq:p y with
   | true =>
    rw[hq] at D
    go_wp2_with (go_at_fn K;refine D.mono ?_;rintro e w' ⟨rfl,M⟩)
    go_ret;exact⟨k,rfl,J.trans (M.mono J.size),Or.inr ⟨k,T,rfl,by rw[Y.out];exact hq,A.out⟩⟩
   | false =>
    rw[hq] at D
    go_wp2_with (go_at_fn K;refine D.mono ?_;rintro e w' ⟨rfl,M⟩)
    go_roundg (n-(k+1))
    case measure=>omega
    case rel =>
     refine⟨k+1,by omega,by omega,by go_num,J.trans (M.mono J.size),(show Hid _ from fun i hi=>?_)⟩;by_cases e:i=k
     ·subst e;rw[Y.out];exact hq
     ·exact A.out i (by omega)
  ·have:k=n:=(by omega);subst this;clear I O
   go_wp2
   go_ret;exact⟨-1,rfl,J,Or.inl ⟨rfl,A.out⟩⟩
theorem zeU(K:Nat)(F:Array Value)(p:Int->Bool)(a:Option Addr)(c:Nat)(ks:List Int)(w:World)(J:ks.length<=9223372036854775807)(M:zal w a ks)
  (Z:∀ args w,(callFunc K args).run Tryz.prog w=.ok (.enter K args) w) (U:zrO K F p w) :
  yL 132 #[.slice a ks.length c,.func (.func K) #[] F] w fun e w' => e=.returned (.bool (ks.any p))/\Below w.heap.size w w' := by
 have h:=zgV K F p a c ks w J M Z U;have E:∀ k,k<ks.length->p (ks.getD k 0)=true->ks.any p=true:=fun k O T=>List.any_eq_true.2 ⟨ks.getD k 0,by rw[zae _ _ O];exact List.getElem_mem O,T⟩
 have D:(∀ i,i<ks.length->p (ks.getD i 0)=false)->ks.any p=false:=fun H=>by
  rw[List.any_eq_false];intro x hx;obtain⟨i,hi,rfl⟩:=List.getElem_of_mem hx;have:=H i hi;rw[zae _ _ hi] at this;simp[this]
 have H:Hid _:=E;have N:Hid _:=D;clear E D M U
 go_enter Tryz.func132,Tryz.ntmps132
 go_wp2_with (go_at_call 153;refine h.mono ?_;rintro e w' ⟨r,rfl,hb,hr⟩)
 go_ret;refine⟨?_,hb⟩;rcases hr with ⟨rfl,I⟩ |⟨k,O,rfl,T,_⟩
 ·rw[N.out I];rfl
 ·rw[H.out k O T];simp
theorem zaR(x a b:Int)(w:World) :
  yL 66 #[.int .i64 x,.int .i64 a,.int .i64 b] w fun e w' => e=.returned (.bool (decide (a<=x/\x<=b)))/\w' = w:=by
 by_cases h1:a<=x
 ·by_cases D:x<=b
  ·have h:decide (a<=x/\x<=b)=true:=(by simp[h1,D]);rw[h];clear h
   go_enter Tryz.func66,Tryz.ntmps66
   go_wp2
   go_ret;exact⟨rfl,rfl⟩
  ·have h:decide (a<=x/\x<=b)=false:=(by simp[D]);rw[h];clear h
   go_enter Tryz.func66,Tryz.ntmps66
   go_wp2
   go_ret;exact⟨rfl,rfl⟩
 ·have h:decide (a<=x/\x<=b)=false:=by simp[h1]
  rw[h];clear h
  go_enter Tryz.func66,Tryz.ntmps66
  go_wp2
  go_ret;exact⟨rfl,rfl⟩
theorem zet(x a b:Int)(w:World)(h1:a<=x)(D:x<=b) :
  yL 66 #[.int .i64 x,.int .i64 a,.int .i64 b] w fun e w' => e=.returned (.bool true)/\w' = w:=by
 have h:=zaR x a b w
 rwa [yF (by exact⟨h1,D⟩)] at h
theorem zhi(x a b:Int)(w:World)(h1:x<a\/b<x) :
  yL 66 #[.int .i64 x,.int .i64 a,.int .i64 b] w fun e w' => e=.returned (.bool false)/\w' = w:=by
 have h:=zaR x a b w
 rwa [yE (by omega)] at h
theorem zhU(n:Int)(w:World) :
  yL 93 #[.int .i64 n] w fun e w' => e=.returned (.agg #[.bool false,.int .i64 n,.int .i64 0,.int .i64 0,.int .i64 (-1),.slice none 0 0,.int .i64 (-1),.bool false])/\w' = w.alloc (.cells #[.bool false,.int .i64 n,.int .i64 0,.int .i64 0,.int .i64 (-1),.slice none 0 0,.int .i64 (-1),.bool false] 57):=by
 go_enter Tryz.func93,Tryz.ntmps93
 go_wp2
 exact yv (v:=.agg #[.bool false,.int .i64 n,.int .i64 0,.int .i64 0,.int .i64 (-1),.slice none 0 0,.int .i64 (-1),.bool false]) (by simp[results,Tryz.results93,go_sem]) rfl ⟨rfl,rfl⟩
def zlJ(N x:Int):Bool:=decide (-1<=x/\x<=N-1)
theorem zjO(x N:Int)(b:Nat)(w:World)(hc:w.cell? ⟨b,0,none⟩=some (.int .i64 N))(E:0<=N/\N<=24) :
  yL 149 #[.int .i64 x,.pointer (some ⟨b,0,none⟩)] w fun e w' => e=.returned (.bool (!zlJ N x))/\w' = w:=by
 have D:=zaR x (-1) (N-1);rw[show decide (-1<=x/\x<=N-1)=zlJ N x from rfl] at D;generalize zlJ N x=r at D
 go_enter Tryz.func149,Tryz.ntmps149
 go_wp2_with (go_at_call 66;refine(D _).mono ?_;rintro e w' ⟨rfl,rfl⟩)
 go_ret;exact⟨rfl,rfl⟩
def zcT(x:Nd):Bool:=decide (0<=x.n/\x.n<=1000000) && (decide (0<=x.t/\x.t<=99) && decide (-1000000<=x.m/\x.m<=1000000))
theorem zoh(x:Nd)(k:Value)(w:World) :
  yL 125 #[.agg #[.bool x.u,.int .i64 x.n,.int .i64 x.t,.int .i64 x.m,.int .i64 x.p,k,.int .i64 x.h,.bool x.c]] w fun e w' => e=.returned (.bool (zcT x))/\Below w.heap.size w w' := by
 unfold zcT;have d1:=zaR x.n 0 1000000;have d2:=zaR x.t 0 99;have d3:=zaR x.m (-1000000) 1000000;generalize decide (0<=x.n/\x.n<=1000000)=D at *;generalize decide (0<=x.t/\x.t<=99)=E at *;generalize decide (-1000000<=x.m/\x.m<=1000000)=F at *;cases D;rotate_left;cases E;rotate_left;cases F
 all_goals
  go_enter Tryz.func125,Tryz.ntmps125
  go_wp2_with (first|(go_at_call_of 66 (Value.int .i64 x.n);refine(d1 _).mono ?_;rintro e w' ⟨rfl,rfl⟩)|(go_at_call_of 66 (Value.int .i64 x.t);refine(d2 _).mono ?_;rintro e w' ⟨rfl,rfl⟩)|(go_at_call_of 66 (Value.int .i64 x.m);refine(d3 _).mono ?_;rintro e w' ⟨rfl,rfl⟩))
  go_ret;exact⟨rfl,(yk _ _).alloc (yj _) _⟩
def zeg(N:Int)(x:Nd):Bool:=zlJ N x.p && (zlJ N x.h && !(x.ks.any fun k=>!zlJ N k))
theorem zjh(x:Nd)(ka:Option Addr)(kc:Nat)(N:Int)(w:World)(I:0<=N/\N<=24)(D:x.ks.length<=9223372036854775807)(F:zal w ka x.ks) :
  yL 126 #[.agg #[.bool x.u,.int .i64 x.n,.int .i64 x.t,.int .i64 x.m,.int .i64 x.p,.slice ka x.ks.length kc,.int .i64 x.h,.bool x.c],.int .i64 N] w fun e w' => e=.returned (.bool (zeg N x))/\Below w.heap.size w w' := by
 unfold zeg;have d1:=zjO x.p N;have d2:=zjO x.h N
 have M:∀ w1:World,w1.cell? ⟨w.heap.size+1,0,none⟩=some (.int .i64 N)->zrO 149 #[.pointer (some ⟨w.heap.size+1,0,none⟩)] (fun k=>!zlJ N k) w1:=fun w1 h1 y w2 J =>
  (zjO y N (w.heap.size+1) w2 ((J.cell (yd w1 _ h1)).trans h1) I).mono (fun e w3 h=>⟨h.1,by rw[h.2];exact yk _ _⟩)
 have d3:=fun(W:World) (hk:zal W ka x.ks) (hc:W.cell? ⟨w.heap.size+1,0,none⟩=some (.int .i64 N))=>zeU 149 #[.pointer (some ⟨w.heap.size+1,0,none⟩)] (fun k=>!zlJ N k) ka kc x.ks W D hk (yJ Tryz.func149 (by kernel_rfl) rfl) (M W hc);have E:∀ O T,zal ((w.alloc O).alloc T) ka x.ks:=fun O T=>F.below (((yk _ _).alloc (yj _) _).alloc (by simp) _);have U:Hid _:=E;clear E F M;generalize zlJ N x.p=Z at *;generalize zlJ N x.h=b2 at *;generalize (x.ks.any fun k=>!zlJ N k)=b3 at *;cases Z;rotate_left;cases b2;rotate_left;cases b3
 all_goals
  go_enter Tryz.func126,Tryz.ntmps126
  go_wp2_with (first|(go_at_call_of 149 (Value.int .i64 x.p);refine(d1 _ _ (by go_simp) I).mono ?_;rintro e w' ⟨rfl,rfl⟩)|(go_at_call_of 149 (Value.int .i64 x.h);refine(d2 _ _ (by go_simp) I).mono ?_;rintro e w' ⟨rfl,rfl⟩)|(go_at_call 132;refine(d3 _ (U.out _ _) (by go_simp)).mono ?_;rintro e w' ⟨rfl,hb⟩))
 all_goals go_ret
 all_goals first
  | exact⟨rfl,((yk _ _).alloc (yj _) _).alloc (by simp) _⟩
  | exact⟨rfl,(((yk _ _).alloc (yj _) _).alloc (by simp) _).trans (hb.mono (by simp;omega))⟩
theorem ziT(a T:Option Addr)(c c' : Nat)(ks D:List Int)(w:World)(U:ks.length<=9223372036854775807)(h1:zal w a ks)(J:zal w T D) :
  yL 29 #[.slice a ks.length c,.slice T D.length c'] w fun e w' => e=.returned (.bool (decide (ks=D)))/\Below w.heap.size w w' := by
 by_cases hl:ks.length=D.length
 ·have same:(∀ i,i<ks.length->ks.getD i 0=D.getD i 0)->decide (ks=D)=true:=fun H=>by
   refine yF (List.ext_getElem hl fun i hi M=>?_);have:=H i hi
   rwa [zae _ _ hi,zae _ _ M] at this
  have other:∀ i,ks.getD i 0≠D.getD i 0->decide (ks=D)=false:=fun i H=>yE fun e=>H (by rw[e]);rw[<- hl];have S:Hid _:=same;have O:Hid _:=other;clear same other;generalize hn:ks.length=n at *
  go_enter Tryz.func29,Tryz.ntmps29
  go_wp2
  go_loopg [13] n (fun g s13 wr=>∃ k:Nat,k<=n/\n-k<=g/\s13=.int .i64 k/\Below w.heap.size w wr/\Hid (∀ i,i<k->ks.getD i 0=D.getD i 0))
  case atStart=>exact⟨0,Nat.zero_le _,by omega,rfl,yk _ _,fun i hi=>by omega⟩
  case round =>
   obtain⟨k,hk,hg,rfl,I,A⟩:=hrel;by_cases a6:k<n
   ·obtain⟨b,o,rfl,g1⟩:=(h1.below I) k (by omega);obtain⟨b', o', rfl,g2⟩:=(J.below I) k (by omega);clear h1 J;by_cases F:ks.getD k 0=D.getD k 0
    ·have E:Hid (ks.getD k 0=D.getD k 0):=F;rw[<- F] at g2;clear F;generalize ks.getD k 0=y at g1 g2
     go_wp2_with fail
     go_region
     all_goals go_wp2
     all_goals go_roundg (n-(k+1))
     case measure=>omega
     case rel =>
      refine⟨k+1,by omega,by omega,by go_num,I.drew,(show Hid _ from fun i hi=>?_)⟩;by_cases e:i=k
      ·subst e;exact E.out
      ·exact A.out i (by omega)
    ·have Z:=O.out k F;generalize ks.getD k 0=y at g1 F;generalize D.getD k 0=y' at g2 F
     go_wp2_with fail
     go_region
     all_goals go_wp2
     all_goals go_ret
     rw[Z];exact⟨rfl,I.drew⟩
   ·clear h1 J;have:k=n:=(by omega);subst this
    go_wp2
    go_ret;rw[S.out A.out];exact⟨rfl,I⟩
 ·have hd:decide (ks=D)=false:=yE fun e=>hl (by rw[e]);have a5:¬ ((ks.length:Int)=(D.length:Int)):=by omega
  rw[hd];clear h1 J hd;generalize ks.length=n at *;generalize D.length=n' at *
  go_enter Tryz.func29,Tryz.ntmps29
  go_wp2
  go_ret;exact⟨rfl,yk _ _⟩
theorem zdf{w w1:World}{u T:Bool}{n J t O m I p M:Int}{k k' : Value}{h F:Int}{c E:Bool}(D:Below (w.heap.size+1+1) ((w.alloc (.cells #[.bool u,.int .i64 n,.int .i64 t,.int .i64 m,.int .i64 p,k,.int .i64 h,.bool c] 57)).alloc (.cells #[.bool T,.int .i64 J,.int .i64 O,.int .i64 I,.int .i64 M,k', .int .i64 F,.bool E] 57)) w1) :
  w1.cell? ⟨w.heap.size,6,none⟩=some (.int .i64 h)/\w1.cell? ⟨w.heap.size,7,none⟩=some (.bool c)/\w1.cell? ⟨w.heap.size+1,6,none⟩=some (.int .i64 F)/\w1.cell? ⟨w.heap.size+1,7,none⟩=some (.bool E) :=
 ⟨(D.cell (by simp;omega)).trans (by go_simp),(D.cell (by simp;omega)).trans (by go_simp),(D.cell (by simp)).trans (by go_simp),(D.cell (by simp)).trans (by go_simp)⟩
theorem znl(u u' : Bool)(n n' t t' m m' p p' : Int)(ks D:List Int)(ka J:Option Addr)(kc a6:Nat)(h M:Int)(c F:Bool)(w:World)(a5:ks.length<=9223372036854775807)(h1:zal w ka ks)(h2:zal w J D) :
  yL 87 #[.agg #[.bool u,.int .i64 n,.int .i64 t,.int .i64 m,.int .i64 p,.slice ka ks.length kc,.int .i64 h,.bool c],.agg #[.bool u', .int .i64 n', .int .i64 t', .int .i64 m', .int .i64 p', .slice J D.length a6,.int .i64 M,.bool F]] w fun e w' => e=.returned (.bool (decide (u=u' /\ n=n' /\ t=t' /\ m=m' /\ p=p' /\ ks=D/\h=M/\c=F)))/\Below w.heap.size w w' := by
 have I:=fun(W:World) (g1:zal W ka ks) (g2:zal W J D)=>ziT ka J kc a6 ks D W a5 g1 g2;have i1:∀ o1 o2,zal ((w.alloc o1).alloc o2) ka ks:=fun o1 o2=>h1.below (((yk _ _).alloc (yj _) _).alloc (by simp) _);have i2:∀ o1 o2,zal ((w.alloc o1).alloc o2) J D:=fun o1 o2=>h2.below (((yk _ _).alloc (yj _) _).alloc (by simp) _);have O:Hid _:=i1;have T:Hid _:=i2;clear i1 i2 h1 h2;by_cases Eu:u=u'
 ·subst Eu;by_cases En:n=n'
  ·subst En;by_cases Et:t=t'
   ·subst Et;by_cases Em:m=m'
    ·subst Em;by_cases Ep:p=p'
     ·subst Ep;by_cases U:ks=D
      ·have ED:decide (ks=D)=true:=yF U;rw[ED] at I;clear ED;by_cases Eh:h=M
       ·subst Eh;by_cases Ec:c=F
        ·subst Ec;have hs:decide (u=u/\n=n/\t=t/\m=m/\p=p/\ks=D/\h=h/\c=c)=true:=(by simp[U]);rw[hs];clear hs U
         go_enter Tryz.func87,Tryz.ntmps87
         go_wp2_with (go_at_call 29;refine(I _ (O.out _ _) (T.out _ _)).mono ?_;rintro e w' ⟨rfl,E⟩;simp only[yr] at E;obtain⟨Z,l2,l3,l4⟩:=zdf E)
         go_ret
         first
          | exact⟨rfl,((yk _ _).alloc (yj _) _).alloc (by simp) _⟩
          | exact⟨rfl,(((yk _ _).alloc (yj _) _).alloc (by simp) _).trans (E.mono (by omega))⟩
        ·have hs:decide (u=u/\n=n/\t=t/\m=m/\p=p/\ks=D/\h=h/\c=F)=false:=(by simp[Ec]);rw[hs];clear hs U
         cases c <;> cases F <;> first|exact absurd rfl Ec|skip
         all_goals
          go_enter Tryz.func87,Tryz.ntmps87
          go_wp2_with (go_at_call 29;refine(I _ (O.out _ _) (T.out _ _)).mono ?_;rintro e w' ⟨rfl,E⟩;simp only[yr] at E;obtain⟨Z,l2,l3,l4⟩:=zdf E)
          go_ret
          first
           | exact⟨rfl,((yk _ _).alloc (yj _) _).alloc (by simp) _⟩
           | exact⟨rfl,(((yk _ _).alloc (yj _) _).alloc (by simp) _).trans (E.mono (by omega))⟩
       ·have hs:decide (u=u/\n=n/\t=t/\m=m/\p=p/\ks=D/\h=M/\c=F)=false:=(by simp[Eh]);rw[hs];clear hs U
        go_enter Tryz.func87,Tryz.ntmps87
        go_wp2_with (go_at_call 29;refine(I _ (O.out _ _) (T.out _ _)).mono ?_;rintro e w' ⟨rfl,E⟩;simp only[yr] at E;obtain⟨Z,l2,l3,l4⟩:=zdf E)
        go_ret
        first
         | exact⟨rfl,((yk _ _).alloc (yj _) _).alloc (by simp) _⟩
         | exact⟨rfl,(((yk _ _).alloc (yj _) _).alloc (by simp) _).trans (E.mono (by omega))⟩
      ·have ED:decide (ks=D)=false:=yE U;rw[ED] at I;have hs:decide (u=u/\n=n/\t=t/\m=m/\p=p/\ks=D/\h=M/\c=F)=false:=(by simp[U]);rw[hs];clear hs U ED
       go_enter Tryz.func87,Tryz.ntmps87
       go_wp2_with (go_at_call 29;refine(I _ (O.out _ _) (T.out _ _)).mono ?_;rintro e w' ⟨rfl,E⟩;simp only[yr] at E;obtain⟨Z,l2,l3,l4⟩:=zdf E)
       go_ret
       first
        | exact⟨rfl,((yk _ _).alloc (yj _) _).alloc (by simp) _⟩
        | exact⟨rfl,(((yk _ _).alloc (yj _) _).alloc (by simp) _).trans (E.mono (by omega))⟩
     ·have hs:decide (u=u/\n=n/\t=t/\m=m/\p=p' /\ ks=D/\h=M/\c=F)=false:=(by simp[Ep]);rw[hs];clear hs
      go_enter Tryz.func87,Tryz.ntmps87
      go_wp2_with (go_at_call 29;refine(I _ (O.out _ _) (T.out _ _)).mono ?_;rintro e w' ⟨rfl,E⟩;simp only[yr] at E;obtain⟨Z,l2,l3,l4⟩:=zdf E)
      go_ret
      first
       | exact⟨rfl,((yk _ _).alloc (yj _) _).alloc (by simp) _⟩
       | exact⟨rfl,(((yk _ _).alloc (yj _) _).alloc (by simp) _).trans (E.mono (by omega))⟩
    ·have hs:decide (u=u/\n=n/\t=t/\m=m' /\ p=p' /\ ks=D/\h=M/\c=F)=false:=(by simp[Em]);rw[hs];clear hs
     go_enter Tryz.func87,Tryz.ntmps87
     go_wp2_with (go_at_call 29;refine(I _ (O.out _ _) (T.out _ _)).mono ?_;rintro e w' ⟨rfl,E⟩;simp only[yr] at E;obtain⟨Z,l2,l3,l4⟩:=zdf E)
     go_ret
     first
      | exact⟨rfl,((yk _ _).alloc (yj _) _).alloc (by simp) _⟩
      | exact⟨rfl,(((yk _ _).alloc (yj _) _).alloc (by simp) _).trans (E.mono (by omega))⟩
   ·have hs:decide (u=u/\n=n/\t=t' /\ m=m' /\ p=p' /\ ks=D/\h=M/\c=F)=false:=(by simp[Et]);rw[hs];clear hs
    go_enter Tryz.func87,Tryz.ntmps87
    go_wp2_with (go_at_call 29;refine(I _ (O.out _ _) (T.out _ _)).mono ?_;rintro e w' ⟨rfl,E⟩;simp only[yr] at E;obtain⟨Z,l2,l3,l4⟩:=zdf E)
    go_ret
    first
     | exact⟨rfl,((yk _ _).alloc (yj _) _).alloc (by simp) _⟩
     | exact⟨rfl,(((yk _ _).alloc (yj _) _).alloc (by simp) _).trans (E.mono (by omega))⟩
  ·have hs:decide (u=u/\n=n' /\ t=t' /\ m=m' /\ p=p' /\ ks=D/\h=M/\c=F)=false:=(by simp[En]);rw[hs];clear hs
   go_enter Tryz.func87,Tryz.ntmps87
   go_wp2_with (go_at_call 29;refine(I _ (O.out _ _) (T.out _ _)).mono ?_;rintro e w' ⟨rfl,E⟩;simp only[yr] at E;obtain⟨Z,l2,l3,l4⟩:=zdf E)
   go_ret
   first
    | exact⟨rfl,((yk _ _).alloc (yj _) _).alloc (by simp) _⟩
    | exact⟨rfl,(((yk _ _).alloc (yj _) _).alloc (by simp) _).trans (E.mono (by omega))⟩
 ·have hs:decide (u=u' /\ n=n' /\ t=t' /\ m=m' /\ p=p' /\ ks=D/\h=M/\c=F)=false:=by simp[Eu]
  rw[hs];clear hs
  cases u <;> cases u' <;> first|exact absurd rfl Eu|skip
  all_goals
   go_enter Tryz.func87,Tryz.ntmps87
   go_wp2_with (go_at_call 29;refine(I _ (O.out _ _) (T.out _ _)).mono ?_;rintro e w' ⟨rfl,E⟩;simp only[yr] at E;obtain⟨Z,l2,l3,l4⟩:=zdf E)
   go_ret
   first
    | exact⟨rfl,((yk _ _).alloc (yj _) _).alloc (by simp) _⟩
    | exact⟨rfl,(((yk _ _).alloc (yj _) _).alloc (by simp) _).trans (E.mono (by omega))⟩
def zec(x:Nd):Bool:=if x.u then (if x.n=0 then false else if x.h = -1 then !x.c else decide (x.p = -1)) else decide (x.t=0/\x.m=0/\x.p = -1/\x.ks=[]/\x.h = -1/\x.c=false)
theorem zvY(w:World)(a:Option Addr):zal w a []:=fun _ hi=>absurd hi (yw _)
theorem zjB(n D t m p:Int)(ks:List Int)(ka:Option Addr)(kc:Nat)(h:Int)(c:Bool)(w:World)(hn:D=n)(E:ks.length<=9223372036854775807)(h1:zal w ka ks) :
  yL 87 #[.agg #[.bool false,.int .i64 n,.int .i64 t,.int .i64 m,.int .i64 p,.slice ka ks.length kc,.int .i64 h,.bool c],.agg #[.bool false,.int .i64 D,.int .i64 0,.int .i64 0,.int .i64 (-1),.slice none 0 0,.int .i64 (-1),.bool false]] w fun e w' => e=.returned (.bool (decide (t=0/\m=0/\p = -1/\ks=[]/\h = -1/\c=false)))/\Below w.heap.size w w' := by
 subst hn;have H:=znl false false D D t 0 m 0 p (-1) ks [] ka none kc 0 h (-1) c false w E h1 (zvY _ _)
 have e:decide (false=false/\D=D/\t=0/\m=0/\p = -1/\ks=[]/\h = -1/\c=false)=decide (t=0/\m=0/\p = -1/\ks=[]/\h = -1/\c=false):=by
  congr 1;simp
 rw[e] at H;exact H
theorem zad(W:World)(D:Array Value)(t j:Nat){v:Value}(h:D[j]?=some v):(W.alloc (.cells D t)).cell? ⟨W.heap.size,j,none⟩=some v:=by
 have e:=yK W (.cells D t);simp only[World.cell?,e];exact h
theorem zab{W D:World}{b o:Nat}{v:Value}(h:W.cell? ⟨b,o,none⟩=some v)(E:Below W.heap.size W D):D.cell? ⟨b,o,none⟩=some v:=(E.cell (yd _ _ h)).trans h
theorem zaa(w:World)(D:Obj):Below w.heap.size w (w.alloc D):=(yk _ _).alloc (yj _) _
theorem zam(w:World)(D E:Obj):Below w.heap.size w ((w.alloc D).alloc E):=((yk _ _).alloc (yj _) _).alloc (by simp) _
theorem zaM(W:World)(D:Array Value)(t j:Nat){v:Value}(E:Obj)(h:D[j]?=some v):((W.alloc (.cells D t)).alloc E).cell? ⟨W.heap.size,j,none⟩=some v:=zab (zad W D t j h) (zaa _ _)
theorem zaN(W:World)(D:Array Value)(t j:Nat){v:Value}(E:Obj)(h:D[j]?=some v):((W.alloc E).alloc (.cells D t)).cell? ⟨W.heap.size+1,j,none⟩=some v:=by
 have:=zad (W.alloc E) D t j h;simpa using this
theorem zaJ{w w' : World}{B e size n:Nat}{v:Value}{E:List Value}(h:w.ownsRow B e size v n E)(J:∀ k,v.ownBlock=some k->w'.heap[k]?=w.heap[k]?):w'.ownsRow B e size v n E:=by
 obtain⟨hl,h⟩:=h;refine⟨hl,?_⟩;rcases h with h |⟨g,cap,D,rfl,h1,F,I⟩
 ·exact Or.inl h
 ·exact Or.inr ⟨g,cap,D,rfl,h1,(J g rfl).trans F,I⟩
theorem zaV{w:World}{B B' e size n:Nat}{v:Value}{E:List Value}(h:w.ownsRow B e size v n E)(J:B' <= B):w.ownsRow B' e size v n E:=by
 obtain⟨hl,h⟩:=h;refine⟨hl,?_⟩;rcases h with h |⟨g,cap,D,rfl,h1,F,I⟩
 ·exact Or.inl h
 ·exact Or.inr ⟨g,cap,D,rfl,by omega,F,I⟩
theorem zei{w:World}{B B' e U size D n n' : Nat}{v v' : Value}{xs M:List Value}(h:w.ownsRow B e size v n xs)(I:w.ownsRow B' U D v' n' M)(J:e≠U):∀ k,v.ownBlock=some k->v'.ownBlock≠some k:=by
 intro k Z F;obtain⟨_,h⟩:=h;obtain⟨_,I⟩:=I;rcases h with ⟨rfl,_⟩ |⟨g,cap,a5,rfl,_,h2,_⟩
 ·cases Z
 rcases I with ⟨rfl,_⟩ |⟨g', O,T,rfl,_,E,_⟩
 ·cases F
 cases Z;cases F;rw[h2] at E;cases E;exact J rfl
theorem zfJ{B:Nat}{F:World}{v:Value}{l:List Int}{n:Nat}(D:F.ownsRow B 3 1 v n (l.map (Value.int .i64))):∃ sa cap,v=.slice sa l.length cap/\zal F sa l:=by
 have hn:n=l.length:=by have:=D.1;simp at this;omega
 subst hn;obtain⟨hl,h⟩:=D;rcases h with ⟨rfl,h0⟩ |⟨g,cap,E,rfl,_,hg,h1,J,M,I⟩
 ·exact⟨none,0,by rw[h0],fun i hi=>by omega⟩
 ·refine⟨some ⟨g,0,none⟩,cap,rfl,fun i hi=>⟨g,0,rfl,?_⟩⟩
  have h5:(E.toList.take (l.length*1))[i]?=some (.int .i64 (l.getD i 0)):=by
   rw[I,List.getElem?_map,List.getElem?_eq_getElem hi,zae l 0 hi];rfl
  rw[List.getElem?_take,yb (by omega)] at h5;simp only[yz,World.cell?,hg];simpa using h5
theorem ziN{w:World}{b t:Nat}{v D:Value}(h:w.heap[b]?=some (.cells #[v] t (0,0))):(w.setCell ⟨b,0,none⟩ D).heap[b]?=some (.cells #[D] t (0,0)):=by
 show (w.heap.modify b _)[b]?=_;rw[Array.getElem?_modify,yb rfl,h];rfl
theorem zaY{w:World}{b t o:Nat}{v:Value}(h:w.heap[b]?=some (.cells #[v] t (0,0))):w.frozen? ⟨b,o,none⟩=false:=by
 simp[World.frozen?,h]
theorem zaI{w:World}{b t:Nat}{v:Value}(h:w.heap[b]?=some (.cells #[v] t (0,0))):w.cell? ⟨b,0,none⟩=some v:=by
 simp[World.cell?,h]
theorem zau{w:World}{b:Nat}{o:Obj}(h:w.heap[b]?=some o):b<w.heap.size:=(Array.getElem?_eq_some_iff.1 h).1
theorem zkO{w:World}{B g cap:Nat}{l:List Int}{G:Nat->Value}(h:w.rowIs g 3 cap G)(hg:∀ j,j<l.length->G j=.int .i64 (l.getD j 0))(h1:l.length<=cap)(F:cap<=maxLen)(I:B<=g):w.ownsRow B 3 1 (.slice (some ⟨g,0,none⟩) l.length cap) l.length (l.map (Value.int .i64)):=by
 obtain⟨E,hc,hs,J⟩:=h;refine⟨by simp,Or.inr ⟨g,cap,E,rfl,I,hc,h1,F,by omega,?_⟩⟩;rw[Nat.mul_one];refine List.ext_getElem? fun j=>?_;rw[List.getElem?_take,List.getElem?_map];by_cases D:j<l.length
 ·rw[yb D,Array.getElem?_toList,J j (by omega),hg j D,List.getElem?_eq_getElem D,zae l 0 D];rfl
 ·rw[ya D,List.getElem?_eq_none (by omega)];rfl
end Go.Proofs.YtcbcpomacdngmaaGreat
