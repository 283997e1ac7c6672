/-
  x
-/
import Derived.Test.YtcbcpomacdngmaaGreatA0
import Derived.Test.YtcbcpomacdngmaaGreatProg
import Derived.WalkKit
import Derived.Deep.LoopGhost
import Derived.Deep.Draws
import Derived.Laws.CopyOwn
import Derived.Deep.OwnRows
import Derived.Shelf.Abstract
import Derived.Laws.AppendOwn
import Derived.Laws.Rows
namespace Go.Proofs.YtcbcpomacdngmaaGreat
set_option maxRecDepth 100000
set_option maxHeartbeats 4000000
set_option linter.unusedVariables false
open Go.RowKit Tryz
variable{v:Value}{w:Wd}{b B n e size t o B':Nat}{w':World}{E:List Value}{l:List Int}
structure Nd where
 u:Bool
 n:Int
 t:Int
 m:Int
 p:Int
 ks:List Int
 h:Int
 c:Bool
def oJ:Nd:=⟨false,0,0,0,0,[],0,false⟩
theorem aJ{α:Type}(l:List α)(d:α){k:Nat}(h:k<l.length):l.getD k d=l[k]:=by
 simp[List.getD,h]
def aG(w:Wd)(a:OA)(ks:List Int):Prop :=
 ∀ i,i<ks.length->∃ b o,a=some ⟨b,o,none⟩/\w.cell? ⟨b,o+i,none⟩=some (.int .i64 (ks.getD i 0))
theorem aG.below{w:World}{a:OA}{ks:List Int}(h:aG w a ks)(hb:Bl w w'):aG w' a ks:=by
 intro i hi;obtain⟨b,o,e,hc⟩:=h i hi;exact⟨b,o,e,(hb.cell (yi w ⟨b,o+i,none⟩ hc)).trans hc⟩
def wG(K:Nat)(D:Array Value)(p:Int->Bool)(w:Wd):Prop :=
 ∀ (x:Int) (w1:Wd),Bl w w1->yO K (#[.int .i64 x] ++ D) w1 fun e w2=>e=.returned (.bool (p x))/\Below w1.heap.size w1 w2
theorem OZ(K:Nat)(E:Array Value)(p:Int->Bool)(a:OA)(c:Nat)(ks:List Int)(w:Wd)(T:ks.length<=9223372036854775807)(I:aG w a ks)
  (eg:∀ args w,(callFunc K args).run prog w=.ok (.enter K args) w) (M:wG K E p w) :
  yO 153 #[.slice a ks.length c,.func (.func K) #[] E] w fun e w' => ∃ r:Int,e=.returned (.int .i64 r)/\Below w.heap.size w w' /\
   ((r = -1/\∀ i,i<ks.length->p (ks.getD i 0)=false)\/(∃ k:Nat,k<ks.length/\r=k/\p (ks.getD k 0)=true/\∀ i,i<k->p (ks.getD i 0)=false)):=by
 generalize hn:ks.length=n at *
 go_enter func153,ntmps153
 go_wp2
 go_loopg [8] n (fun g s8 wr=>∃ k:Nat,k<=n/\n-k<=g/\s8=.int .i64 k/\Below w.heap.size w wr/\Hid (∀ i,i<k->p (ks.getD i 0)=false))
 case atStart=>exact⟨0,by omega,by omega,rfl,yv _ _,fun i hi=>by omega⟩
 case round =>
  obtain⟨k,hk,hg,rfl,hb,A⟩:=hrel;by_cases O:k<n
  ·obtain⟨b,o,rfl,hc⟩:=(I.below hb) k (by omega);have D:=M (ks.getD k 0) wr hb;have F:Hid (wG K E p w):=M;have Z:Hid (aG w (some ⟨b,o,none⟩) ks):=I;clear I M;generalize U:ks.getD k 0=y at hc D;have Y:Hid (ks.getD k 0=y):=U;clear U
   cases hq:p y with
   | true =>
    rw[hq] at D
    go_wp2_with (go_at_fn K;refine D.mono ?_;rintro e w' ⟨rfl,J⟩)
    go_ret;exact⟨k,rfl,hb.trans (J.mono hb.size),Or.inr ⟨k,O,rfl,by rw[Y.o];exact hq,A.o⟩⟩
   | false =>
    rw[hq] at D
    go_wp2_with (go_at_fn K;refine D.mono ?_;rintro e w' ⟨rfl,J⟩)
    go_roundg (n-(k+1))
    case measure=>omega
    case rel =>
     refine⟨k+1,by omega,by omega,by go_num,hb.trans (J.mono hb.size),(show Hid _ from fun i hi=>?_)⟩;by_cases e:i=k
     ·subst e;rw[Y.o];exact hq
     ·exact A.o i (by omega)
  ·have:k=n:=(by omega);subst this;clear I M
   go_wp2
   go_ret;exact⟨-1,rfl,hb,Or.inl ⟨rfl,A.o⟩⟩
theorem PD(K:Nat)(F:Array Value)(p:Int->Bool)(a:OA)(c:Nat)(ks:List Int)(w:Wd)(J:ks.length<=9223372036854775807)(M:aG w a ks)
  (Z:∀ args w,(callFunc K args).run prog w=.ok (.enter K args) w) (U:wG K F p w) :
  yO 132 #[.slice a ks.length c,.func (.func K) #[] F] w fun e w' => e=.returned (.bool (ks.any p))/\Below w.heap.size w w' := by
 have h:=OZ K F p a c ks w J M Z U;have E:∀ k,k<ks.length->p (ks.getD k 0)=true->ks.any p=true:=fun k O T=>List.any_eq_true.2 ⟨ks.getD k 0,by rw[aJ _ _ O];exact List.getElem_mem O,T⟩
 have D:(∀ i,i<ks.length->p (ks.getD i 0)=false)->ks.any p=false:=fun H=>by
  rw[List.any_eq_false];intro x hx;obtain⟨i,hi,rfl⟩:=List.getElem_of_mem hx;have:=H i hi;rw[aJ _ _ hi] at this;simp[this]
 have H:Hid _:=E;have N:Hid _:=D;clear E D M U
 go_enter func132,ntmps132
 go_wp2_with (go_at_call 153;refine h.mono ?_;rintro e w' ⟨r,rfl,hb,hr⟩)
 go_ret;refine⟨?_,hb⟩;rcases hr with ⟨rfl,I⟩ |⟨k,O,rfl,T,_⟩
 ·rw[N.o I];rfl
 ·rw[H.o k O T];simp
theorem gU(x a b:Int)(w:Wd) :
  yO 66 #[.int .i64 x,.int .i64 a,.int .i64 b] w fun e w' => e=.returned (.bool (decide (a<=x/\x<=b)))/\w' = w:=by
 by_cases h1:a<=x
 ·by_cases D:x<=b
  ·have h:decide (a<=x/\x<=b)=true:=(by simp[h1,D]);rw[h];clear h
   go_enter func66,ntmps66
   go_wp2
   go_ret;exact⟨rfl,rfl⟩
  ·have h:decide (a<=x/\x<=b)=false:=(by simp[D]);rw[h];clear h
   go_enter func66,ntmps66
   go_wp2
   go_ret;exact⟨rfl,rfl⟩
 ·have h:decide (a<=x/\x<=b)=false:=by simp[h1]
  rw[h];clear h
  go_enter func66,ntmps66
  go_wp2
  go_ret;exact⟨rfl,rfl⟩
theorem wH(x a b:Int)(w:Wd)(h1:a<=x)(D:x<=b) :
  yO 66 #[.int .i64 x,.int .i64 a,.int .i64 b] w fun e w' => e=.returned (.bool true)/\w' = w:=by
 have h:=gU x a b w
 rwa [yI (by exact⟨h1,D⟩)] at h
theorem zX(x a b:Int)(w:Wd)(h1:x<a\/b<x) :
  yO 66 #[.int .i64 x,.int .i64 a,.int .i64 b] w fun e w' => e=.returned (.bool false)/\w' = w:=by
 have h:=gU x a b w
 rwa [yH (by omega)] at h
theorem GZ(n:Int)(w:Wd) :
  yO 93 #[.int .i64 n] w fun e w' => e=.returned (.agg #[.bool false,.int .i64 n,.int .i64 0,.int .i64 0,.int .i64 (-1),.slice none 0 0,.int .i64 (-1),.bool false])/\w' = w.alloc (.cells #[.bool false,.int .i64 n,.int .i64 0,.int .i64 0,.int .i64 (-1),.slice none 0 0,.int .i64 (-1),.bool false] 57):=by
 go_enter func93,ntmps93
 go_wp2
 exact yz (v:=.agg #[.bool false,.int .i64 n,.int .i64 0,.int .i64 0,.int .i64 (-1),.slice none 0 0,.int .i64 (-1),.bool false]) (by simp[results,results93,go_sem]) rfl ⟨rfl,rfl⟩
def fA(N x:Int):Bool:=decide (-1<=x/\x<=N-1)
theorem HZ(x N:Int)(b:Nat)(w:Wd)(hc:w.cell? ⟨b,0,none⟩=some (.int .i64 N))(D:0<=N/\N<=24) :
  yO 149 #[.int .i64 x,.pointer (some ⟨b,0,none⟩)] w fun e w' => e=.returned (.bool (!zmo N x))/\w' = w:=by
 have hw:=gU x (-1) (N-1);rw[show decide (-1<=x/\x<=N-1)=fA N x from rfl] at hw;generalize fA N x=r at hw
 go_enter func149,ntmps149
 go_wp2_with (go_at_call 66;refine(hw _).mono ?_;rintro e w' ⟨rfl,rfl⟩)
 go_ret;exact⟨rfl,rfl⟩
def iO(x:Nd):Bool:=decide (0<=x.n/\x.n<=1000000) && (decide (0<=x.t/\x.t<=99) && decide (-1000000<=x.m/\x.m<=1000000))
theorem Am(x:Nd)(k:Value)(w:Wd) :
  yO 125 #[.agg #[.bool x.u,.int .i64 x.n,.int .i64 x.t,.int .i64 x.m,.int .i64 x.p,k,.int .i64 x.h,.bool x.c]] w fun e w' => e=.returned (.bool (iO x))/\Below w.heap.size w w' := by
 unfold iO;have d1:=gU x.n 0 1000000;have d2:=gU x.t 0 99;have d3:=gU x.m (-1000000) 1000000;generalize decide (0<=x.n/\x.n<=1000000)=D at *;generalize decide (0<=x.t/\x.t<=99)=E at *;generalize decide (-1000000<=x.m/\x.m<=1000000)=F at *;cases D;rotate_left;cases E;rotate_left;cases F
 all_goals
  go_enter func125,ntmps125
  go_wp2_with (first|(go_at_call_of 66 (Value.int .i64 x.n);refine(d1 _).mono ?_;rintro e w' ⟨rfl,rfl⟩)|(go_at_call_of 66 (Value.int .i64 x.t);refine(d2 _).mono ?_;rintro e w' ⟨rfl,rfl⟩)|(go_at_call_of 66 (Value.int .i64 x.m);refine(d3 _).mono ?_;rintro e w' ⟨rfl,rfl⟩))
  go_ret;exact⟨rfl,(yv _ _).alloc (yr _) _⟩
def kV(N:Int)(x:Nd):Bool:=fA N x.p && (fA N x.h && !(x.ks.any fun k=>!zmo N k))
theorem Ao(x:Nd)(ka:OA)(kc:Nat)(N:Int)(w:Wd)(I:0<=N/\N<=24)(D:x.ks.length<=9223372036854775807)(F:aG w ka x.ks) :
  yO 126 #[.agg #[.bool x.u,.int .i64 x.n,.int .i64 x.t,.int .i64 x.m,.int .i64 x.p,.slice ka x.ks.length kc,.int .i64 x.h,.bool x.c],.int .i64 N] w fun e w' => e=.returned (.bool (kV N x))/\Below w.heap.size w w' := by
 unfold kV;have d1:=HZ x.p N;have d2:=HZ x.h N
 have M:∀ w1:World,w1.cell? ⟨w.heap.size+1,0,none⟩=some (.int .i64 N)->wG 149 #[.pointer (some ⟨w.heap.size+1,0,none⟩)] (fun k=>!zmo N k) w1:=fun w1 h1 y w2 J =>
  (HZ y N (w.heap.size+1) w2 ((J.cell (yi w1 _ h1)).trans h1) I).mono (fun e w3 h=>⟨h.1,by rw[h.2];exact yv _ _⟩)
 have d3:=fun(W:Wd) (hk:aG W ka x.ks) (hc:W.cell? ⟨w.heap.size+1,0,none⟩=some (.int .i64 N))=>PD 149 #[.pointer (some ⟨w.heap.size+1,0,none⟩)] (fun k=>!zmo N k) ka kc x.ks W D hk (yM func149 (by kernel_rfl) rfl) (M W hc);have E:∀ O T,aG ((w.alloc O).alloc T) ka x.ks:=fun O T=>F.below (((yv _ _).alloc (yr _) _).alloc (by simp) _);have U:Hid _:=E;clear E F M;generalize fA N x.p=Z at *;generalize fA N x.h=b2 at *;generalize (x.ks.any fun k=>!zmo N k)=b3 at *;cases Z;rotate_left;cases b2;rotate_left;cases b3
 all_goals
  go_enter func126,ntmps126
  go_wp2_with (first|(go_at_call_of 149 (Value.int .i64 x.p);refine(d1 _ _ (by go_simp) I).mono ?_;rintro e w' ⟨rfl,rfl⟩)|(go_at_call_of 149 (Value.int .i64 x.h);refine(d2 _ _ (by go_simp) I).mono ?_;rintro e w' ⟨rfl,rfl⟩)|(go_at_call 132;refine(d3 _ (U _ _) (by go_simp)).mono ?_;rintro e w' ⟨rfl,hb⟩))
 all_goals go_ret
 all_goals first
  | exact⟨rfl,((yv _ _).alloc (yr _) _).alloc (by simp) _⟩
  | exact⟨rfl,(((yv _ _).alloc (yr _) _).alloc (by simp) _).trans (hb.mono (by simp;omega))⟩
theorem wI(a M:OA)(c U:Nat)(ks D:List Int)(w:Wd)(T:ks.length<=9223372036854775807)(h1:aG w a ks)(I:aG w M D) :
  yO 29 #[.slice a ks.length c,.slice M D.length U] w fun e w' => e=.returned (.bool (decide (ks=D)))/\Below w.heap.size w w' := by
 by_cases hl:ks.length=D.length
 ·have same:(∀ i,i<ks.length->ks.getD i 0=D.getD i 0)->decide (ks=D)=true:=fun H=>by
   refine yI (List.ext_getElem hl fun i hi J=>?_);have:=H i hi
   rwa [aJ _ _ hi,aJ _ _ J] at this
  have other:∀ i,ks.getD i 0≠D.getD i 0->decide (ks=D)=false:=fun i H=>yH fun e=>H (by rw[e]);rw[<- hl];have S:Hid _:=same;have O:Hid _:=other;clear same other;generalize hn:ks.length=n at *
  go_enter func29,ntmps29
  go_wp2
  go_loopg [13] n (fun g s13 wr=>∃ k:Nat,k<=n/\n-k<=g/\s13=.int .i64 k/\Below w.heap.size w wr/\Hid (∀ i,i<k->ks.getD i 0=D.getD i 0))
  case atStart=>exact⟨0,Nat.zero_le _,by omega,rfl,yv _ _,fun i hi=>by omega⟩
  case round =>
   obtain⟨k,hk,hg,rfl,hb,A⟩:=hrel;by_cases a6:k<n
   ·obtain⟨b,o,rfl,g1⟩:=(h1.below hb) k (by omega);obtain⟨b', o', rfl,g2⟩:=(I.below hb) k (by omega);clear h1 I;by_cases F:ks.getD k 0=D.getD k 0
    ·have E:Hid (ks.getD k 0=D.getD k 0):=F;rw[<- F] at g2;clear F;generalize ks.getD k 0=y at g1 g2
     go_wp2_with fail
     go_region
     all_goals go_wp2
     all_goals go_roundg (n-(k+1))
     case measure=>omega
     case rel =>
      refine⟨k+1,by omega,by omega,by go_num,hb.drew,(show Hid _ from fun i hi=>?_)⟩;by_cases e:i=k
      ·subst e;exact E.o
      ·exact A.o i (by omega)
    ·have Z:=O.o k F;generalize ks.getD k 0=y at g1 F;generalize D.getD k 0=y' at g2 F
     go_wp2_with fail
     go_region
     all_goals go_wp2
     all_goals go_ret
     rw[Z];exact⟨rfl,hb.drew⟩
   ·clear h1 I;have:k=n:=(by omega);subst this
    go_wp2
    go_ret;rw[S.o A.o];exact⟨rfl,hb⟩
 ·have hd:decide (ks=D)=false:=yH fun e=>hl (by rw[e]);have a5:¬ ((ks.length:Int)=(D.length:Int)):=by omega
  rw[hd];clear h1 I hd;generalize ks.length=n at *;generalize D.length=n' at *
  go_enter func29,ntmps29
  go_wp2
  go_ret;exact⟨rfl,yv _ _⟩
theorem oK{w1:Wd}{u O:Bool}{n I t M m F p J:Int}{k k' : Value}{h E:Int}{c D:Bool}(hb:Below (w.heap.size+1+1) ((w.alloc (.cells #[.bool u,.int .i64 n,.int .i64 t,.int .i64 m,.int .i64 p,k,.int .i64 h,.bool c] 57)).alloc (.cells #[.bool O,.int .i64 I,.int .i64 M,.int .i64 F,.int .i64 J,k', .int .i64 E,.bool D] 57)) w1) :
  w1.cell? ⟨w.heap.size,6,none⟩=some (.int .i64 h)/\w1.cell? ⟨w.heap.size,7,none⟩=some (.bool c)/\w1.cell? ⟨w.heap.size+1,6,none⟩=some (.int .i64 E)/\w1.cell? ⟨w.heap.size+1,7,none⟩=some (.bool D) :=
 ⟨(hb.cell (by simp;omega)).trans (by go_simp),(hb.cell (by simp;omega)).trans (by go_simp),(hb.cell (by simp)).trans (by go_simp),(hb.cell (by simp)).trans (by go_simp)⟩
theorem PG(u u' : Bool)(n n' t t' m m' p p' : Int)(ks D:List Int)(ka I:OA)(kc a6:Nat)(h J:Int)(c E:Bool)(w:Wd)(a5:ks.length<=9223372036854775807)(h1:aG w ka ks)(h2:aG w I D) :
  yO 87 #[.agg #[.bool u,.int .i64 n,.int .i64 t,.int .i64 m,.int .i64 p,.slice ka ks.length kc,.int .i64 h,.bool c],.agg #[.bool u', .int .i64 n', .int .i64 t', .int .i64 m', .int .i64 p', .slice I D.length a6,.int .i64 J,.bool E]] w fun e w' => e=.returned (.bool (decide (u=u' /\ n=n' /\ t=t' /\ m=m' /\ p=p' /\ ks=D/\h=J/\c=E)))/\Below w.heap.size w w' := by
 have F:=fun(W:Wd) (g1:aG W ka ks) (g2:aG W I D)=>wI ka I kc a6 ks D W a5 g1 g2;have i1:∀ o1 o2,aG ((w.alloc o1).alloc o2) ka ks:=fun o1 o2=>h1.below (((yv _ _).alloc (yr _) _).alloc (by simp) _);have i2:∀ o1 o2,aG ((w.alloc o1).alloc o2) I D:=fun o1 o2=>h2.below (((yv _ _).alloc (yr _) _).alloc (by simp) _);have M:Hid _:=i1;have O:Hid _:=i2;clear i1 i2 h1 h2;by_cases Eu:u=u'
 ·subst Eu;by_cases En:n=n'
  ·subst En;by_cases Et:t=t'
   ·subst Et;by_cases Em:m=m'
    ·subst Em;by_cases Ep:p=p'
     ·subst Ep;by_cases T:ks=D
      ·have ED:decide (ks=D)=true:=yI T;rw[ED] at F;clear ED;by_cases Eh:h=J
       ·subst Eh;by_cases Ec:c=E
        ·subst Ec;have hs:decide (u=u/\n=n/\t=t/\m=m/\p=p/\ks=D/\h=h/\c=c)=true:=(by simp[T]);rw[hs];clear hs T
         go_enter func87,ntmps87
         go_wp2_with (go_at_call 29;refine(F _ (M _ _) (O _ _)).mono ?_;rintro e w' ⟨rfl,hb⟩;simp only[yw] at hb;obtain⟨U,Z,l3,l4⟩:=oK hb)
         go_ret
         first
          | exact⟨rfl,((yv _ _).alloc (yr _) _).alloc (by simp) _⟩
          | exact⟨rfl,(((yv _ _).alloc (yr _) _).alloc (by simp) _).trans (hb.mono (by omega))⟩
        ·have hs:decide (u=u/\n=n/\t=t/\m=m/\p=p/\ks=D/\h=h/\c=E)=false:=(by simp[Ec]);rw[hs];clear hs T
         cases c <;> cases E <;> first|exact absurd rfl Ec|skip
         all_goals
          go_enter func87,ntmps87
          go_wp2_with (go_at_call 29;refine(F _ (M _ _) (O _ _)).mono ?_;rintro e w' ⟨rfl,hb⟩;simp only[yw] at hb;obtain⟨U,Z,l3,l4⟩:=oK hb)
          go_ret
          first
           | exact⟨rfl,((yv _ _).alloc (yr _) _).alloc (by simp) _⟩
           | exact⟨rfl,(((yv _ _).alloc (yr _) _).alloc (by simp) _).trans (hb.mono (by omega))⟩
       ·have hs:decide (u=u/\n=n/\t=t/\m=m/\p=p/\ks=D/\h=J/\c=E)=false:=(by simp[Eh]);rw[hs];clear hs T
        go_enter func87,ntmps87
        go_wp2_with (go_at_call 29;refine(F _ (M _ _) (O _ _)).mono ?_;rintro e w' ⟨rfl,hb⟩;simp only[yw] at hb;obtain⟨U,Z,l3,l4⟩:=oK hb)
        go_ret
        first
         | exact⟨rfl,((yv _ _).alloc (yr _) _).alloc (by simp) _⟩
         | exact⟨rfl,(((yv _ _).alloc (yr _) _).alloc (by simp) _).trans (hb.mono (by omega))⟩
      ·have ED:decide (ks=D)=false:=yH T;rw[ED] at F;have hs:decide (u=u/\n=n/\t=t/\m=m/\p=p/\ks=D/\h=J/\c=E)=false:=(by simp[T]);rw[hs];clear hs T ED
       go_enter func87,ntmps87
       go_wp2_with (go_at_call 29;refine(F _ (M _ _) (O _ _)).mono ?_;rintro e w' ⟨rfl,hb⟩;simp only[yw] at hb;obtain⟨U,Z,l3,l4⟩:=oK hb)
       go_ret
       first
        | exact⟨rfl,((yv _ _).alloc (yr _) _).alloc (by simp) _⟩
        | exact⟨rfl,(((yv _ _).alloc (yr _) _).alloc (by simp) _).trans (hb.mono (by omega))⟩
     ·have hs:decide (u=u/\n=n/\t=t/\m=m/\p=p' /\ ks=D/\h=J/\c=E)=false:=(by simp[Ep]);rw[hs];clear hs
      go_enter func87,ntmps87
      go_wp2_with (go_at_call 29;refine(F _ (M _ _) (O _ _)).mono ?_;rintro e w' ⟨rfl,hb⟩;simp only[yw] at hb;obtain⟨U,Z,l3,l4⟩:=oK hb)
      go_ret
      first
       | exact⟨rfl,((yv _ _).alloc (yr _) _).alloc (by simp) _⟩
       | exact⟨rfl,(((yv _ _).alloc (yr _) _).alloc (by simp) _).trans (hb.mono (by omega))⟩
    ·have hs:decide (u=u/\n=n/\t=t/\m=m' /\ p=p' /\ ks=D/\h=J/\c=E)=false:=(by simp[Em]);rw[hs];clear hs
     go_enter func87,ntmps87
     go_wp2_with (go_at_call 29;refine(F _ (M _ _) (O _ _)).mono ?_;rintro e w' ⟨rfl,hb⟩;simp only[yw] at hb;obtain⟨U,Z,l3,l4⟩:=oK hb)
     go_ret
     first
      | exact⟨rfl,((yv _ _).alloc (yr _) _).alloc (by simp) _⟩
      | exact⟨rfl,(((yv _ _).alloc (yr _) _).alloc (by simp) _).trans (hb.mono (by omega))⟩
   ·have hs:decide (u=u/\n=n/\t=t' /\ m=m' /\ p=p' /\ ks=D/\h=J/\c=E)=false:=(by simp[Et]);rw[hs];clear hs
    go_enter func87,ntmps87
    go_wp2_with (go_at_call 29;refine(F _ (M _ _) (O _ _)).mono ?_;rintro e w' ⟨rfl,hb⟩;simp only[yw] at hb;obtain⟨U,Z,l3,l4⟩:=oK hb)
    go_ret
    first
     | exact⟨rfl,((yv _ _).alloc (yr _) _).alloc (by simp) _⟩
     | exact⟨rfl,(((yv _ _).alloc (yr _) _).alloc (by simp) _).trans (hb.mono (by omega))⟩
  ·have hs:decide (u=u/\n=n' /\ t=t' /\ m=m' /\ p=p' /\ ks=D/\h=J/\c=E)=false:=(by simp[En]);rw[hs];clear hs
   go_enter func87,ntmps87
   go_wp2_with (go_at_call 29;refine(F _ (M _ _) (O _ _)).mono ?_;rintro e w' ⟨rfl,hb⟩;simp only[yw] at hb;obtain⟨U,Z,l3,l4⟩:=oK hb)
   go_ret
   first
    | exact⟨rfl,((yv _ _).alloc (yr _) _).alloc (by simp) _⟩
    | exact⟨rfl,(((yv _ _).alloc (yr _) _).alloc (by simp) _).trans (hb.mono (by omega))⟩
 ·have hs:decide (u=u' /\ n=n' /\ t=t' /\ m=m' /\ p=p' /\ ks=D/\h=J/\c=E)=false:=by simp[Eu]
  rw[hs];clear hs
  cases u <;> cases u' <;> first|exact absurd rfl Eu|skip
  all_goals
   go_enter func87,ntmps87
   go_wp2_with (go_at_call 29;refine(F _ (M _ _) (O _ _)).mono ?_;rintro e w' ⟨rfl,hb⟩;simp only[yw] at hb;obtain⟨U,Z,l3,l4⟩:=oK hb)
   go_ret
   first
    | exact⟨rfl,((yv _ _).alloc (yr _) _).alloc (by simp) _⟩
    | exact⟨rfl,(((yv _ _).alloc (yr _) _).alloc (by simp) _).trans (hb.mono (by omega))⟩
def gV(x:Nd):Bool:=if x.u then (if x.n=0 then false else if x.h = -1 then !x.c else decide (x.p = -1)) else decide (x.t=0/\x.m=0/\x.p = -1/\x.ks=[]/\x.h = -1/\x.c=false)
theorem Ap(w:Wd)(a:OA):aG w a []:=fun _ hi=>absurd hi (yB _)
theorem Aq(n D t m p:Int)(ks:List Int)(ka:OA)(kc:Nat)(h:Int)(c:Bool)(w:Wd)(hn:D=n)(E:ks.length<=9223372036854775807)(h1:aG w ka ks) :
  yO 87 #[.agg #[.bool false,.int .i64 n,.int .i64 t,.int .i64 m,.int .i64 p,.slice ka ks.length kc,.int .i64 h,.bool c],.agg #[.bool false,.int .i64 D,.int .i64 0,.int .i64 0,.int .i64 (-1),.slice none 0 0,.int .i64 (-1),.bool false]] w fun e w' => e=.returned (.bool (decide (t=0/\m=0/\p = -1/\ks=[]/\h = -1/\c=false)))/\Below w.heap.size w w' := by
 subst hn;have H:=PG false false D D t 0 m 0 p (-1) ks [] ka none kc 0 h (-1) c false w E h1 (Ap _ _)
 have e:decide (false=false/\D=D/\t=0/\m=0/\p = -1/\ks=[]/\h = -1/\c=false)=decide (t=0/\m=0/\p = -1/\ks=[]/\h = -1/\c=false):=by
  congr 1;simp
 rw[e] at H;exact H
theorem aK(W:Wd)(D:Array Value)(t j:Nat)(h:D[j]?=some v):(W.alloc (.cells D t)).cell? ⟨W.heap.size,j,none⟩=some v:=by
 have e:=yN W (.cells D t);simp only[World.cell?,e];exact h
theorem aA{W D:Wd}(h:W.cell? ⟨b,o,none⟩=some v)(hb:Bl W D):D.cell? ⟨b,o,none⟩=some v:=(hb.cell (yi _ _ h)).trans h
theorem aB(w:Wd)(D:Obj):Bl w (w.alloc D):=(yv _ _).alloc (yr _) _
theorem aM(w:Wd)(D E:Obj):Bl w ((w.alloc D).alloc E):=((yv _ _).alloc (yr _) _).alloc (by simp) _
theorem fE(W:Wd)(D:Array Value)(t j:Nat)(E:Obj)(h:D[j]?=some v):((W.alloc (.cells D t)).alloc E).cell? ⟨W.heap.size,j,none⟩=some v:=aA (aK W D t j h) (aB _ _)
theorem fF(W:Wd)(D:Array Value)(t j:Nat)(E:Obj)(h:D[j]?=some v):((W.alloc E).alloc (.cells D t)).cell? ⟨W.heap.size+1,j,none⟩=some v:=by
 have:=aK (W.alloc E) D t j h;simpa using this
theorem fG{w:World}(h:w.ownsRow B e size v n E)(hb:∀ k,v.ownBlock=some k->w'.heap[k]?=w.heap[k]?):w'.ownsRow B e size v n E:=by
 obtain⟨hl,h⟩:=h;refine⟨hl,?_⟩;rcases h with h |⟨g,cap,D,rfl,h1,F,I⟩
 ·exact Or.inl h
 ·exact Or.inr ⟨g,cap,D,rfl,h1,(hb g rfl).trans F,I⟩
theorem kW(h:w.ownsRow B e size v n E)(J:B' <= B):w.ownsRow B' e size v n E:=by
 obtain⟨hl,h⟩:=h;refine⟨hl,?_⟩;rcases h with h |⟨g,cap,D,rfl,h1,F,I⟩
 ·exact Or.inl h
 ·exact Or.inr ⟨g,cap,D,rfl,by omega,F,I⟩
theorem wL{U D n':Nat}{v':Value}{xs M:List Value}(h:w.ownsRow B e size v n xs)(I:w.ownsRow B' U D v' n' M)(J:e≠U):∀ k,v.ownBlock=some k->v'.ownBlock≠some k:=by
 intro k Z F;obtain⟨_,h⟩:=h;obtain⟨_,I⟩:=I;rcases h with ⟨rfl,_⟩ |⟨g,cap,a5,rfl,_,h2,_⟩
 ·cases Z
 rcases I with ⟨rfl,_⟩ |⟨g', O,T,rfl,_,E,_⟩
 ·cases F
 cases Z;cases F;rw[h2] at E;cases E;exact J rfl
theorem tO{w2:Wd}(D:w2.ownsRow B 3 1 v n (l.map (Value.int .i64))):∃ sa cap,v=.slice sa l.length cap/\aG w2 sa l:=by
 have hn:n=l.length:=by have:=D.1;simp at this;omega
 subst hn;obtain⟨hl,h⟩:=D;rcases h with ⟨rfl,h0⟩ |⟨g,cap,E,rfl,_,hg,h1,I,J,F⟩
 ·exact⟨none,0,by rw[h0],fun i hi=>by omega⟩
 ·refine⟨some ⟨g,0,none⟩,cap,rfl,fun i hi=>⟨g,0,rfl,?_⟩⟩
  have h5:(E.toList.take (l.length*1))[i]?=some (.int .i64 (l.getD i 0)):=by
   rw[F,List.getElem?_map,List.getElem?_eq_getElem hi,aJ l 0 hi];rfl
  rw[List.getElem?_take,ye (by omega)] at h5;simp only[yD,World.cell?,hg];simpa using h5
theorem wN{D:Value}(h:w.heap[b]?=some (.cells #[v] t (0,0))):(w.setCell ⟨b,0,none⟩ D).heap[b]?=some (.cells #[D] t (0,0)):=by
 show (w.heap.modify b _)[b]?=_;rw[Array.getElem?_modify,ye rfl,h];rfl
theorem iB(h:w.heap[b]?=some (.cells #[v] t (0,0))):w.frozen? ⟨b,o,none⟩=false:=by
 simp[World.frozen?,h]
theorem cZ(h:w.heap[b]?=some (.cells #[v] t (0,0))):w.cell? ⟨b,0,none⟩=some v:=by
 simp[World.cell?,h]
theorem aR{o:Obj}(h:w.heap[b]?=some o):b<w.heap.size:=(Array.getElem?_eq_some_iff.1 h).1
theorem PO{g cap:Nat}{G:Nat->Value}(h:w.rowIs g 3 cap G)(hg:∀ j,j<l.length->G j=.int .i64 (l.getD j 0))(h1:l.length<=cap)(F:cap<=maxLen)(I:B<=g):w.ownsRow B 3 1 (.slice (some ⟨g,0,none⟩) l.length cap) l.length (l.map (Value.int .i64)):=by
 obtain⟨E,hc,hs,J⟩:=h;refine⟨by simp,Or.inr ⟨g,cap,E,rfl,I,hc,h1,F,by omega,?_⟩⟩;rw[Nat.mul_one];refine List.ext_getElem? fun j=>?_;rw[List.getElem?_take,List.getElem?_map];by_cases D:j<l.length
 ·rw[ye D,Array.getElem?_toList,J j (by omega),hg j D,List.getElem?_eq_getElem D,aJ l 0 D];rfl
 ·rw[yd D,List.getElem?_eq_none (by omega)];rfl
