/-
  x
-/
import Derived.Test.YtcbcpomacdngmaaGreatA0
import Derived.Test.YtcbcpomacdngmaaGreatProg
import Derived.WalkKit
import Derived.Deep.LoopGhost
import Derived.Deep.Draws
import Derived.Laws.CopyOwn
import Derived.Deep.OwnRows
import Derived.Shelf.Abstract
import Derived.Laws.AppendOwn
import Derived.Laws.Rows
namespace Go.Proofs.YtcbcpomacdngmaaGreat
set_option maxRecDepth 100000
set_option maxHeartbeats 4000000
set_option linter.unusedVariables false
open Go.RowKit Tryz
variable{w w1:Wd}{v k:Value}{B b n t o e size B' g:Nat}{w':World}{a:OA}{ks l:List Int}{u c:Bool}{m p h:Int}{E:List Value}
structure Nd where
 u:Bool
 n:Int
 t:Int
 m:Int
 p:Int
 ks:List Int
 h:Int
 c:Bool
def oJ:Nd:=⟨false,0,0,0,0,[],0,false⟩
theorem aJ{α:Type}(l:List α)(d:α){k:Nat}(h:k<l.length):l.getD k d=l[k]:=by
 simp[List.getD,h]
def aG(w:Wd)(a:OA)(ks:List Int):Prop :=
 ∀ i,i<ks.length->∃ b o,a=some ⟨b,o,none⟩/\w.cell? ⟨b,o+i,none⟩=some (.int .i64 (ks.getD i 0))
theorem aG.below{w:World}(h:aG w a ks)(hb:Bl w w'):aG w' a ks:=by
 intro i hi;obtain⟨b,o,e,hc⟩:=h i hi;exact⟨b,o,e,(hb.cell (yi w ⟨b,o+i,none⟩ hc)).trans hc⟩
def wG(K:Nat)(D:Array Value)(p:Int->Bool)(w:Wd):Prop :=
 ∀ (x:Int) (w1:Wd),Bl w w1->yO K (#[.int .i64 x] ++ D) w1 fun e w2=>e=.returned (.bool (p x))/\Below w1.heap.size w1 w2
theorem PD(K:Nat)(E:Array Value)(p:Int->Bool)(a:OA)(c:Nat)(ks:List Int)(w:Wd)(T:ks.length<=9223372036854775807)(I:aG w a ks)
  (eg:∀ args w,(callFunc K args).run prog w=.ok (.enter K args) w) (M:wG K E p w) :
  yO 153 #[.slice a ks.length c,.func (.func K) #[] E] w fun e w' => ∃ r:Int,e=.returned (.int .i64 r)/\Below w.heap.size w w' /\
   ((r = -1/\∀ i,i<ks.length->p (ks.getD i 0)=false)\/(∃ k:Nat,k<ks.length/\r=k/\p (ks.getD k 0)=true/\∀ i,i<k->p (ks.getD i 0)=false)):=by
 generalize hn:ks.length=n at *
 go_enter func153,ntmps153
 go_wp2
 go_loopg [8] n (fun g s8 wr=>∃ k:Nat,k<=n/\n-k<=g/\s8=.int .i64 k/\Below w.heap.size w wr/\Hid (∀ i,i<k->p (ks.getD i 0)=false))
 case atStart=>exact⟨0,oaa,oaa,rfl,yv _ _,fun i hi=>oaa⟩
 case round =>
  obtain⟨k,hk,hg,rfl,hb,A⟩:=hrel;by_cases O:k<n
  ·obtain⟨b,o,rfl,hc⟩:=(I.below hb) k oaa;have D:=M (ks.getD k 0) wr hb;have F:Hid (wG K E p w):=M;have Z:Hid (aG w (some ⟨b,o,none⟩) ks):=I;clear I M;generalize U:ks.getD k 0=y at hc D;have Y:Hid (ks.getD k 0=y):=U;clear U
   cases hq:p y with
   | true =>
    rw[hq] at D
    go_wp2_with (go_at_fn K;refine D.mono ?_;rintro e w' ⟨rfl,J⟩)
    go_ret;exact⟨k,rfl,hb.trans (J.mono hb.size),Or.inr ⟨k,O,rfl,by rw[Y.out];exact hq,A.out⟩⟩
   | false =>
    rw[hq] at D
    go_wp2_with (go_at_fn K;refine D.mono ?_;rintro e w' ⟨rfl,J⟩)
    go_roundg (n-(k+1))
    case measure=>omega
    case rel =>
     refine⟨k+1,oaa,oaa,by go_num,hb.trans (J.mono hb.size),(show Hid _ from fun i hi=>?_)⟩;by_cases e:i=k
     ·subst e;rw[Y.out];exact hq
     ·exact A.out i oaa
  ·have:k=n:=oaa;subst this;clear I M
   go_wp2
   go_ret;exact⟨-1,rfl,hb,Or.inl ⟨rfl,A.out⟩⟩
theorem PG(K:Nat)(F:Array Value)(p:Int->Bool)(a:OA)(c:Nat)(ks:List Int)(w:Wd)(J:ks.length<=9223372036854775807)(M:aG w a ks)
  (Z:∀ args w,(callFunc K args).run prog w=.ok (.enter K args) w) (U:wG K F p w) :
  yO 132 #[.slice a ks.length c,.func (.func K) #[] F] w fun e w' => e=.returned (.bool (ks.any p))/\Below w.heap.size w w' := by
 have h:=PD K F p a c ks w J M Z U;have E:∀ k,k<ks.length->p (ks.getD k 0)=true->ks.any p=true:=fun k O T=>List.any_eq_true.2 ⟨ks.getD k 0,by rw[aJ _ _ O];exact List.getElem_mem O,T⟩
 have D:(∀ i,i<ks.length->p (ks.getD i 0)=false)->ks.any p=false:=fun H=>by
  rw[List.any_eq_false];intro x hx;obtain⟨i,hi,rfl⟩:=List.getElem_of_mem hx;have:=H i hi;rw[aJ _ _ hi] at this;simp[this]
 have H:Hid _:=E;have N:Hid _:=D;clear E D M U
 go_enter func132,ntmps132
 go_wp2_with (go_at_call 153;refine h.mono ?_;rintro e w' ⟨r,rfl,hb,hr⟩)
 go_ret;refine⟨?_,hb⟩;rcases hr with ⟨rfl,I⟩ |⟨k,O,rfl,T,_⟩
 ·rw[N.out I];rfl
 ·rw[H.out k O T];simp
theorem gU(x a b:Int)(w:Wd) :
  yO 66 #[.int .i64 x,.int .i64 a,.int .i64 b] w fun e w' => e=.returned (.bool (decide (a<=x/\x<=b)))/\w' = w:=by
 by_cases h1:a<=x
 ·by_cases D:x<=b
  ·have h:decide (a<=x/\x<=b)=true:=(by simp[h1,D]);rw[h];clear h
   go_enter func66,ntmps66
   go_wp2
   go_ret;exact⟨rfl,rfl⟩
  ·have h:decide (a<=x/\x<=b)=false:=(by simp[D]);rw[h];clear h
   go_enter func66,ntmps66
   go_wp2
   go_ret;exact⟨rfl,rfl⟩
 ·have h:decide (a<=x/\x<=b)=false:=by simp[h1]
  rw[h];clear h
  go_enter func66,ntmps66
  go_wp2
  go_ret;exact⟨rfl,rfl⟩
theorem wH(x a b:Int)(w:Wd)(h1:a<=x)(D:x<=b) :
  yO 66 #[.int .i64 x,.int .i64 a,.int .i64 b] w fun e w' => e=.returned (.bool true)/\w' = w:=by
 have h:=gU x a b w
 rwa [yI (by exact⟨h1,D⟩)] at h
theorem zX(x a b:Int)(w:Wd)(h1:x<a\/b<x) :
  yO 66 #[.int .i64 x,.int .i64 a,.int .i64 b] w fun e w' => e=.returned (.bool false)/\w' = w:=by
 have h:=gU x a b w
 rwa [yH oaa] at h
theorem GZ(n:Int)(w:Wd) :
  yO 93 #[.int .i64 n] w fun e w' => e=.returned (.agg #[.bool false,.int .i64 n,.int .i64 0,.int .i64 0,.int .i64 (-1),.slice none 0 0,.int .i64 (-1),.bool false])/\w' = w.alloc (.cells #[.bool false,.int .i64 n,.int .i64 0,.int .i64 0,.int .i64 (-1),.slice none 0 0,.int .i64 (-1),.bool false] 57):=by
 go_enter func93,ntmps93
 go_wp2
 exact yz (v:=.agg #[.bool false,.int .i64 n,.int .i64 0,.int .i64 0,.int .i64 (-1),.slice none 0 0,.int .i64 (-1),.bool false]) (by simp[results,results93,go_sem]) rfl ⟨rfl,rfl⟩
def fA(N x:Int):Bool:=decide (-1<=x/\x<=N-1)
theorem HZ(x N:Int)(b:Nat)(w:Wd)(hc:w.cell? ⟨b,0,none⟩=some (.int .i64 N))(D:0<=N/\N<=24) :
  yO 149 #[.int .i64 x,.pointer (some ⟨b,0,none⟩)] w fun e w' => e=.returned (.bool (!fA N x))/\w' = w:=by
 have hw:=gU x (-1) (N-1);rw[show decide (-1<=x/\x<=N-1)=fA N x from rfl] at hw;generalize fA N x=r at hw
 go_enter func149,ntmps149
 go_wp2_with (go_at_call 66;refine(hw _).mono ?_;rintro e w' ⟨rfl,rfl⟩)
 go_ret;exact⟨rfl,rfl⟩
def iO(x:Nd):Bool:=decide (0<=x.n/\x.n<=1000000) && (decide (0<=x.t/\x.t<=99) && decide (-1000000<=x.m/\x.m<=1000000))
theorem Ao(x:Nd)(k:Value)(w:Wd) :
  yO 125 #[.agg #[.bool x.u,.int .i64 x.n,.int .i64 x.t,.int .i64 x.m,.int .i64 x.p,k,.int .i64 x.h,.bool x.c]] w fun e w' => e=.returned (.bool (iO x))/\Below w.heap.size w w' := by
 unfold iO;have d1:=gU x.n 0 1000000;have d2:=gU x.t 0 99;have d3:=gU x.m (-1000000) 1000000;generalize decide (0<=x.n/\x.n<=1000000)=D at *;generalize decide (0<=x.t/\x.t<=99)=E at *;generalize decide (-1000000<=x.m/\x.m<=1000000)=F at *;cases D;rotate_left;cases E;rotate_left;cases F
 all_goals
  go_enter func125,ntmps125
  go_wp2_with (first|(go_at_call_of 66 (Value.int .i64 x.n);refine(d1 _).mono ?_;rintro e w' ⟨rfl,rfl⟩)|(go_at_call_of 66 (Value.int .i64 x.t);refine(d2 _).mono ?_;rintro e w' ⟨rfl,rfl⟩)|(go_at_call_of 66 (Value.int .i64 x.m);refine(d3 _).mono ?_;rintro e w' ⟨rfl,rfl⟩))
  go_ret;exact⟨rfl,(yv _ _).alloc (yr _) _⟩
def kV(N:Int)(x:Nd):Bool:=fA N x.p && (fA N x.h && !(x.ks.any fun k=>!fA N k))
theorem Ap(x:Nd)(ka:OA)(kc:Nat)(N:Int)(w:Wd)(I:0<=N/\N<=24)(D:x.ks.length<=9223372036854775807)(F:aG w ka x.ks) :
  yO 126 #[.agg #[.bool x.u,.int .i64 x.n,.int .i64 x.t,.int .i64 x.m,.int .i64 x.p,.slice ka x.ks.length kc,.int .i64 x.h,.bool x.c],.int .i64 N] w fun e w' => e=.returned (.bool (kV N x))/\Below w.heap.size w w' := by
 unfold kV;have d1:=HZ x.p N;have d2:=HZ x.h N
 have M:∀ w1:World,w1.cell? ⟨w.heap.size+1,0,none⟩=some (.int .i64 N)->wG 149 #[.pointer (some ⟨w.heap.size+1,0,none⟩)] (fun k=>!fA N k) w1:=fun w1 h1 y w2 J =>
  (HZ y N (w.heap.size+1) w2 ((J.cell (yi w1 _ h1)).trans h1) I).mono (fun e w3 h=>⟨h.1,by rw[h.2];exact yv _ _⟩)
 have d3:=fun(W:Wd) (hk:aG W ka x.ks) (hc:W.cell? ⟨w.heap.size+1,0,none⟩=some (.int .i64 N))=>PG 149 #[.pointer (some ⟨w.heap.size+1,0,none⟩)] (fun k=>!fA N k) ka kc x.ks W D hk (yM func149 oad rfl) (M W hc);have E:∀ O T,aG ((w.alloc O).alloc T) ka x.ks:=fun O T=>F.below (((yv _ _).alloc (yr _) _).alloc oac _);have U:Hid _:=E;clear E F M;generalize fA N x.p=Z at *;generalize fA N x.h=b2 at *;generalize (x.ks.any fun k=>!fA N k)=b3 at *;cases Z;rotate_left;cases b2;rotate_left;cases b3
 all_goals
  go_enter func126,ntmps126
  go_wp2_with (first|(go_at_call_of 149 (Value.int .i64 x.p);refine(d1 _ _ oaf I).mono ?_;rintro e w' ⟨rfl,rfl⟩)|(go_at_call_of 149 (Value.int .i64 x.h);refine(d2 _ _ oaf I).mono ?_;rintro e w' ⟨rfl,rfl⟩)|(go_at_call 132;refine(d3 _ (U _ _) oaf).mono ?_;rintro e w' ⟨rfl,hb⟩))
 all_goals go_ret
 all_goals first
  | exact⟨rfl,((yv _ _).alloc (yr _) _).alloc oac _⟩
  | exact⟨rfl,(((yv _ _).alloc (yr _) _).alloc oac _).trans (hb.mono oab)⟩
theorem wI(a M:OA)(c U:Nat)(ks D:List Int)(w:Wd)(T:ks.length<=9223372036854775807)(h1:aG w a ks)(I:aG w M D) :
  yO 29 #[.slice a ks.length c,.slice M D.length U] w fun e w' => e=.returned (.bool (decide (ks=D)))/\Below w.heap.size w w' := by
 by_cases hl:ks.length=D.length
 ·have same:(∀ i,i<ks.length->ks.getD i 0=D.getD i 0)->decide (ks=D)=true:=fun H=>by
   refine yI (List.ext_getElem hl fun i hi J=>?_);have:=H i hi
   rwa [aJ _ _ hi,aJ _ _ J] at this
  have other:∀ i,ks.getD i 0≠D.getD i 0->decide (ks=D)=false:=fun i H=>yH fun e=>H (by rw[e]);rw[<- hl];have S:Hid _:=same;have O:Hid _:=other;clear same other;generalize hn:ks.length=n at *
  go_enter func29,ntmps29
  go_wp2
  go_loopg [13] n (fun g s13 wr=>∃ k:Nat,k<=n/\n-k<=g/\s13=.int .i64 k/\Below w.heap.size w wr/\Hid (∀ i,i<k->ks.getD i 0=D.getD i 0))
  case atStart=>exact⟨0,Nat.zero_le _,oaa,rfl,yv _ _,fun i hi=>oaa⟩
  case round =>
   obtain⟨k,hk,hg,rfl,hb,A⟩:=hrel;by_cases a6:k<n
   ·obtain⟨b,o,rfl,g1⟩:=(h1.below hb) k oaa;obtain⟨b', o', rfl,g2⟩:=(I.below hb) k oaa;clear h1 I;by_cases F:ks.getD k 0=D.getD k 0
    ·have E:Hid (ks.getD k 0=D.getD k 0):=F;rw[<- F] at g2;clear F;generalize ks.getD k 0=y at g1 g2
     go_wp2_with fail
     go_region
     all_goals go_wp2
     all_goals go_roundg (n-(k+1))
     case measure=>omega
     case rel =>
      refine⟨k+1,oaa,oaa,by go_num,hb.drew,(show Hid _ from fun i hi=>?_)⟩;by_cases e:i=k
      ·subst e;exact E.out
      ·exact A.out i oaa
    ·have Z:=O.out k F;generalize ks.getD k 0=y at g1 F;generalize D.getD k 0=y' at g2 F
     go_wp2_with fail
     go_region
     all_goals go_wp2
     all_goals go_ret
     rw[Z];exact⟨rfl,hb.drew⟩
   ·clear h1 I;have:k=n:=oaa;subst this
    go_wp2
    go_ret;rw[S.out A.out];exact⟨rfl,hb⟩
 ·have hd:decide (ks=D)=false:=yH fun e=>hl (by rw[e]);have a5:¬ ((ks.length:Int)=(D.length:Int)):=oaa
  rw[hd];clear h1 I hd;generalize ks.length=n at *;generalize D.length=n' at *
  go_enter func29,ntmps29
  go_wp2
  go_ret;exact⟨rfl,yv _ _⟩
theorem oK{O:Bool}{n I t M F J:Int}{k':Value}{E:Int}{D:Bool}(hb:Below (w.heap.size+1+1) ((w.alloc (.cells #[.bool u,.int .i64 n,.int .i64 t,.int .i64 m,.int .i64 p,k,.int .i64 h,.bool c] 57)).alloc (.cells #[.bool O,.int .i64 I,.int .i64 M,.int .i64 F,.int .i64 J,k', .int .i64 E,.bool D] 57)) w1) :
  w1.cell? ⟨w.heap.size,6,none⟩=some (.int .i64 h)/\w1.cell? ⟨w.heap.size,7,none⟩=some (.bool c)/\w1.cell? ⟨w.heap.size+1,6,none⟩=some (.int .i64 E)/\w1.cell? ⟨w.heap.size+1,7,none⟩=some (.bool D) :=
 ⟨(hb.cell oab).trans oaf,(hb.cell oab).trans oaf,(hb.cell oac).trans oaf,(hb.cell oac).trans oaf⟩
theorem PH(u u' : Bool)(n n' t t' m m' p p' : Int)(ks D:List Int)(ka I:OA)(kc a6:Nat)(h J:Int)(c E:Bool)(w:Wd)(a5:ks.length<=9223372036854775807)(h1:aG w ka ks)(h2:aG w I D) :
  yO 87 #[.agg #[.bool u,.int .i64 n,.int .i64 t,.int .i64 m,.int .i64 p,.slice ka ks.length kc,.int .i64 h,.bool c],.agg #[.bool u', .int .i64 n', .int .i64 t', .int .i64 m', .int .i64 p', .slice I D.length a6,.int .i64 J,.bool E]] w fun e w' => e=.returned (.bool (decide (u=u' /\ n=n' /\ t=t' /\ m=m' /\ p=p' /\ ks=D/\h=J/\c=E)))/\Below w.heap.size w w' := by
 have F:=fun(W:Wd) (g1:aG W ka ks) (g2:aG W I D)=>wI ka I kc a6 ks D W a5 g1 g2;have i1:∀ o1 o2,aG ((w.alloc o1).alloc o2) ka ks:=fun o1 o2=>h1.below (((yv _ _).alloc (yr _) _).alloc oac _);have i2:∀ o1 o2,aG ((w.alloc o1).alloc o2) I D:=fun o1 o2=>h2.below (((yv _ _).alloc (yr _) _).alloc oac _);have M:Hid _:=i1;have O:Hid _:=i2;clear i1 i2 h1 h2;by_cases Eu:u=u'
 ·subst Eu;by_cases En:n=n'
  ·subst En;by_cases Et:t=t'
   ·subst Et;by_cases Em:m=m'
    ·subst Em;by_cases Ep:p=p'
     ·subst Ep;by_cases T:ks=D
      ·have ED:decide (ks=D)=true:=yI T;rw[ED] at F;clear ED;by_cases Eh:h=J
       ·subst Eh;by_cases Ec:c=E
        ·subst Ec;have hs:decide (u=u/\n=n/\t=t/\m=m/\p=p/\ks=D/\h=h/\c=c)=true:=(by simp[T]);rw[hs];clear hs T
         go_enter func87,ntmps87
         go_wp2_with (go_at_call 29;refine(F _ (M _ _) (O _ _)).mono ?_;rintro e w' ⟨rfl,hb⟩;simp only[yw] at hb;obtain⟨U,Z,l3,l4⟩:=oK hb)
         go_ret
         first
          | exact⟨rfl,((yv _ _).alloc (yr _) _).alloc oac _⟩
          | exact⟨rfl,(((yv _ _).alloc (yr _) _).alloc oac _).trans (hb.mono oaa)⟩
        ·have hs:decide (u=u/\n=n/\t=t/\m=m/\p=p/\ks=D/\h=h/\c=E)=false:=(by simp[Ec]);rw[hs];clear hs T
         cases c <;> cases E <;> first|exact absurd rfl Ec|skip
         all_goals
          go_enter func87,ntmps87
          go_wp2_with (go_at_call 29;refine(F _ (M _ _) (O _ _)).mono ?_;rintro e w' ⟨rfl,hb⟩;simp only[yw] at hb;obtain⟨U,Z,l3,l4⟩:=oK hb)
          go_ret
          first
           | exact⟨rfl,((yv _ _).alloc (yr _) _).alloc oac _⟩
           | exact⟨rfl,(((yv _ _).alloc (yr _) _).alloc oac _).trans (hb.mono oaa)⟩
       ·have hs:decide (u=u/\n=n/\t=t/\m=m/\p=p/\ks=D/\h=J/\c=E)=false:=(by simp[Eh]);rw[hs];clear hs T
        go_enter func87,ntmps87
        go_wp2_with (go_at_call 29;refine(F _ (M _ _) (O _ _)).mono ?_;rintro e w' ⟨rfl,hb⟩;simp only[yw] at hb;obtain⟨U,Z,l3,l4⟩:=oK hb)
        go_ret
        first
         | exact⟨rfl,((yv _ _).alloc (yr _) _).alloc oac _⟩
         | exact⟨rfl,(((yv _ _).alloc (yr _) _).alloc oac _).trans (hb.mono oaa)⟩
      ·have ED:decide (ks=D)=false:=yH T;rw[ED] at F;have hs:decide (u=u/\n=n/\t=t/\m=m/\p=p/\ks=D/\h=J/\c=E)=false:=(by simp[T]);rw[hs];clear hs T ED
       go_enter func87,ntmps87
       go_wp2_with (go_at_call 29;refine(F _ (M _ _) (O _ _)).mono ?_;rintro e w' ⟨rfl,hb⟩;simp only[yw] at hb;obtain⟨U,Z,l3,l4⟩:=oK hb)
       go_ret
       first
        | exact⟨rfl,((yv _ _).alloc (yr _) _).alloc oac _⟩
        | exact⟨rfl,(((yv _ _).alloc (yr _) _).alloc oac _).trans (hb.mono oaa)⟩
     ·have hs:decide (u=u/\n=n/\t=t/\m=m/\p=p' /\ ks=D/\h=J/\c=E)=false:=(by simp[Ep]);rw[hs];clear hs
      go_enter func87,ntmps87
      go_wp2_with (go_at_call 29;refine(F _ (M _ _) (O _ _)).mono ?_;rintro e w' ⟨rfl,hb⟩;simp only[yw] at hb;obtain⟨U,Z,l3,l4⟩:=oK hb)
      go_ret
      first
       | exact⟨rfl,((yv _ _).alloc (yr _) _).alloc oac _⟩
       | exact⟨rfl,(((yv _ _).alloc (yr _) _).alloc oac _).trans (hb.mono oaa)⟩
    ·have hs:decide (u=u/\n=n/\t=t/\m=m' /\ p=p' /\ ks=D/\h=J/\c=E)=false:=(by simp[Em]);rw[hs];clear hs
     go_enter func87,ntmps87
     go_wp2_with (go_at_call 29;refine(F _ (M _ _) (O _ _)).mono ?_;rintro e w' ⟨rfl,hb⟩;simp only[yw] at hb;obtain⟨U,Z,l3,l4⟩:=oK hb)
     go_ret
     first
      | exact⟨rfl,((yv _ _).alloc (yr _) _).alloc oac _⟩
      | exact⟨rfl,(((yv _ _).alloc (yr _) _).alloc oac _).trans (hb.mono oaa)⟩
   ·have hs:decide (u=u/\n=n/\t=t' /\ m=m' /\ p=p' /\ ks=D/\h=J/\c=E)=false:=(by simp[Et]);rw[hs];clear hs
    go_enter func87,ntmps87
    go_wp2_with (go_at_call 29;refine(F _ (M _ _) (O _ _)).mono ?_;rintro e w' ⟨rfl,hb⟩;simp only[yw] at hb;obtain⟨U,Z,l3,l4⟩:=oK hb)
    go_ret
    first
     | exact⟨rfl,((yv _ _).alloc (yr _) _).alloc oac _⟩
     | exact⟨rfl,(((yv _ _).alloc (yr _) _).alloc oac _).trans (hb.mono oaa)⟩
  ·have hs:decide (u=u/\n=n' /\ t=t' /\ m=m' /\ p=p' /\ ks=D/\h=J/\c=E)=false:=(by simp[En]);rw[hs];clear hs
   go_enter func87,ntmps87
   go_wp2_with (go_at_call 29;refine(F _ (M _ _) (O _ _)).mono ?_;rintro e w' ⟨rfl,hb⟩;simp only[yw] at hb;obtain⟨U,Z,l3,l4⟩:=oK hb)
   go_ret
   first
    | exact⟨rfl,((yv _ _).alloc (yr _) _).alloc oac _⟩
    | exact⟨rfl,(((yv _ _).alloc (yr _) _).alloc oac _).trans (hb.mono oaa)⟩
 ·have hs:decide (u=u' /\ n=n' /\ t=t' /\ m=m' /\ p=p' /\ ks=D/\h=J/\c=E)=false:=by simp[Eu]
  rw[hs];clear hs
  cases u <;> cases u' <;> first|exact absurd rfl Eu|skip
  all_goals
   go_enter func87,ntmps87
   go_wp2_with (go_at_call 29;refine(F _ (M _ _) (O _ _)).mono ?_;rintro e w' ⟨rfl,hb⟩;simp only[yw] at hb;obtain⟨U,Z,l3,l4⟩:=oK hb)
   go_ret
   first
    | exact⟨rfl,((yv _ _).alloc (yr _) _).alloc oac _⟩
    | exact⟨rfl,(((yv _ _).alloc (yr _) _).alloc oac _).trans (hb.mono oaa)⟩
def gV(x:Nd):Bool:=if x.u then (if x.n=0 then false else if x.h = -1 then !x.c else decide (x.p = -1)) else decide (x.t=0/\x.m=0/\x.p = -1/\x.ks=[]/\x.h = -1/\x.c=false)
theorem Aq(w:Wd)(a:OA):aG w a []:=fun _ hi=>absurd hi (yB _)
theorem Ar(n D t m p:Int)(ks:List Int)(ka:OA)(kc:Nat)(h:Int)(c:Bool)(w:Wd)(hn:D=n)(E:ks.length<=9223372036854775807)(h1:aG w ka ks) :
  yO 87 #[.agg #[.bool false,.int .i64 n,.int .i64 t,.int .i64 m,.int .i64 p,.slice ka ks.length kc,.int .i64 h,.bool c],.agg #[.bool false,.int .i64 D,.int .i64 0,.int .i64 0,.int .i64 (-1),.slice none 0 0,.int .i64 (-1),.bool false]] w fun e w' => e=.returned (.bool (decide (t=0/\m=0/\p = -1/\ks=[]/\h = -1/\c=false)))/\Below w.heap.size w w' := by
 subst hn;have H:=PH false false D D t 0 m 0 p (-1) ks [] ka none kc 0 h (-1) c false w E h1 (Aq _ _)
 have e:decide (false=false/\D=D/\t=0/\m=0/\p = -1/\ks=[]/\h = -1/\c=false)=decide (t=0/\m=0/\p = -1/\ks=[]/\h = -1/\c=false):=by
  congr 1;simp
 rw[e] at H;exact H
theorem Below.drewNs{a:Wd}(h:Below B a w)(q:Nat):Below B a (w.drewN q):=⟨h.os,h.tape,h.output,h.size,h.block⟩
theorem Au(x:Nd)(ka:OA)(kc:Nat)(w:Wd)(E:x.ks.length<=9223372036854775807)(D:aG w ka x.ks) :
  yO 127 #[.agg #[.bool x.u,.int .i64 x.n,.int .i64 x.t,.int .i64 x.m,.int .i64 x.p,.slice ka x.ks.length kc,.int .i64 x.h,.bool x.c]] w fun e w' => e=.returned (.bool (gV x))/\Below w.heap.size w w' := by
 obtain⟨u,n,t,m,p,ks,h,c⟩:=x;unfold gV;dsimp only at *;cases u
 ·have hs:=fun(W:Wd) (g1:aG W ka ks)=>Ar n n t m p ks ka kc h c W rfl E g1;have F:∀ I J q,aG (((w.alloc I).alloc J).drewN q) ka ks:=fun I J q=>D.below (Below.drewNs (((yv _ _).alloc (yr _) _).alloc oac _) q);have M:Hid _:=F;clear F D;generalize O:ks.length=L at *;simp only[Bool.false_eq_true,if_false];generalize decide (t=0/\m=0/\p = -1/\ks=[]/\h = -1/\c=false)=r at *
  go_enter func127,ntmps127
  go_wp2_with fail
  go_region_with (first|(go_at_call 93;refine(GZ _ _).mono ?_;rintro e w' ⟨rfl,rfl⟩)|(go_at_call 87;refine(hs _ (M _ _ _)).mono ?_;rintro e w' ⟨rfl,hb⟩))
  all_goals go_wp2
  all_goals go_ret
  all_goals exact⟨rfl,(Below.drewNs (((yv _ _).alloc (yr _) _).alloc oac _) _).trans (hb.mono (by simp[World.drewN];omega))⟩
 ·clear D;simp only[if_true];by_cases hn:n=0
  ·subst hn;simp only[if_true]
   go_enter func127,ntmps127
   go_wp2
   go_ret;exact⟨rfl,(yv _ _).alloc (yr _) _⟩
  ·simp only[yd hn];by_cases hh:h = -1
   ·subst hh;simp only[if_true]
    go_enter func127,ntmps127
    go_wp2
    go_ret;exact⟨rfl,(yv _ _).alloc (yr _) _⟩
   ·simp only[yd hh]
    go_enter func127,ntmps127
    go_wp2
    go_ret;exact⟨rfl,(yv _ _).alloc (yr _) _⟩
def iP(N:Int)(x:Nd):Int:=if iO x then (if kV N x then (if gV x then 0 else 3) else 4) else 2
theorem PI{n t:Int}(hb:Below (w.heap.size+1) (w.alloc (.cells #[.bool u,.int .i64 n,.int .i64 t,.int .i64 m,.int .i64 p,k,.int .i64 h,.bool c] 57)) w1) :
  w1.cell? ⟨w.heap.size,0,none⟩=some (.bool u)/\w1.cell? ⟨w.heap.size,1,none⟩=some (.int .i64 n)/\w1.cell? ⟨w.heap.size,2,none⟩=some (.int .i64 t)/\w1.cell? ⟨w.heap.size,3,none⟩=some (.int .i64 m)/\w1.cell? ⟨w.heap.size,4,none⟩=some (.int .i64 p)/\w1.cell? ⟨w.heap.size,5,none⟩=some k/\w1.cell? ⟨w.heap.size,6,none⟩=some (.int .i64 h)/\w1.cell? ⟨w.heap.size,7,none⟩=some (.bool c) :=
 ⟨(hb.cell oac).trans oaf,(hb.cell oac).trans oaf,(hb.cell oac).trans oaf,(hb.cell oac).trans oaf,(hb.cell oac).trans oaf,(hb.cell oac).trans oaf,(hb.cell oac).trans oaf,(hb.cell oac).trans oaf⟩
theorem Av(x:Nd)(ka:OA)(kc:Nat)(N:Int)(w:Wd)(hN:0<=N/\N<=24)(D:x.ks.length<=9223372036854775807)(I:aG w ka x.ks) :
  yO 80 #[.agg #[.bool x.u,.int .i64 x.n,.int .i64 x.t,.int .i64 x.m,.int .i64 x.p,.slice ka x.ks.length kc,.int .i64 x.h,.bool x.c],.int .i64 N] w fun e w' => e=.returned (.int .i64 (iP N x))/\Below w.heap.size w w' := by
 unfold iP;have d1:=fun W=>Ao x (.slice ka x.ks.length kc) W;have d2:=fun(W:Wd) (g:aG W ka x.ks)=>Ap x ka kc N W hN D g;have d3:=fun(W:Wd) (g:aG W ka x.ks)=>Au x ka kc W D g;have U:∀ o1 w1,Below (w.heap.size+1) (w.alloc o1) w1->aG w1 ka x.ks:=fun o1 w1 h1=>I.below (((yv _ _).alloc (yr _) _).trans (h1.mono oaa));have T:Hid _:=U;clear U I;generalize x.ks.length=L at *;generalize iO x=b1 at *;generalize kV N x=b2 at *;generalize gV x=b3 at *;cases b1;rotate_left;cases b2;rotate_left;cases b3
 all_goals
  go_enter func80,ntmps80
  go_wp2_with (first
   |(go_at_call 125;refine(d1 _).mono ?_;rintro e w1 ⟨rfl,E⟩;simp only[yw] at E;have J:=E;obtain⟨Z,l1,l2,l3,l4,l5,l6,l7⟩:=PI E)
   |(go_at_call 126;refine(d2 _ (T _ _ J)).mono ?_;rintro e w2 ⟨rfl,M⟩;have F:=J.trans (M.mono (by have:=J.size;simp only[yw] at this;omega));clear Z l1 l2 l3 l4 l5 l6 l7;obtain⟨Z,l1,l2,l3,l4,l5,l6,l7⟩:=PI F)
   |(go_at_call 127;refine(d3 _ (T _ _ F)).mono ?_;rintro e w3 ⟨rfl,O⟩;have B3:=F.trans (O.mono (by have:=F.size;simp only[yw] at this;omega))))
 all_goals go_ret
 all_goals first
  | exact⟨rfl,((yv _ _).alloc (yr _) _).trans (B3.mono oaa)⟩
  | exact⟨rfl,((yv _ _).alloc (yr _) _).trans (F.mono oaa)⟩
  | exact⟨rfl,((yv _ _).alloc (yr _) _).trans (J.mono oaa)⟩
def nd(S:List Nd)(i:Nat):Nd:=S.getD i oJ
def nM(w:Wd)(b o:Nat)(x:Nd):Prop :=
 w.cell? ⟨b,o,none⟩=some (.bool x.u)/\w.cell? ⟨b,o+1,none⟩=some (.int .i64 x.n)/\w.cell? ⟨b,o+2,none⟩=some (.int .i64 x.t)/\w.cell? ⟨b,o+3,none⟩=some (.int .i64 x.m) /\
 w.cell? ⟨b,o+4,none⟩=some (.int .i64 x.p)/\(∃ ka kc,w.cell? ⟨b,o+5,none⟩=some (.slice ka x.ks.length kc)/\aG w ka x.ks)/\w.cell? ⟨b,o+6,none⟩=some (.int .i64 x.h)/\w.cell? ⟨b,o+7,none⟩=some (.bool x.c)
theorem nM.below{w:World}{x:Nd}(h:nM w b o x)(hb:Bl w w'):nM w' b o x:=by
 obtain⟨c0,c1,c2,c3,c4,⟨ka,kc,c5,I⟩,E,F⟩:=h;have D:b<w.heap.size:=yi w ⟨b,o,none⟩ c0;exact⟨(hb.cell D).trans c0,(hb.cell D).trans c1,(hb.cell D).trans c2,(hb.cell D).trans c3,(hb.cell D).trans c4,⟨ka,kc,(hb.cell D).trans c5,I.below hb⟩,(hb.cell D).trans E,(hb.cell D).trans F⟩
def aD(w:Wd)(a:OA)(S:List Nd):Prop :=
 ∀ i,i<S.length->∃ b o,a=some ⟨b,o,none⟩/\nM w b (o+i*8) (nd S i)
theorem aD.below{w:World}{S:List Nd}(h:aD w a S)(hb:Bl w w'):aD w' a S:=fun i hi=>by
 obtain⟨b,o,e,hn⟩:=h i hi;exact⟨b,o,e,hn.below hb⟩
def Big(S:List Nd):Prop:=∀ i,i<S.length->(nd S i).ks.length<=9223372036854775807
def tK(S:List Nd)(i:Nat)(x:Int):Prop:=x≠-1/\(nd S x.toNat).u=true/\(nd S x.toNat).p=i
def tN(S:List Nd)(k:Nat):Prop:=∀ i,i<k->∀ x ∈ (nd S i).ks,tK S i x
def dP(S:List Nd)(k j:Nat):Nat:=((S.take k).flatMap Nd.ks).count (j:Int)
def nN(l:List Int)(q j:Nat):Nat:=(l.take q).count (j:Int)
def lW(S:List Nd):Prop:=tN S S.length/\∀ j,j<S.length->dP S S.length j<=1/\((nd S j).p≠-1->dP S S.length j≠0)
theorem eQ{S:List Nd}{i:Nat}(h:i<S.length):nd S i=S[i]:=aJ S oJ h
theorem PM(S:List Nd)(j:Nat):dP S 0 j=0:=by simp[dP]
theorem wJ(S:List Nd)(k j:Nat)(h:k<S.length):dP S (k+1) j=dP S k j+(nd S k).ks.count (j:Int):=by
 unfold dP;rw[List.take_succ_eq_append_getElem h,List.flatMap_append,List.count_append,eQ h];simp
theorem Aw(l:List Int)(j:Nat):nN l 0 j=0:=by simp[nN]
theorem Ay(l:List Int)(j:Nat):nN l l.length j=l.count (j:Int):=by simp[nN]
theorem Az(l:List Int)(q j:Nat)(h:q<l.length):nN l (q+1) j=nN l q j+(if l.getD q 0=(j:Int) then 1 else 0):=by
 unfold nN;rw[List.take_succ_eq_append_getElem h,List.count_append,aJ l 0 h];by_cases e:l[q]=(j:Int) <;> simp[e]
theorem Ba(l:List Int)(q j:Nat):nN l q j<=q:=by
 unfold nN;exact yJ List.count_le_length (by rw[List.length_take];omega)
theorem Bb(S:List Nd)(k j:Nat)(M:k<=S.length)(E:tN S k)(O:(nd S j).p=k):dP S k j=0:=by
 unfold dP;rw[List.count_eq_zero];intro I;obtain⟨y,J,F⟩:=List.mem_flatMap.1 I;obtain⟨i,hi,rfl⟩:=List.getElem_of_mem J;rw[List.length_take] at hi;have D:=E i oaa (j:Int) (by rw[eQ oaa];simpa using F);have:=D.2.2;simp only[yk] at this;omega
theorem info3:(prog.info? 3).map (fun i=>(i.zero,i.size,i.bytes))=some (some (.int .i64 0),1,8):=oad
theorem PO(n:Nat)(hn:n<=24)(w:Wd):(Instr.makeSlice 48 (.int .i64 (n:Int)) (.int .i64 (n:Int))).run prog w=.ok (.slice (some ⟨w.heap.size,0,none⟩) n n) (w.alloc (.cells (madeCells #[.int .i64 0] n) 3)) :=
 run_make_row' (P:=prog) 48 3 (.int .i64 0) 8 underlying48 info3 rfl .i64 .i64 n oaa oaa w
theorem Bc(a:OA)(c:Nat)(S:List Nd)(w:Wd)(hN:S.length<=24)(hB:Big S)(hP:∀ i,i<S.length->∀ x ∈ (nd S i).ks,-1<=x/\x<S.length)(hS:aD w a S) :
  yO 81 #[.slice a S.length c] w fun e w' => ∃ r:Bool,e=.returned (.bool r)/\Below w.heap.size w w' /\(r=true↔lW S):=by
 have HK:Hid (lW S↔(tN S S.length/\∀ j,j<S.length->dP S S.length j<=1/\((nd S j).p≠-1->dP S S.length j≠0))):=Iff.rfl;generalize lW S=KO at *;have HS:Hid (aD w a S):=hS;have HB:Hid (Big S):=hB;have HP:Hid (∀ i,i<S.length->∀ x ∈ (nd S i).ks,-1<=x/\x<S.length):=hP;clear hS hB hP;have HL:Hid (S.length=S.length):=rfl;generalize hn:S.length=n at *;have HN:Hid (S.length=n):=hn;clear hn HL;have c8:=PO n hN
 go_enter func81,ntmps81
 go_wp2
 go_loopg [15] n (fun g s15 wr=>∃ (k:Nat) (f:Nat->Int),k<=n/\n-k<=g/\s15=.int .i64 k/\Below w.heap.size w wr/\wr.rowIs w.heap.size 3 n (fun j=>.int .i64 (f j))/\Hid (∀ j,j<n->f j=(dP S k j:Int))/\Hid (tN S k))
 case atStart =>
  refine⟨0,fun _=>0,oaa,oaa,rfl,(yv _ _).alloc (yr _) _,World.rowIs_made _ _ _ _,(show Hid _ from fun j _=>by rw[PM];rfl),(show Hid _ from fun i hi=>absurd hi (yB _))⟩
 case round =>
  obtain⟨k,f,hk,hg,rfl,hb,hF,A,U⟩:=hrel;by_cases O:k<n
  ·obtain⟨b,o,rfl,c0,c1,c2,c3,c4,⟨ka,kc,c5,I⟩,c6,c7⟩:=HS.out k (by rw[HN.out];exact O);have a6:b<w.heap.size:=yi w ⟨b,o+k*8,none⟩ c0;rw[<- hb.cell (by exact a6)] at c0 c1 c2 c3 c4 c5 c6 c7;have b7:=HB.out k (by rw[HN.out];exact O);have HF:Hid (wr.rowIs w.heap.size 3 n (fun j=>.int .i64 (f j))):=hF;have HI:Hid (aG w ka (nd S k).ks):=I;have b5:=hF.lt;have P:Hid (∀ x ∈ (nd S k).ks,-1<=x/\x<(n:Int)):=HP.out k O;have FU:Hid (tN S n->∀ x ∈ (nd S k).ks,tK S k x):=fun h=>h k O;clear hF I;generalize I:(nd S k).ks=ks at *;have KS:Hid ((nd S k).ks=ks):=I;clear I;generalize hL:ks.length=L at *;have LL:Hid (ks.length=L):=hL;clear hL
   go_wp2
   go_loopg [23] L (fun g s23 w2=>∃ (q:Nat) (f2:Nat->Int),q<=L/\L-q<=g/\s23=.int .i64 q/\Below w.heap.size w w2/\w2.rowIs w.heap.size 3 n (fun j=>.int .i64 (f2 j))/\Hid (∀ j,j<n->f2 j=((dP S k j+nN ks q j:Nat):Int))/\Hid (∀ i,i<q->tK S k (ks.getD i 0)))
   case atStart =>
    refine⟨0,f,oaa,oaa,rfl,hb.alloc hb.size _,HF.alloc _,(show Hid _ from fun j hj=>by rw[Aw,A.out j hj];rfl),(show Hid _ from fun i hi=>absurd hi (yB _))⟩
   case round =>
    obtain⟨q,f2,hq,b3,rfl,D,E,A2,U2⟩:=hrel;by_cases F:q<L
    ·obtain⟨kb,ko,rfl,b9⟩:=(HI.below D) q (by rw[LL.out];exact F);have T:ks.getD q 0 ∈ ks:=(by rw[aJ ks 0 (by rw[LL.out];exact F)];exact List.getElem_mem _);have b1:Hid (ks.getD q 0 ∈ ks):=T;obtain⟨d8,d9⟩:=P.out _ T;clear T;generalize hy:ks.getD q 0=y at *;have HY:Hid (ks.getD q 0=y):=hy;clear hy;have M:Hid (wr.rowIs w.heap.size 3 n (fun j=>.int .i64 (f2 j))):=E;have J:Hid (¬ tK S k y->(false=true↔KO)):=fun a8=>⟨fun h=>oah,fun h=>absurd (FU ((HK.out.1 h).1) y b1.out) a8⟩;by_cases b6:y = -1
     ·subst b6;have Z:Hid _:=J.out (fun h=>h.1 rfl);clear E
      go_wp2
      go_ret;exact⟨false,rfl,D,Z.out⟩
     ·obtain⟨j,rfl⟩:∃ j:Nat,y=(j:Int):=⟨y.toNat,oaa⟩;have hj:j<n:=oaa;obtain⟨b', o', e', d0,_,_,_,d4,_⟩:=HS.out j (by rw[HN.out];exact hj)
      cases e'
      rw[<- D.cell (by exact a6)] at d0 d4;have a5:=E.cell hj;have b8:=E.frozen;have hv:=A2.out j hj;clear E
      cases hu:(nd S j).u with
      | false =>
       rw[hu] at d0;have Z:Hid _:=J.out (fun h=>by have:=h.2.1;simp[hu] at this);clear hu
       go_wp2
       go_ret;exact⟨false,rfl,D,Z.out⟩
      | true =>
       rw[hu] at d0;by_cases hp:(nd S j).p=(k:Int)
       ·have hz:=Bb S k j (by rw[HN.out];omega) U.out hp;have b4:=Ba ks q j;have FK:Hid (tK S k (j:Int)):=⟨oaa,by simpa using hu,by simpa using hp⟩;rw[hz] at hv;have d6:0<=f2 j:=oaa;have d7:f2 j<9223372036854775807:=oaa;rw[hp] at d4;clear hu hp hz b4 hv;generalize a9:f2 j=v at *;have FJ:Hid (f2 j=v):=a9;clear a9
        go_wp2
        go_roundg (L-(q+1))
        case measure=>omega
        case rel =>
         refine⟨q+1,fun i=>if i=j then v+1 else f2 i,oaa,oaa,by go_num,D.setCell (yr _) _,(M.set j _).congr (fun i _=>?_),(show Hid _ from fun i hi=>?_),(show Hid _ from fun i hi=>?_)⟩
         ·dsimp only;by_cases e:i=j
          ·rw[ye e,ye e]
          ·rw[yd e,yd e]
         ·dsimp only;rw[Az ks q i (by rw[LL.out];exact F),HY.out];by_cases e:i=j
          ·subst e;have:=A2.out i hi;rw[ye rfl,ye rfl];rw[FJ.out] at this;omega
          ·have:=A2.out i hi;rw[yd e,yd oaa];exact this
         ·by_cases e:i=q
          ·subst e;rw[HY.out];exact FK.out
          ·exact U2.out i oaa
       ·have Z:Hid _:=J.out (fun h=>hp (by simpa using h.2.2));generalize (nd S j).p=pj at d4 hp;have c9:(pj ==(k:Int))=false:=(by simp[hp]);have d5:(pj !=(k:Int))=true:=(by simp[hp]);clear hu
        go_wp2
        go_ret;exact⟨false,rfl,D,Z.out⟩
    ·have:q=L:=oaa;subst this;have M:Hid (wr.rowIs w.heap.size 3 n (fun j=>.int .i64 (f2 j))):=E;clear E
     go_wp2
     go_roundg (n-(k+1))
     case measure=>omega
     case rel =>
      refine⟨k+1,f2,oaa,oaa,by go_num,D,M.out,(show Hid _ from fun j hj=>?_),(show Hid _ from fun i hi=>?_)⟩
      ·rw[A2.out j hj,wJ S k j (by rw[HN.out];exact O),KS.out,<- Ay,LL.out]
      ·by_cases e:i=k
       ·subst e;intro x hx;rw[KS.out] at hx;obtain⟨r,hr,rfl⟩:=List.getElem_of_mem hx;have:=U2.out r (by rw[<- LL.out];exact hr)
        rwa [aJ ks 0 hr] at this
       ·exact U.out i oaa
  ·have:k=n:=oaa;subst this;have HF:Hid (wr.rowIs w.heap.size 3 k (fun j=>.int .i64 (f j))):=hF;clear hF
   go_wp2
   go_loopg [56] k (fun g s56 w2=>∃ q:Nat,q<=k/\k-q<=g/\s56=.int .i64 q/\Below w.heap.size w w2/\w2.rowIs w.heap.size 3 k (fun j=>.int .i64 (f j))/\Hid (∀ j,j<q->dP S k j<=1/\((nd S j).p≠-1->dP S k j≠0)))
   case atStart=>exact⟨0,oaa,oaa,rfl,hb,HF.out,(show Hid _ from fun j hj=>absurd hj (yB _))⟩
   case round =>
    obtain⟨q,hq,b3,rfl,D,E,A2⟩:=hrel;by_cases F:q<k
    ·obtain⟨b,o,rfl,c0,c1,c2,c3,c4,⟨ka,kc,c5,I⟩,c6,c7⟩:=HS.out q (by rw[HN.out];exact F);have a6:b<w.heap.size:=yi w ⟨b,o+q*8,none⟩ c0;rw[<- D.cell (by exact a6)] at c0 c1 c2 c3 c4 c5 c6 c7;have M:Hid (wr.rowIs w.heap.size 3 k (fun j=>.int .i64 (f j))):=E;have a5:=E.cell F;have b5:=E.lt;have hv:=A.out q F;rw[hv] at a5;have J:Hid (¬ (dP S k q<=1/\((nd S q).p≠-1->dP S k q≠0))->(false=true↔KO)):=fun a8=>⟨fun h=>oah,fun h=>absurd ((HK.out.1 h).2 q F) a8⟩
     have a7:Hid ((dP S k q<=1/\((nd S q).p≠-1->dP S k q≠0))->∀ j,j<q+1->dP S k j<=1/\((nd S j).p≠-1->dP S k j≠0)):=fun h j hj=>by
      by_cases e:j=q
      ·rw[e];exact h
      ·exact A2.out j oaa
     clear E I hv;have b2:wr.cell? ⟨w.heap.size,q,none⟩=some (.int .i64 (dP S k q:Int)):=a5;clear a5;generalize dP S k q=vn at *;generalize b0:(vn:Int)=v at *;have VI:Hid ((vn:Int)=v):=b0;clear b0;generalize (nd S q).p=pq at *;by_cases h1:1<v
     ·have Z:Hid _:=J.out (fun h=>by have:=VI.out;omega)
      go_wp2
      go_ret;exact⟨false,rfl,D.alloc D.size _,Z.out⟩
     ·by_cases h2:pq = -1
      ·subst h2;have Z:=a7.out ⟨by have:=VI.out;omega,fun h=>absurd rfl h⟩;have ZZ:Hid _:=Z;clear Z
       go_wp2
       go_roundg (k-(q+1))
       case measure=>omega
       case rel=>exact⟨q+1,oaa,oaa,by go_num,D.alloc D.size _,M.alloc _,ZZ⟩
      ·have h21:(pq == -1)=false:=(by simp[h2]);have h22:(pq != -1)=true:=(by simp[h2]);by_cases h3:v=0
       ·subst h3;have Z:Hid _:=J.out (fun h=>h.2 h2 (by have:=VI.out;omega))
        go_wp2
        go_ret
        first
         | exact⟨false,rfl,D.alloc D.size _,Z.out⟩
         | exact Or.inl ⟨rfl,D.alloc D.size _,fun h=>by cases Z.out.2 h⟩
       ·have ZZ:Hid _:=a7.out ⟨by have:=VI.out;omega,fun _=>by have:=VI.out;omega⟩
        go_wp2
        go_roundg (k-(q+1))
        case measure=>omega
        case rel=>exact⟨q+1,oaa,oaa,by go_num,D.alloc D.size _,M.alloc _,ZZ⟩
    ·have:q=k:=oaa;subst this;clear E
     go_wp2
     go_ret;exact⟨true,rfl,D,fun _=>HK.out.2 ⟨U.out,A2.out⟩,fun _=>rfl⟩
instance (S:List Nd):Decidable (lW S):=by unfold lW tN tK;infer_instance
theorem Bd(a:OA)(c:Nat)(S:List Nd)(w:Wd)(F:S.length<=24)(E:Big S)(I:∀ i,i<S.length->∀ x ∈ (nd S i).ks,-1<=x/\x<S.length)(J:aD w a S) :
  yO 81 #[.slice a S.length c] w fun e w' => e=.returned (.bool (decide (lW S)))/\Below w.heap.size w w' :=
 (Bc a c S w F E I J).mono (by
  rintro e w' ⟨r,rfl,hb,D⟩;refine⟨?_,hb⟩
  congr 2
  cases r
  ·exact(yH (fun h=>by cases D.2 h)).symm
  ·exact(yI (D.1 rfl)).symm)
def wK(S:List Nd)(i:Nat):Prop:=(nd S i).h≠-1->(nd S (nd S i).h.toNat).u=true/\∀ D,D<i->(nd S D).h≠(nd S i).h
def jI(S:List Nd)(k:Nat):Prop:=∀ i,i<k->wK S i
instance (S:List Nd) (k:Nat):Decidable (jI S k):=by unfold jI wK;infer_instance
theorem Be(a:OA)(c:Nat)(S:List Nd)(w:Wd)(hN:S.length<=24)(hP:∀ i,i<S.length->-1<=(nd S i).h/\(nd S i).h<S.length)(hS:aD w a S) :
  yO 82 #[.slice a S.length c] w fun e w' => e=.returned (.bool (decide (jI S S.length)))/\Below w.heap.size w w' := by
 have a6:Hid (jI S S.length->decide (jI S S.length)=true):=fun h=>yI h;have a5:Hid (¬ jI S S.length->decide (jI S S.length)=false):=fun h=>yH h;generalize decide (jI S S.length)=KO at *;have HS:Hid (aD w a S):=hS;have HP:Hid (∀ i,i<S.length->-1<=(nd S i).h/\(nd S i).h<S.length):=hP;clear hS hP;generalize hn:S.length=n at *;have HN:Hid (S.length=n):=hn;clear hn;have b2:=PO n hN
 go_enter func82,ntmps82
 go_wp2
 go_loopg [11] n (fun g s11 wr=>∃ (k:Nat) (f:Nat->Int),k<=n/\n-k<=g/\s11=.int .i64 k/\Below w.heap.size w wr/\wr.rowIs w.heap.size 3 n (fun j=>.int .i64 (f j))/\Hid (∀ j,j<n->(f j=0/\∀ i,i<k->(nd S i).h≠j)\/(f j=1/\∃ i,i<k/\(nd S i).h=j))/\Hid (jI S k))
 case atStart =>
  exact⟨0,fun _=>0,oaa,oaa,rfl,(yv _ _).alloc (yr _) _,World.rowIs_made _ _ _ _,(show Hid _ from fun j _=>Or.inl ⟨rfl,fun i hi=>absurd hi (yB _)⟩),(show Hid _ from fun i hi=>absurd hi (yB _))⟩
 case round =>
  obtain⟨k,f,hk,hg,rfl,hb,I,A,U⟩:=hrel;by_cases M:k<n
  ·obtain⟨b,o,rfl,c0,c1,c2,c3,c4,⟨ka,kc,c5,a7⟩,c6,c7⟩:=HS.out k (by rw[HN.out];exact M);have J:b<w.heap.size:=yi w ⟨b,o+k*8,none⟩ c0;rw[<- hb.cell (by exact J)] at c0 c1 c2 c3 c4 c5 c6 c7;have HF:Hid (wr.rowIs w.heap.size 3 n (fun j=>.int .i64 (f j))):=I;have b5:=I.lt;obtain⟨b0,b1⟩:=HP.out k M
   have F:Hid (wK S k->jI S (k+1)):=fun h i hi=>by
    by_cases e:i=k
    ·rw[e];exact h
    ·exact U.out i oaa
   have O:Hid (¬ wK S k->KO=false):=fun h=>a5.out (fun E=>h (E k M));clear a7;generalize hh:(nd S k).h=y at *;have D:Hid ((nd S k).h=y):=hh;clear hh;by_cases hy:y = -1
   ·subst hy;clear I
    go_wp2
    go_roundg (n-(k+1))
    case measure=>omega
    case rel =>
     refine⟨k+1,f,oaa,oaa,by go_num,hb.alloc hb.size _,HF.alloc _,(show Hid _ from fun j hj=>?_),F.out (fun h=>absurd D.out h)⟩;rcases A.out j hj with ⟨h0,h1⟩ |⟨h0,i,hi,h1⟩
     ·refine Or.inl ⟨h0,fun i hi=>?_⟩;by_cases e:i=k
      ·rw[e,D.out];omega
      ·exact h1 i oaa
     ·exact Or.inr ⟨h0,i,oaa,h1⟩
   ·obtain⟨j,rfl⟩:∃ j:Nat,y=(j:Int):=⟨y.toNat,oaa⟩;have hj:j<n:=oaa;obtain⟨b', o', e', d0,_⟩:=HS.out j (by rw[HN.out];exact hj)
    cases e'
    rw[<- hb.cell (by exact J)] at d0;have a8:=I.cell hj;have a9:=I.frozen;have hv:=A.out j hj;have b6:((j:Int) == -1)=false:=(by simp[hy]);generalize T:f j=v at *;have FJ:Hid (f j=v):=T;have AV:Hid ((v=0/\∀ i,i<k->(nd S i).h≠j)\/(v=1/\∃ i,i<k/\(nd S i).h=j)):=hv;have b3:0<=v:=oaa;have b4:v<=1:=oaa;clear T hv;have d1:∀ v o1,((wr.setCell ⟨w.heap.size,j,none⟩ v).alloc o1).cell? ⟨b,o+j*8,none⟩=some (.bool (nd S j).u):=fun v o1=>((((yv w.heap.size wr).setCell (yr _) v).alloc (by have:=I.lt;simp[World.setCell];omega) o1).cell (by exact J)).trans d0;clear I
    cases E:(nd S j).u with
    | false =>
     rw[E] at d0 d1;have Z:Hid _:=O.out (fun h=>by have:=(h (by rw[D.out];omega)).1;rw[D.out] at this;simp[E] at this);clear E
     go_wp2
     go_ret;exact⟨by rw[Z.out];rfl,(hb.setCell (yr _) _).alloc (by simpa using hb.size) _⟩
    | true =>
     rw[E] at d0 d1;by_cases hv:v=0
     ·subst hv
      have HK:Hid (wK S k):=fun _=>⟨by rw[D.out];simpa using E,fun i hi=>by
       rw[D.out];rcases AV.out with ⟨_,h⟩ |⟨h,_⟩
       ·exact h i hi
       ·omega⟩
      clear E
      go_wp2
      go_roundg (n-(k+1))
      case measure=>omega
      case rel =>
       refine⟨k+1,fun i=>if i=j then 1 else f i,oaa,oaa,by go_num,?_,?_,(show Hid _ from fun i hi=>?_),F.out HK.out⟩
       ·exact(hb.setCell (yr _) _).alloc (by simpa using hb.size) _
       ·refine((HF.set j _).alloc _).congr (fun i _=>?_);dsimp only;by_cases e:i=j
        ·rw[ye e,ye e]
        ·rw[yd e,yd e]
       ·dsimp only;by_cases e:i=j
        ·rw[ye e];exact Or.inr ⟨rfl,k,oaa,by rw[D.out,e]⟩
        ·rw[yd e];rcases A.out i hi with ⟨h0,h1⟩ |⟨h0,r,hr,h1⟩
         ·refine Or.inl ⟨h0,fun r hr=>?_⟩;by_cases e2:r=k
          ·rw[e2,D.out];omega
          ·exact h1 r oaa
         ·exact Or.inr ⟨h0,r,oaa,h1⟩
     ·have hv:v=1:=oaa;subst hv
      have Z:Hid _:=O.out (fun h=>by
       rcases AV.out with ⟨h0,_⟩ |⟨_,r,hr,h1⟩
       ·omega
       ·exact(h (by rw[D.out];omega)).2 r hr (by rw[D.out];exact h1))
      clear E
      go_wp2
      go_ret;exact⟨by rw[Z.out];rfl,(hb.setCell (yr _) _).alloc (by simpa using hb.size) _⟩
  ·have:k=n:=oaa;subst this;clear I
   go_wp2
   go_ret;exact⟨by rw[a6.out U.out];rfl,hb⟩
theorem aK(W:Wd)(D:Array Value)(t j:Nat)(h:D[j]?=some v):(W.alloc (.cells D t)).cell? ⟨W.heap.size,j,none⟩=some v:=by
 have e:=yN W (.cells D t);simp only[World.cell?,e];exact h
theorem aA{W D:Wd}(h:W.cell? ⟨b,o,none⟩=some v)(hb:Bl W D):D.cell? ⟨b,o,none⟩=some v:=(hb.cell (yi _ _ h)).trans h
theorem aB(w:Wd)(D:Obj):Bl w (w.alloc D):=(yv _ _).alloc (yr _) _
theorem aM(w:Wd)(D E:Obj):Bl w ((w.alloc D).alloc E):=((yv _ _).alloc (yr _) _).alloc oac _
theorem fE(W:Wd)(D:Array Value)(t j:Nat)(E:Obj)(h:D[j]?=some v):((W.alloc (.cells D t)).alloc E).cell? ⟨W.heap.size,j,none⟩=some v:=aA (aK W D t j h) (aB _ _)
theorem fF(W:Wd)(D:Array Value)(t j:Nat)(E:Obj)(h:D[j]?=some v):((W.alloc E).alloc (.cells D t)).cell? ⟨W.heap.size+1,j,none⟩=some v:=by
 have:=aK (W.alloc E) D t j h;simpa using this
theorem fG{w:World}(h:w.ownsRow B e size v n E)(hb:∀ k,v.ownBlock=some k->w'.heap[k]?=w.heap[k]?):w'.ownsRow B e size v n E:=by
 obtain⟨hl,h⟩:=h;refine⟨hl,?_⟩;rcases h with h |⟨g,cap,D,rfl,h1,F,I⟩
 ·exact Or.inl h
 ·exact Or.inr ⟨g,cap,D,rfl,h1,(hb g rfl).trans F,I⟩
theorem kW(h:w.ownsRow B e size v n E)(J:B' <= B):w.ownsRow B' e size v n E:=by
 obtain⟨hl,h⟩:=h;refine⟨hl,?_⟩;rcases h with h |⟨g,cap,D,rfl,h1,F,I⟩
 ·exact Or.inl h
 ·exact Or.inr ⟨g,cap,D,rfl,oaa,F,I⟩
theorem wL{U D n':Nat}{v':Value}{xs M:List Value}(h:w.ownsRow B e size v n xs)(I:w.ownsRow B' U D v' n' M)(J:e≠U):∀ k,v.ownBlock=some k->v'.ownBlock≠some k:=by
 intro k Z F;obtain⟨_,h⟩:=h;obtain⟨_,I⟩:=I;rcases h with ⟨rfl,_⟩ |⟨g,cap,a5,rfl,_,h2,_⟩
 ·cases Z
 rcases I with ⟨rfl,_⟩ |⟨g', O,T,rfl,_,E,_⟩
 ·cases F
 cases Z;cases F;rw[h2] at E;cases E;exact J rfl
theorem tO{w2:Wd}(D:w2.ownsRow B 3 1 v n (l.map (Value.int .i64))):∃ sa cap,v=.slice sa l.length cap/\aG w2 sa l:=by
 have hn:n=l.length:=by have:=D.1;simp at this;omega
 subst hn;obtain⟨hl,h⟩:=D;rcases h with ⟨rfl,h0⟩ |⟨g,cap,E,rfl,_,hg,h1,I,J,F⟩
 ·exact⟨none,0,by rw[h0],fun i hi=>oaa⟩
 ·refine⟨some ⟨g,0,none⟩,cap,rfl,fun i hi=>⟨g,0,rfl,?_⟩⟩
  have h5:(E.toList.take (l.length*1))[i]?=some (.int .i64 (l.getD i 0)):=by
   rw[F,List.getElem?_map,List.getElem?_eq_getElem hi,aJ l 0 hi];rfl
  rw[List.getElem?_take,ye oaa] at h5;simp only[yD,World.cell?,hg];simpa using h5
theorem wN{D:Value}(h:w.heap[b]?=some (.cells #[v] t (0,0))):(w.setCell ⟨b,0,none⟩ D).heap[b]?=some (.cells #[D] t (0,0)):=by
 show (w.heap.modify b _)[b]?=_;rw[Array.getElem?_modify,ye rfl,h];rfl
theorem iB(h:w.heap[b]?=some (.cells #[v] t (0,0))):w.frozen? ⟨b,o,none⟩=false:=by
 simp[World.frozen?,h]
theorem cZ(h:w.heap[b]?=some (.cells #[v] t (0,0))):w.cell? ⟨b,0,none⟩=some v:=by
 simp[World.cell?,h]
theorem aR{o:Obj}(h:w.heap[b]?=some o):b<w.heap.size:=(Array.getElem?_eq_some_iff.1 h).1
theorem PQ{cap:Nat}{G:Nat->Value}(h:w.rowIs g 3 cap G)(hg:∀ j,j<l.length->G j=.int .i64 (l.getD j 0))(h1:l.length<=cap)(F:cap<=maxLen)(I:B<=g):w.ownsRow B 3 1 (.slice (some ⟨g,0,none⟩) l.length cap) l.length (l.map (Value.int .i64)):=by
 obtain⟨E,hc,hs,J⟩:=h;refine⟨oac,Or.inr ⟨g,cap,E,rfl,I,hc,h1,F,oaa,?_⟩⟩;rw[Nat.mul_one];refine List.ext_getElem? fun j=>?_;rw[List.getElem?_take,List.getElem?_map];by_cases D:j<l.length
 ·rw[ye D,Array.getElem?_toList,J j oaa,hg j D,List.getElem?_eq_getElem D,aJ l 0 D];rfl
 ·rw[yd D,List.getElem?_eq_none oaa];rfl
theorem Bt:(prog.info? 3).map (fun i=>(i.zero,i.size,i.bytes))=some (some (.int .i64 0),1,8):=oad
theorem QA(n:Nat)(hn:n<=1000000)(w:Wd):(Instr.makeSlice 48 (.int .i64 (n:Int)) (.int .i64 (n:Int))).run prog w=.ok (.slice (some ⟨w.heap.size,0,none⟩) n n) (w.alloc (.cells (madeCells #[.int .i64 0] n) 3)) :=
 run_make_row' (P:=prog) 48 3 (.int .i64 0) 8 underlying48 Bt rfl .i64 .i64 n oaa oaa w
theorem wY(h:w.rowIs g t ks.length (fun j=>.int .i64 (ks.getD j 0))):aG w (some ⟨g,0,none⟩) ks:=fun i hi=>⟨g,0,rfl,by rw[yD];exact h.cell hi⟩
theorem IJ(ka:OA)(kc:Nat)(ks:List Int)(w:Wd)(hk:ks.length<=1000000)(J:aG w ka ks) :
  yO 85 #[.slice ka ks.length kc] w fun e w' => e=.returned (.slice (some ⟨w.heap.size,0,none⟩) ks.length ks.length)/\Below w.heap.size w w' /\ w'.rowIs w.heap.size 3 ks.length (fun j=>.int .i64 (ks.getD j 0)):=by
 have a5:=QA ks.length hk;have U:(prog.info? 3).map (·.size)=some 1:=oad
 have E:Hid (∀ D,aG (w.alloc D) ka ks):=fun D=>J.below (aB _ _)
 have HG:Hid ((w.alloc (.cells (madeCells #[.int .i64 0] ks.length) 3)).heap[w.heap.size]?=some (.cells (madeCells #[.int .i64 0] ks.length).toList.toArray 3 (0,0))):=by
  have:=yN w (.cells (madeCells #[.int .i64 0] ks.length) 3);show _=_;simpa using this
 have HP:Hid (∀ D,0<(ks.map (Value.int .i64)).length->some (⟨w.heap.size,0,none⟩:Addr)=some ⟨w.heap.size,0,none⟩/\∃ Z,ka=some Z/\∀ j v,(ks.map (Value.int .i64))[j]?=some v->(w.alloc D).cell? (Z.add j)=some v):=fun D h0=>by
  refine⟨rfl,?_⟩;obtain⟨b,o,rfl,_⟩:=E.out D 0 (by simpa using h0);refine⟨_,rfl,fun j v hj=>?_⟩;obtain⟨hl,hv⟩:=List.getElem?_eq_some_iff.1 hj;obtain⟨b', o', e', hc⟩:=E.out D j (by simpa using hl)
  cases e'
  rw[List.getElem_map] at hv;rw[aJ ks 0 (by simpa using hl),hv] at hc;rw[Addr.add_lit];exact hc
 have F:Hid (splice (madeCells #[.int .i64 0] ks.length).toList 0 (ks.map (Value.int .i64))=ks.map (Value.int .i64)):=by
  show splice _ _ _=_;simp[splice,size_madeCells]
 clear J
 go_enter func85,ntmps85
 go_wp2_with (refine wpList_copy_splice rfl (.tmp 7) (.tmp 8) 48 48 rfl 3 underlying48 U (some ⟨w.heap.size,0,none⟩) ka ks.length ks.length ks.length kc rfl rfl w.heap.size 0 (madeCells #[.int .i64 0] ks.length).toList 3 HG.out (ks.map (Value.int .i64)) oac (HP _) (by simp[size_madeCells]) (by intro v hv;simp at hv;obtain⟨y,_,rfl⟩:=hv;rfl) w.heap.size _ (yv _ _) (yr _) ?_)
 intro w3 M I
 have T:Hid (w3.rowIs w.heap.size 3 ks.length (fun j=>.int .i64 (ks.getD j 0))):=by
  refine⟨_,M.out,?_,fun i hi=>?_⟩
  ·rw[F.out];simp
  ·rw[F.out];simp[hi]
 have O:Hid (Bl w w3):=(aB _ _).trans I;clear I M
 go_wp2
 go_ret;exact⟨rfl,O.out,T.out⟩
