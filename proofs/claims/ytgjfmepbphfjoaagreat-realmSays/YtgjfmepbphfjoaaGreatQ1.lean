/-
  x
-/
import Derived.Test.YtgjfmepbphfjoaaGreatQ0
import Derived.Test.YtgjfmepbphfjoaaGreatProg
import Derived.WalkKit
import Derived.Deep.LoopGhost
import Derived.Deep.Draws
import Derived.Laws.CopyOwn
import Derived.Deep.OwnRows
import Derived.Shelf.Abstract
import Derived.Laws.AppendOwn
import Derived.Laws.Rows
namespace Go.Proofs.YtgjfmepbphfjoaaGreat
set_option maxRecDepth 100000
set_option maxHeartbeats 4000000
set_option linter.unusedVariables false
open Go.RowKit
structure Nd where
 u:Bool
 n:Int
 t:Int
 m:Int
 p:Int
 ks:List Int
 h:Int
 c:Bool
def zdd:Nd:=⟨false,0,0,0,0,[],0,false⟩
theorem zaf{α:Type}(l:List α)(d:α){k:Nat}(h:k<l.length):l.getD k d=l[k]:=by
 simp[List.getD,h]
def zaj(w:World)(a:Option Addr)(ks:List Int):Prop :=
 ∀ i,i<ks.length->∃ b o,a=some ⟨b,o,none⟩/\w.cell? ⟨b,o+i,none⟩=some (.int .i64 (ks.getD i 0))
theorem zaj.below{w w' : World}{a:Option Addr}{ks:List Int}(h:zaj w a ks)(D:Below w.heap.size w w'):zaj w' a ks:=by
 intro i F;obtain⟨b,o,e,A⟩:=h i F;exact⟨b,o,e,(D.cell (ye w ⟨b,o+i,none⟩ A)).trans A⟩
def znm(K:Nat)(A:Array Value)(p:Int->Bool)(w:World):Prop :=
 ∀ (x:Int) (D:World),Below w.heap.size w D->Calls Tryz.prog K (#[.int .i64 x] ++ A) D fun e w2=>e=.returned (.bool (p x))/\Below D.heap.size D w2
theorem zfl(K:Nat)(I:Array Value)(p:Int->Bool)(a:Option Addr)(c:Nat)(ks:List Int)(w:World)(V:ks.length<=9223372036854775807)(J:zaj w a ks)
  (eg:∀ args w,(callFunc K args).run Tryz.prog w=.ok (.enter K args) w) (T:znm K I p w) :
  Calls Tryz.prog 121 #[.slice a ks.length c,.func (.func K) #[] I] w fun e w' => ∃ r:Int,e=.returned (.int .i64 r)/\Below w.heap.size w w' /\
   ((r = -1/\∀ i,i<ks.length->p (ks.getD i 0)=false)\/(∃ k:Nat,k<ks.length/\r=k/\p (ks.getD k 0)=true/\∀ i,i<k->p (ks.getD i 0)=false)):=by
 generalize hn:ks.length=n at *
 go_enter Tryz.func121,Tryz.ntmps121
 go_wp2
 go_loopg [8] n (fun g s8 wr=>∃ k:Nat,k<=n/\n-k<=g/\s8=.int .i64 k/\Below w.heap.size w wr/\Hid (∀ i,i<k->p (ks.getD i 0)=false))
 case atStart=>exact⟨0,by omega,by omega,rfl,yj _ _,fun i hi=>by omega⟩
 case round =>
  obtain⟨k,hk,hg,rfl,M,A⟩:=hrel;by_cases U:k<n
  ·obtain⟨b,o,rfl,Z⟩:=(J.below M) k (by omega);have D:=T (ks.getD k 0) wr M;have F:Hid (znm K I p w):=T;have KS:Hid (zaj w (some ⟨b,o,none⟩) ks):=J;clear J T;generalize hy:ks.getD k 0=y at Z D;have Y:Hid (ks.getD k 0=y):=hy;clear hy
   cases hq:p y with
   | true =>
    rw[hq] at D
    go_wp2_with (go_at_fn K;refine D.mono ?_;rintro e w' ⟨rfl,O⟩)
    go_ret;exact⟨k,rfl,M.trans (O.mono M.size),Or.inr ⟨k,U,rfl,by rw[Y.out];exact hq,A.out⟩⟩
   | false =>
    rw[hq] at D
    go_wp2_with (go_at_fn K;refine D.mono ?_;rintro e w' ⟨rfl,O⟩)
    go_roundg (n-(k+1))
    case measure=>omega
    case rel =>
     refine⟨k+1,by omega,by omega,by go_num,M.trans (O.mono M.size),(show Hid _ from fun i hi=>?_)⟩;by_cases e:i=k
     ·subst e;rw[Y.out];exact hq
     ·exact A.out i (by omega)
  ·have:k=n:=by omega
   subst this;clear J T
   go_wp2
   go_ret;exact⟨-1,rfl,M,Or.inl ⟨rfl,A.out⟩⟩
theorem zdQ(K:Nat)(F:Array Value)(p:Int->Bool)(a:Option Addr)(c:Nat)(ks:List Int)(w:World)(J:ks.length<=9223372036854775807)(M:zaj w a ks)
  (Z:∀ args w,(callFunc K args).run Tryz.prog w=.ok (.enter K args) w) (U:znm K F p w) :
  Calls Tryz.prog 100 #[.slice a ks.length c,.func (.func K) #[] F] w fun e w' => e=.returned (.bool (ks.any p))/\Below w.heap.size w w' := by
 have h:=zfl K F p a c ks w J M Z U;have D:∀ k,k<ks.length->p (ks.getD k 0)=true->ks.any p=true:=fun k O T=>List.any_eq_true.2 ⟨ks.getD k 0,by rw[zaf _ _ O];exact List.getElem_mem O,T⟩
 have A:(∀ i,i<ks.length->p (ks.getD i 0)=false)->ks.any p=false:=fun H=>by
  rw[List.any_eq_false];intro x hx;obtain⟨i,V,rfl⟩:=List.getElem_of_mem hx;have:=H i V;rw[zaf _ _ V] at this;simp[this]
 have H:Hid _:=D;have N:Hid _:=A;clear D A M U
 go_enter Tryz.func100,Tryz.ntmps100
 go_wp2_with (go_at_call 121;refine h.mono ?_;rintro e w' ⟨r,rfl,hb,hr⟩)
 go_ret;refine⟨?_,hb⟩;rcases hr with ⟨rfl,I⟩ |⟨k,O,rfl,T,_⟩
 ·rw[N.out I];rfl
 ·rw[H.out k O T];simp
theorem zbf(x a b:Int)(w:World) :
  Calls Tryz.prog 54 #[.int .i64 x,.int .i64 a,.int .i64 b] w fun e w' => e=.returned (.bool (decide (a<=x/\x<=b)))/\w' = w:=by
 by_cases h1:a<=x
 ·by_cases A:x<=b
  ·have h:decide (a<=x/\x<=b)=true:=by simp[h1,A]
   rw[h];clear h
   go_enter Tryz.func54,Tryz.ntmps54
   go_wp2
   go_ret;exact⟨rfl,rfl⟩
  ·have h:decide (a<=x/\x<=b)=false:=by simp[A]
   rw[h];clear h
   go_enter Tryz.func54,Tryz.ntmps54
   go_wp2
   go_ret;exact⟨rfl,rfl⟩
 ·have h:decide (a<=x/\x<=b)=false:=by simp[h1]
  rw[h];clear h
  go_enter Tryz.func54,Tryz.ntmps54
  go_wp2
  go_ret;exact⟨rfl,rfl⟩
theorem zdz(x a b:Int)(w:World)(h1:a<=x)(A:x<=b) :
  Calls Tryz.prog 54 #[.int .i64 x,.int .i64 a,.int .i64 b] w fun e w' => e=.returned (.bool true)/\w' = w:=by
 have h:=zbf x a b w
 rwa [decide_eq_true (by exact⟨h1,A⟩)] at h
theorem zfx(x a b:Int)(w:World)(h1:x<a\/b<x) :
  Calls Tryz.prog 54 #[.int .i64 x,.int .i64 a,.int .i64 b] w fun e w' => e=.returned (.bool false)/\w' = w:=by
 have h:=zbf x a b w
 rwa [decide_eq_false (by omega)] at h
theorem zfL(n:Int)(w:World) :
  Calls Tryz.prog 75 #[.int .i64 n] w fun e w' => e=.returned (.agg #[.bool false,.int .i64 n,.int .i64 0,.int .i64 0,.int .i64 (-1),.slice none 0 0,.int .i64 (-1),.bool false])/\w' = w.alloc (.cells #[.bool false,.int .i64 n,.int .i64 0,.int .i64 0,.int .i64 (-1),.slice none 0 0,.int .i64 (-1),.bool false] 47):=by
 go_enter Tryz.func75,Tryz.ntmps75
 go_wp2
 exact yq (v:=.agg #[.bool false,.int .i64 n,.int .i64 0,.int .i64 0,.int .i64 (-1),.slice none 0 0,.int .i64 (-1),.bool false]) (by simp[results,Tryz.results75,go_sem]) rfl ⟨rfl,rfl⟩
def zdT(N x:Int):Bool:=decide (-1<=x/\x<=N-1)
theorem zgM(x N:Int)(b:Nat)(w:World)(F:w.cell? ⟨b,0,none⟩=some (.int .i64 N))(D:0<=N/\N<=24) :
  Calls Tryz.prog 118 #[.int .i64 x,.pointer (some ⟨b,0,none⟩)] w fun e w' => e=.returned (.bool (!zdT N x))/\w' = w:=by
 have A:=zbf x (-1) (N-1);rw[show decide (-1<=x/\x<=N-1)=zdT N x from rfl] at A;generalize zdT N x=r at A
 go_enter Tryz.func118,Tryz.ntmps118
 go_wp2_with (go_at_call 54;refine(A _).mono ?_;rintro e w' ⟨rfl,rfl⟩)
 go_ret;exact⟨rfl,rfl⟩
def zbV(x:Nd):Bool:=decide (0<=x.n/\x.n<=1000000) && (decide (0<=x.t/\x.t<=99) && decide (-1000000<=x.m/\x.m<=1000000))
theorem zkc(x:Nd)(k:Value)(w:World) :
  Calls Tryz.prog 95 #[.agg #[.bool x.u,.int .i64 x.n,.int .i64 x.t,.int .i64 x.m,.int .i64 x.p,k,.int .i64 x.h,.bool x.c]] w fun e w' => e=.returned (.bool (zbV x))/\Below w.heap.size w w' := by
 unfold zbV;have d1:=zbf x.n 0 1000000;have d2:=zbf x.t 0 99;have d3:=zbf x.m (-1000000) 1000000;generalize decide (0<=x.n/\x.n<=1000000)=b1 at *;generalize decide (0<=x.t/\x.t<=99)=b2 at *;generalize decide (-1000000<=x.m/\x.m<=1000000)=b3 at *;cases b1;rotate_left;cases b2;rotate_left;cases b3
 all_goals
  go_enter Tryz.func95,Tryz.ntmps95
  go_wp2_with (first|(go_at_call_of 54 (Value.int .i64 x.n);refine(d1 _).mono ?_;rintro e w' ⟨rfl,rfl⟩)|(go_at_call_of 54 (Value.int .i64 x.t);refine(d2 _).mono ?_;rintro e w' ⟨rfl,rfl⟩)|(go_at_call_of 54 (Value.int .i64 x.m);refine(d3 _).mono ?_;rintro e w' ⟨rfl,rfl⟩))
  go_ret;exact⟨rfl,(yj _ _).alloc (yi _) _⟩
def zbv(N:Int)(x:Nd):Bool:=zdT N x.p && (zdT N x.h && !(x.ks.any fun k=>!zdT N k))
theorem zgy(x:Nd)(ka:Option Addr)(kc:Nat)(N:Int)(w:World)(J:0<=N/\N<=24)(A:x.ks.length<=9223372036854775807)(F:zaj w ka x.ks) :
  Calls Tryz.prog 96 #[.agg #[.bool x.u,.int .i64 x.n,.int .i64 x.t,.int .i64 x.m,.int .i64 x.p,.slice ka x.ks.length kc,.int .i64 x.h,.bool x.c],.int .i64 N] w fun e w' => e=.returned (.bool (zbv N x))/\Below w.heap.size w w' := by
 unfold zbv;have d1:=zgM x.p N;have d2:=zgM x.h N
 have O:∀ I:World,I.cell? ⟨w.heap.size+1,0,none⟩=some (.int .i64 N)->znm 118 #[.pointer (some ⟨w.heap.size+1,0,none⟩)] (fun k=>!zdT N k) I:=fun I h1 y w2 M =>
  (zgM y N (w.heap.size+1) w2 ((M.cell (ye I _ h1)).trans h1) J).mono (fun e w3 h=>⟨h.1,by rw[h.2];exact yj _ _⟩)
 have d3:=fun(W:World) (hk:zaj W ka x.ks) (Z:W.cell? ⟨w.heap.size+1,0,none⟩=some (.int .i64 N))=>zdQ 118 #[.pointer (some ⟨w.heap.size+1,0,none⟩)] (fun k=>!zdT N k) ka kc x.ks W A hk (enters_of Tryz.func118 (by kernel_rfl) rfl) (O W Z);have D:∀ o1 T,zaj ((w.alloc o1).alloc T) ka x.ks:=fun o1 T=>F.below (((yj _ _).alloc (yi _) _).alloc (by simp) _);have U:Hid _:=D;clear D F O;generalize zdT N x.p=b1 at *;generalize zdT N x.h=b2 at *;generalize (x.ks.any fun k=>!zdT N k)=b3 at *;cases b1;rotate_left;cases b2;rotate_left;cases b3
 all_goals
  go_enter Tryz.func96,Tryz.ntmps96
  go_wp2_with (first|(go_at_call_of 118 (Value.int .i64 x.p);refine(d1 _ _ (by go_simp) J).mono ?_;rintro e w' ⟨rfl,rfl⟩)|(go_at_call_of 118 (Value.int .i64 x.h);refine(d2 _ _ (by go_simp) J).mono ?_;rintro e w' ⟨rfl,rfl⟩)|(go_at_call 100;refine(d3 _ (U.out _ _) (by go_simp)).mono ?_;rintro e w' ⟨rfl,V⟩))
 all_goals go_ret
 all_goals first
  | exact⟨rfl,((yj _ _).alloc (yi _) _).alloc (by simp) _⟩
  | exact⟨rfl,(((yj _ _).alloc (yi _) _).alloc (by simp) _).trans (V.mono (by simp;omega))⟩
theorem zdo(a V:Option Addr)(c c' : Nat)(ks D:List Int)(w:World)(a4:ks.length<=9223372036854775807)(h1:zaj w a ks)(J:zaj w V D) :
  Calls Tryz.prog 19 #[.slice a ks.length c,.slice V D.length c'] w fun e w' => e=.returned (.bool (decide (ks=D)))/\Below w.heap.size w w' := by
 by_cases hl:ks.length=D.length
 ·have same:(∀ i,i<ks.length->ks.getD i 0=D.getD i 0)->decide (ks=D)=true:=fun H=>by
   refine decide_eq_true (List.ext_getElem hl fun i M U=>?_);have:=H i M
   rwa [zaf _ _ M,zaf _ _ U] at this
  have other:∀ i,ks.getD i 0≠D.getD i 0->decide (ks=D)=false:=fun i H=>decide_eq_false fun e=>H (by rw[e]);rw[<- hl];have S:Hid _:=same;have O:Hid _:=other;clear same other;generalize hn:ks.length=n at *
  go_enter Tryz.func19,Tryz.ntmps19
  go_wp2
  go_loopg [13] n (fun g s13 wr=>∃ k:Nat,k<=n/\n-k<=g/\s13=.int .i64 k/\Below w.heap.size w wr/\Hid (∀ i,i<k->ks.getD i 0=D.getD i 0))
  case atStart=>exact⟨0,Nat.zero_le _,by omega,rfl,yj _ _,fun i M=>by omega⟩
  case round =>
   obtain⟨k,hk,hg,rfl,I,A⟩:=hrel;by_cases a6:k<n
   ·obtain⟨b,o,rfl,g1⟩:=(h1.below I) k (by omega);obtain⟨b', o', rfl,T⟩:=(J.below I) k (by omega);clear h1 J;by_cases F:ks.getD k 0=D.getD k 0
    ·have E:Hid (ks.getD k 0=D.getD k 0):=F;rw[<- F] at T;clear F;generalize ks.getD k 0=y at g1 T
     go_wp2_with fail
     go_region
     all_goals go_wp2
     all_goals go_roundg (n-(k+1))
     case measure=>omega
     case rel =>
      refine⟨k+1,by omega,by omega,by go_num,I.drew,(show Hid _ from fun i M=>?_)⟩;by_cases e:i=k
      ·subst e;exact E.out
      ·exact A.out i (by omega)
    ·have Z:=O.out k F;generalize ks.getD k 0=y at g1 F;generalize D.getD k 0=y' at T F
     go_wp2_with fail
     go_region
     all_goals go_wp2
     all_goals go_ret
     rw[Z];exact⟨rfl,I.drew⟩
   ·clear h1 J;have:k=n:=by omega
    subst this
    go_wp2
    go_ret;rw[S.out A.out];exact⟨rfl,I⟩
 ·have hd:decide (ks=D)=false:=decide_eq_false fun e=>hl (by rw[e]);have a5:¬ ((ks.length:Int)=(D.length:Int)):=by omega
  rw[hd];clear h1 J hd;generalize ks.length=n at *;generalize D.length=n' at *
  go_enter Tryz.func19,Tryz.ntmps19
  go_wp2
  go_ret;exact⟨rfl,yj _ _⟩
theorem zcI{w A:World}{u U:Bool}{n M t T m J p O:Int}{k k' : Value}{h I:Int}{c F:Bool}(D:Below (w.heap.size+1+1) ((w.alloc (.cells #[.bool u,.int .i64 n,.int .i64 t,.int .i64 m,.int .i64 p,k,.int .i64 h,.bool c] 47)).alloc (.cells #[.bool U,.int .i64 M,.int .i64 T,.int .i64 J,.int .i64 O,k', .int .i64 I,.bool F] 47)) A) :
  A.cell? ⟨w.heap.size,6,none⟩=some (.int .i64 h)/\A.cell? ⟨w.heap.size,7,none⟩=some (.bool c)/\A.cell? ⟨w.heap.size+1,6,none⟩=some (.int .i64 I)/\A.cell? ⟨w.heap.size+1,7,none⟩=some (.bool F) :=
 ⟨(D.cell (by simp;omega)).trans (by go_simp),(D.cell (by simp;omega)).trans (by go_simp),(D.cell (by simp)).trans (by go_simp),(D.cell (by simp)).trans (by go_simp)⟩
theorem zfU(u u' : Bool)(n n' t t' m m' p p' : Int)(ks A:List Int)(ka J:Option Addr)(kc a5:Nat)(h M:Int)(c F:Bool)(w:World)(a4:ks.length<=9223372036854775807)(h1:zaj w ka ks)(h2:zaj w J A) :
  Calls Tryz.prog 78 #[.agg #[.bool u,.int .i64 n,.int .i64 t,.int .i64 m,.int .i64 p,.slice ka ks.length kc,.int .i64 h,.bool c],.agg #[.bool u', .int .i64 n', .int .i64 t', .int .i64 m', .int .i64 p', .slice J A.length a5,.int .i64 M,.bool F]] w fun e w' => e=.returned (.bool (decide (u=u' /\ n=n' /\ t=t' /\ m=m' /\ p=p' /\ ks=A/\h=M/\c=F)))/\Below w.heap.size w w' := by
 have I:=fun(W:World) (g1:zaj W ka ks) (g2:zaj W J A)=>zdo ka J kc a5 ks A W a4 g1 g2;have i1:∀ o1 o2,zaj ((w.alloc o1).alloc o2) ka ks:=fun o1 o2=>h1.below (((yj _ _).alloc (yi _) _).alloc (by simp) _);have i2:∀ o1 o2,zaj ((w.alloc o1).alloc o2) J A:=fun o1 o2=>h2.below (((yj _ _).alloc (yi _) _).alloc (by simp) _);have O:Hid _:=i1;have T:Hid _:=i2;clear i1 i2 h1 h2;by_cases Eu:u=u'
 ·subst Eu;by_cases En:n=n'
  ·subst En;by_cases Et:t=t'
   ·subst Et;by_cases Em:m=m'
    ·subst Em;by_cases Ep:p=p'
     ·subst Ep;by_cases U:ks=A
      ·have ED:decide (ks=A)=true:=decide_eq_true U;rw[ED] at I;clear ED;by_cases Eh:h=M
       ·subst Eh;by_cases Ec:c=F
        ·subst Ec;have hs:decide (u=u/\n=n/\t=t/\m=m/\p=p/\ks=A/\h=h/\c=c)=true:=by simp[U]
         rw[hs];clear hs U
         go_enter Tryz.func78,Tryz.ntmps78
         go_wp2_with (go_at_call 19;refine(I _ (O.out _ _) (T.out _ _)).mono ?_;rintro e w' ⟨rfl,D⟩;simp only[yk] at D;obtain⟨V,Z,l3,l4⟩:=zcI D)
         go_ret
         first
          | exact⟨rfl,((yj _ _).alloc (yi _) _).alloc (by simp) _⟩
          | exact⟨rfl,(((yj _ _).alloc (yi _) _).alloc (by simp) _).trans (D.mono (by omega))⟩
        ·have hs:decide (u=u/\n=n/\t=t/\m=m/\p=p/\ks=A/\h=h/\c=F)=false:=by simp[Ec]
         rw[hs];clear hs U
         cases c <;> cases F <;> first|exact absurd rfl Ec|skip
         all_goals
          go_enter Tryz.func78,Tryz.ntmps78
          go_wp2_with (go_at_call 19;refine(I _ (O.out _ _) (T.out _ _)).mono ?_;rintro e w' ⟨rfl,D⟩;simp only[yk] at D;obtain⟨V,Z,l3,l4⟩:=zcI D)
          go_ret
          first
           | exact⟨rfl,((yj _ _).alloc (yi _) _).alloc (by simp) _⟩
           | exact⟨rfl,(((yj _ _).alloc (yi _) _).alloc (by simp) _).trans (D.mono (by omega))⟩
       ·have hs:decide (u=u/\n=n/\t=t/\m=m/\p=p/\ks=A/\h=M/\c=F)=false:=by simp[Eh]
        rw[hs];clear hs U
        go_enter Tryz.func78,Tryz.ntmps78
        go_wp2_with (go_at_call 19;refine(I _ (O.out _ _) (T.out _ _)).mono ?_;rintro e w' ⟨rfl,D⟩;simp only[yk] at D;obtain⟨V,Z,l3,l4⟩:=zcI D)
        go_ret
        first
         | exact⟨rfl,((yj _ _).alloc (yi _) _).alloc (by simp) _⟩
         | exact⟨rfl,(((yj _ _).alloc (yi _) _).alloc (by simp) _).trans (D.mono (by omega))⟩
      ·have ED:decide (ks=A)=false:=decide_eq_false U;rw[ED] at I;have hs:decide (u=u/\n=n/\t=t/\m=m/\p=p/\ks=A/\h=M/\c=F)=false:=by simp[U]
       rw[hs];clear hs U ED
       go_enter Tryz.func78,Tryz.ntmps78
       go_wp2_with (go_at_call 19;refine(I _ (O.out _ _) (T.out _ _)).mono ?_;rintro e w' ⟨rfl,D⟩;simp only[yk] at D;obtain⟨V,Z,l3,l4⟩:=zcI D)
       go_ret
       first
        | exact⟨rfl,((yj _ _).alloc (yi _) _).alloc (by simp) _⟩
        | exact⟨rfl,(((yj _ _).alloc (yi _) _).alloc (by simp) _).trans (D.mono (by omega))⟩
     ·have hs:decide (u=u/\n=n/\t=t/\m=m/\p=p' /\ ks=A/\h=M/\c=F)=false:=by simp[Ep]
      rw[hs];clear hs
      go_enter Tryz.func78,Tryz.ntmps78
      go_wp2_with (go_at_call 19;refine(I _ (O.out _ _) (T.out _ _)).mono ?_;rintro e w' ⟨rfl,D⟩;simp only[yk] at D;obtain⟨V,Z,l3,l4⟩:=zcI D)
      go_ret
      first
       | exact⟨rfl,((yj _ _).alloc (yi _) _).alloc (by simp) _⟩
       | exact⟨rfl,(((yj _ _).alloc (yi _) _).alloc (by simp) _).trans (D.mono (by omega))⟩
    ·have hs:decide (u=u/\n=n/\t=t/\m=m' /\ p=p' /\ ks=A/\h=M/\c=F)=false:=by simp[Em]
     rw[hs];clear hs
     go_enter Tryz.func78,Tryz.ntmps78
     go_wp2_with (go_at_call 19;refine(I _ (O.out _ _) (T.out _ _)).mono ?_;rintro e w' ⟨rfl,D⟩;simp only[yk] at D;obtain⟨V,Z,l3,l4⟩:=zcI D)
     go_ret
     first
      | exact⟨rfl,((yj _ _).alloc (yi _) _).alloc (by simp) _⟩
      | exact⟨rfl,(((yj _ _).alloc (yi _) _).alloc (by simp) _).trans (D.mono (by omega))⟩
   ·have hs:decide (u=u/\n=n/\t=t' /\ m=m' /\ p=p' /\ ks=A/\h=M/\c=F)=false:=by simp[Et]
    rw[hs];clear hs
    go_enter Tryz.func78,Tryz.ntmps78
    go_wp2_with (go_at_call 19;refine(I _ (O.out _ _) (T.out _ _)).mono ?_;rintro e w' ⟨rfl,D⟩;simp only[yk] at D;obtain⟨V,Z,l3,l4⟩:=zcI D)
    go_ret
    first
     | exact⟨rfl,((yj _ _).alloc (yi _) _).alloc (by simp) _⟩
     | exact⟨rfl,(((yj _ _).alloc (yi _) _).alloc (by simp) _).trans (D.mono (by omega))⟩
  ·have hs:decide (u=u/\n=n' /\ t=t' /\ m=m' /\ p=p' /\ ks=A/\h=M/\c=F)=false:=by simp[En]
   rw[hs];clear hs
   go_enter Tryz.func78,Tryz.ntmps78
   go_wp2_with (go_at_call 19;refine(I _ (O.out _ _) (T.out _ _)).mono ?_;rintro e w' ⟨rfl,D⟩;simp only[yk] at D;obtain⟨V,Z,l3,l4⟩:=zcI D)
   go_ret
   first
    | exact⟨rfl,((yj _ _).alloc (yi _) _).alloc (by simp) _⟩
    | exact⟨rfl,(((yj _ _).alloc (yi _) _).alloc (by simp) _).trans (D.mono (by omega))⟩
 ·have hs:decide (u=u' /\ n=n' /\ t=t' /\ m=m' /\ p=p' /\ ks=A/\h=M/\c=F)=false:=by simp[Eu]
  rw[hs];clear hs
  cases u <;> cases u' <;> first|exact absurd rfl Eu|skip
  all_goals
   go_enter Tryz.func78,Tryz.ntmps78
   go_wp2_with (go_at_call 19;refine(I _ (O.out _ _) (T.out _ _)).mono ?_;rintro e w' ⟨rfl,D⟩;simp only[yk] at D;obtain⟨V,Z,l3,l4⟩:=zcI D)
   go_ret
   first
    | exact⟨rfl,((yj _ _).alloc (yi _) _).alloc (by simp) _⟩
    | exact⟨rfl,(((yj _ _).alloc (yi _) _).alloc (by simp) _).trans (D.mono (by omega))⟩
def zcy(x:Nd):Bool:=if x.u then (if x.n=0 then false else if x.h = -1 then !x.c else decide (x.p = -1)) else decide (x.t=0/\x.m=0/\x.p = -1/\x.ks=[]/\x.h = -1/\x.c=false)
theorem zqd(w:World)(a:Option Addr):zaj w a []:=fun _ A=>absurd A (yr _)
theorem zgF(n A t m p:Int)(ks:List Int)(ka:Option Addr)(kc:Nat)(h:Int)(c:Bool)(w:World)(hn:A=n)(D:ks.length<=9223372036854775807)(h1:zaj w ka ks) :
  Calls Tryz.prog 78 #[.agg #[.bool false,.int .i64 n,.int .i64 t,.int .i64 m,.int .i64 p,.slice ka ks.length kc,.int .i64 h,.bool c],.agg #[.bool false,.int .i64 A,.int .i64 0,.int .i64 0,.int .i64 (-1),.slice none 0 0,.int .i64 (-1),.bool false]] w fun e w' => e=.returned (.bool (decide (t=0/\m=0/\p = -1/\ks=[]/\h = -1/\c=false)))/\Below w.heap.size w w' := by
 subst hn;have H:=zfU false false A A t 0 m 0 p (-1) ks [] ka none kc 0 h (-1) c false w D h1 (zqd _ _)
 have e:decide (false=false/\A=A/\t=0/\m=0/\p = -1/\ks=[]/\h = -1/\c=false)=decide (t=0/\m=0/\p = -1/\ks=[]/\h = -1/\c=false):=by
  congr 1;simp
 rw[e] at H;exact H
theorem zad(W:World)(w:Array Value)(t j:Nat){v:Value}(h:w[j]?=some v):(W.alloc (.cells w t)).cell? ⟨W.heap.size,j,none⟩=some v:=by
 have e:=heap_alloc_new W (.cells w t);simp only[World.cell?,e];exact h
theorem zac{W w:World}{b o:Nat}{v:Value}(h:W.cell? ⟨b,o,none⟩=some v)(A:Below W.heap.size W w):w.cell? ⟨b,o,none⟩=some v:=(A.cell (ye _ _ h)).trans h
theorem zab(w:World)(o1:Obj):Below w.heap.size w (w.alloc o1):=(yj _ _).alloc (yi _) _
theorem zai(w:World)(o1 A:Obj):Below w.heap.size w ((w.alloc o1).alloc A):=((yj _ _).alloc (yi _) _).alloc (by simp) _
theorem zaH(W:World)(w:Array Value)(t j:Nat){v:Value}(A:Obj)(h:w[j]?=some v):((W.alloc (.cells w t)).alloc A).cell? ⟨W.heap.size,j,none⟩=some v:=zac (zad W w t j h) (zab _ _)
theorem zaI(W:World)(w:Array Value)(t j:Nat){v:Value}(o1:Obj)(h:w[j]?=some v):((W.alloc o1).alloc (.cells w t)).cell? ⟨W.heap.size+1,j,none⟩=some v:=by
 have:=zad (W.alloc o1) w t j h;simpa using this
theorem zao{w w' : World}{B e size n:Nat}{v:Value}{D:List Value}(h:w.ownsRow B e size v n D)(J:∀ k,v.ownBlock=some k->w'.heap[k]?=w.heap[k]?):w'.ownsRow B e size v n D:=by
 obtain⟨hl,h⟩:=h;refine⟨hl,?_⟩;rcases h with h |⟨g,cap,A,rfl,h1,F,I⟩
 ·exact Or.inl h
 ·exact Or.inr ⟨g,cap,A,rfl,h1,(J g rfl).trans F,I⟩
theorem zau{w:World}{B B' e size n:Nat}{v:Value}{D:List Value}(h:w.ownsRow B e size v n D)(J:B' <= B):w.ownsRow B' e size v n D:=by
 obtain⟨hl,h⟩:=h;refine⟨hl,?_⟩;rcases h with h |⟨g,cap,A,rfl,h1,F,I⟩
 ·exact Or.inl h
 ·exact Or.inr ⟨g,cap,A,rfl,by omega,F,I⟩
theorem zbH{w:World}{B B' e U size A n n' : Nat}{v Z:Value}{xs M:List Value}(h:w.ownsRow B e size v n xs)(I:w.ownsRow B' U A Z n' M)(J:e≠U):∀ k,v.ownBlock=some k->Z.ownBlock≠some k:=by
 intro k V F;obtain⟨_,h⟩:=h;obtain⟨_,I⟩:=I;rcases h with ⟨rfl,_⟩ |⟨g,cap,a4,rfl,_,h2,_⟩
 ·cases V
 rcases I with ⟨rfl,_⟩ |⟨g', O,T,rfl,_,D,_⟩
 ·cases F
 cases V;cases F;rw[h2] at D;cases D;exact J rfl
theorem zcp{B:Nat}{w2:World}{v:Value}{l:List Int}{n:Nat}(w:w2.ownsRow B 3 1 v n (l.map (Value.int .i64))):∃ I cap,v=.slice I l.length cap/\zaj w2 I l:=by
 have hn:n=l.length:=by have:=w.1;simp at this;omega
 subst hn;obtain⟨hl,h⟩:=w;rcases h with ⟨rfl,h0⟩ |⟨g,cap,A,rfl,_,hg,h1,M,O,J⟩
 ·exact⟨none,0,by rw[h0],fun i D=>by omega⟩
 ·refine⟨some ⟨g,0,none⟩,cap,rfl,fun i D=>⟨g,0,rfl,?_⟩⟩
  have F:(A.toList.take (l.length*1))[i]?=some (.int .i64 (l.getD i 0)):=by
   rw[J,List.getElem?_map,List.getElem?_eq_getElem D,zaf l 0 D];rfl
  rw[List.getElem?_take,yd (by omega)] at F;simp only[yv,World.cell?,hg];simpa using F
theorem znv{w:World}{b t:Nat}{v A:Value}(h:w.heap[b]?=some (.cells #[v] t (0,0))):(w.setCell ⟨b,0,none⟩ A).heap[b]?=some (.cells #[A] t (0,0)):=by
 show (w.heap.modify b _)[b]?=_;rw[Array.getElem?_modify,yd rfl,h];rfl
theorem zbD{w:World}{b t o:Nat}{v:Value}(h:w.heap[b]?=some (.cells #[v] t (0,0))):w.frozen? ⟨b,o,none⟩=false:=by
 simp[World.frozen?,h]
theorem zbr{w:World}{b t:Nat}{v:Value}(h:w.heap[b]?=some (.cells #[v] t (0,0))):w.cell? ⟨b,0,none⟩=some v:=by
 simp[World.cell?,h]
theorem zaC{w:World}{b:Nat}{o:Obj}(h:w.heap[b]?=some o):b<w.heap.size:=(Array.getElem?_eq_some_iff.1 h).1
theorem zmy{w:World}{B g cap:Nat}{l:List Int}{G:Nat->Value}(h:w.rowIs g 3 cap G)(hg:∀ j,j<l.length->G j=.int .i64 (l.getD j 0))(h1:l.length<=cap)(F:cap<=maxLen)(I:B<=g):w.ownsRow B 3 1 (.slice (some ⟨g,0,none⟩) l.length cap) l.length (l.map (Value.int .i64)):=by
 obtain⟨D,J,hs,M⟩:=h;refine⟨by simp,Or.inr ⟨g,cap,D,rfl,I,J,h1,F,by omega,?_⟩⟩;rw[Nat.mul_one];refine List.ext_getElem? fun j=>?_;rw[List.getElem?_take,List.getElem?_map];by_cases A:j<l.length
 ·rw[yd A,Array.getElem?_toList,M j (by omega),hg j A,List.getElem?_eq_getElem A,zaf l 0 A];rfl
 ·rw[ya A,List.getElem?_eq_none (by omega)];rfl
end Go.Proofs.YtgjfmepbphfjoaaGreat
