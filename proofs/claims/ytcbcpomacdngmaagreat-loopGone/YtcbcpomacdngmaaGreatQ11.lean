/-
  x
-/
import Derived.Test.YtcbcpomacdngmaaGreatQ10
namespace Go.Proofs.YtcbcpomacdngmaaGreat
set_option maxRecDepth 100000
set_option maxHeartbeats 4000000
set_option linter.unusedVariables false
open Go.RowKit
def zsk(K:Nat)(D:Array Value)(p:Nd->Bool)(w:World):Prop :=
 ∀ (x:Nd) (k:Value) (E:World),Below w.heap.size w E->Calls Tryz.prog K (#[.agg #[.bool x.u,.int .i64 x.n,.int .i64 x.t,.int .i64 x.m,.int .i64 x.p,k,.int .i64 x.h,.bool x.c]] ++ D) E fun e F=>e=.returned (.bool (p x))/\Below E.heap.size E F
theorem zjj(K:Nat)(E:Array Value)(p:Nd->Bool)(a:Option Addr)(c:Nat)(S:List Nd)(w:World)(a5:S.length<=9223372036854775807)(Z:zah w a S)
  (eg:∀ args w,(callFunc K args).run Tryz.prog w=.ok (.enter K args) w) (hf:zsk K E p w) :
  Calls Tryz.prog 194 #[.slice a S.length c,.func (.func K) #[] E] w fun e w' => ∃ r:Int,e=.returned (.int .i64 r)/\Below w.heap.size w w' /\
   ((r = -1/\∀ i,i<S.length->p (nd S i)=false)\/(∃ k:Nat,k<S.length/\r=k/\p (nd S k)=true/\∀ i,i<k->p (nd S i)=false)):=by
 have HS:Hid (zah w a S):=Z;have HF:Hid (zsk K E p w):=hf;clear Z hf;generalize hn:S.length=n at *;have HN:Hid _:=hn;clear hn
 go_enter Tryz.func194,Tryz.ntmps194
 go_wp2
 go_loopg [8] n (fun g s8 wr=>∃ k:Nat,k<=n/\n-k<=g/\s8=.int .i64 k/\Below w.heap.size w wr/\Hid (∀ i,i<k->p (nd S i)=false))
 case atStart=>exact⟨0,by omega,by omega,rfl,yk _ _,fun i hi=>by omega⟩
 case round =>
  obtain⟨k,hk,hg,rfl,F,A⟩:=hrel;by_cases J:k<n
  ·have a6:(k:Int)<(n:Int):=by omega
   obtain⟨b,o,rfl,c0,c1,c2,c3,c4,⟨ka,kc,c5,_⟩,T,U⟩:=(HS.out.below F) k (by rw[HN.out];exact J);have D:=fun v=>HF.out (nd S k) v wr F
   cases hq:p (nd S k) with
   | true =>
    have M:Hid (p (nd S k)=true):=hq;rw[hq] at D;clear hq;generalize O:nd S k=x at D c0 c1 c2 c3 c4 c5 T U;clear O
    go_wp2_with (go_at_fn K;refine(D _).mono ?_;rintro e w' ⟨rfl,I⟩)
    go_ret;exact⟨k,rfl,F.trans (I.mono F.size),Or.inr ⟨k,J,rfl,M.out,A.out⟩⟩
   | false =>
    have M:Hid (p (nd S k)=false):=hq;rw[hq] at D;clear hq;generalize O:nd S k=x at D c0 c1 c2 c3 c4 c5 T U;clear O
    go_wp2_with (go_at_fn K;refine(D _).mono ?_;rintro e w' ⟨rfl,I⟩)
    go_roundg (n-(k+1))
    case measure=>omega
    case rel =>
     refine⟨k+1,by omega,by omega,by go_num,F.trans (I.mono F.size),(show Hid _ from fun i hi=>?_)⟩;by_cases e:i=k
     ·subst e;exact M.out
     ·exact A.out i (by omega)
  ·have:k=n:=by omega
   subst this
   go_wp2
   go_ret;exact⟨-1,rfl,F,Or.inl ⟨rfl,A.out⟩⟩
def zfs(S:List Nd)(x:Int):Bool:=S.any fun n=>decide (n.h=x)
theorem zgv{S:List Nd}{x:Int}:zfs S x=false↔∀ i,i<S.length->(nd S i).h≠x:=by
 unfold zfs;rw[List.any_eq_false];constructor
 ·intro H i hi e;have:=H (nd S i) (by rw[zbi hi];exact List.getElem_mem hi);simp[e] at this
 ·intro H y D;obtain⟨i,hi,rfl⟩:=List.getElem_of_mem D;have:=H i hi;rw[zbi hi] at this;simpa using this
theorem zpf(x:Nd)(k:Value)(q:Nat)(y:Int)(w:World)(D:w.cell? ⟨q,0,none⟩=some (.int .i64 y)) :
  Calls Tryz.prog 208 #[.agg #[.bool x.u,.int .i64 x.n,.int .i64 x.t,.int .i64 x.m,.int .i64 x.p,k,.int .i64 x.h,.bool x.c],.pointer (some ⟨q,0,none⟩)] w fun e w' => e=.returned (.bool (decide (x.h=y)))/\Below w.heap.size w w' := by
 obtain⟨u,n,t,m,p,ks,h,c⟩:=x;dsimp only;have E:=yd _ _ D;by_cases e:h=y
 ·subst e;rw[decide_eq_true rfl]
  go_enter Tryz.func208,Tryz.ntmps208
  go_wp2
  go_ret;exact⟨rfl,(yk _ _).alloc (yj _) _⟩
 ·rw[decide_eq_false e];have F:(h == y)=false:=by simpa using e
  go_enter Tryz.func208,Tryz.ntmps208
  go_wp2
  go_ret;exact⟨rfl,(yk _ _).alloc (yj _) _⟩
def zbW(S:List Nd)(x:Int):Int:=if x = -1 then -1 else (match S.findIdx? fun n=>decide (n.h=x) with|some k=>(k:Int)|none=>-1)
theorem zrI{S:List Nd}{x:Int}{k:Nat}(I:x≠-1)(D:k<S.length)(h:(nd S k).h=x)(E:∀ i,i<k->(nd S i).h≠x):zbW S x=k:=by
 unfold zbW
 rw[ya I,show S.findIdx? (fun n=>decide (n.h=x))=some k from List.findIdx?_eq_some_iff_getElem.2 ⟨D,by rw[<- zbi D];exact decide_eq_true h,fun j F=>by
  have:=E j F;rw[zbi (by omega)] at this;simpa using this⟩]
theorem zlb{S:List Nd}{x:Int}(h:∀ i,i<S.length->(nd S i).h≠x):zbW S x = -1:=by
 unfold zbW;by_cases D:x = -1
 ·rw[yb D]
 rw[ya D,show S.findIdx? (fun n=>decide (n.h=x))=none from List.findIdx?_eq_none_iff.2 (fun y E=>by
  obtain⟨i,hi,rfl⟩:=List.getElem_of_mem E;have:=h i hi;rw[zbi hi] at this;simpa using this)]
theorem zrH{S:List Nd}{x:Int}(F:x≠-1):decide (zbW S x = -1) = !zfs S x:=by
 cases hb:zfs S x with
 | false=>rw[zlb (zgv.1 hb)];rfl
 | true =>
  have D:zbW S x≠-1:=by
   intro h;unfold zbW at h;rw[ya F] at h
   split at h
   ·omega
   ·next hn =>
    have:=List.findIdx?_eq_none_iff.1 hn;unfold zfs at hb;obtain⟨y,I,E⟩:=List.any_eq_true.1 hb;rw[this y I] at E;cases E
  rw[decide_eq_false D];rfl
theorem zdk(a:Option Addr)(c:Nat)(S:List Nd)(x:Int)(w:World)(hN:S.length<=9223372036854775807)(M:zah w a S) :
  Calls Tryz.prog 196 #[.agg #[.slice a S.length c],.int .i64 x] w fun e w' => e=.returned (.int .i64 (zbW S x))/\Below w.heap.size w w' := by
 have HS:Hid (zah w a S):=M;by_cases J:x = -1
 ·have I:zbW S x = -1:=by unfold zbW;rw[yb J]
  rw[I];subst J;clear M I;generalize S.length=n at *
  go_enter Tryz.func196,Tryz.ntmps196
  go_wp2
  go_ret;exact⟨rfl,((yk _ _).alloc (yj _) _).alloc (by simp) _⟩
 ·have hT:∀ F:World,F.cell? ⟨w.heap.size+1,0,none⟩=some (.int .i64 x)->zsk 208 #[.pointer (some ⟨w.heap.size+1,0,none⟩)] (fun n=>decide (n.h=x)) F:=fun F h1 y k w2 T =>
   zpf y k (w.heap.size+1) x w2 ((T.cell (yd F _ h1)).trans h1)
  have D:Hid (∀ (W:World),zah W a S->W.cell? ⟨w.heap.size+1,0,none⟩=some (.int .i64 x)->Calls _ _ _ _ _):=fun W h1 h2=>zjj 208 #[.pointer (some ⟨w.heap.size+1,0,none⟩)] (fun n=>decide (n.h=x)) a c S W hN h1 (enters_of Tryz.func208 (by kernel_rfl) rfl) (hT W h2);have H1:Hid (∀ k,k<S.length->decide ((nd S k).h=x)=true->(∀ i,i<k->decide ((nd S i).h=x)=false)->zbW S x=k):=fun k Z h U=>zrI J Z (of_decide_eq_true h) (fun i hi=>of_decide_eq_false (U i hi));have H2:Hid ((∀ i,i<S.length->decide ((nd S i).h=x)=false)->zbW S x = -1):=fun h=>zlb (fun i hi=>of_decide_eq_false (h i hi));have a5:(x == -1)=false:=by simpa using J
  clear M hT
  go_enter Tryz.func196,Tryz.ntmps196
  go_wp2_with (first
   |(go_at_call 194;refine(D.out _ (HS.out.below (((yk _ _).alloc (yj _) _).alloc (by simp) _)) (by go_simp)).mono ?_;rintro e F ⟨r,rfl,O,I⟩)
   | go_in)
  go_ret;refine⟨?_,(((yk _ _).alloc (yj _) _).alloc (by simp) _).trans (O.mono (by simp;omega))⟩;rcases I with ⟨rfl,E⟩ |⟨k,Z,rfl,hp,U⟩
  ·rw[H2.out E];rfl
  ·rw[H1.out k Z hp U];rfl
theorem zeb(a:Option Addr)(c:Nat)(S:List Nd)(x:Int)(w:World)(T:S.length<=9223372036854775807)(M:zah w a S)(O:x≠-1) :
  Calls Tryz.prog 184 #[.agg #[.slice a S.length c],.int .i64 x] w fun e w' => e=.returned (.bool (zfs S x))/\Below w.heap.size w w' := by
 have D:Hid (∀ (W:World),zah W a S->Calls _ _ _ _ _):=fun W U=>zdk a c S x W T U;have J:Hid (zah w a S):=M;have I:=zrH (S:=S) O;clear M O;generalize S.length=n at *;generalize zbW S x=r at *
 cases hb:zfs S x with
 | true =>
  rw[hb] at I;have F:(r == -1)=false:=by simpa using I
  clear I hb
  go_enter Tryz.func184,Tryz.ntmps184
  go_wp2_with (go_at_call 196;refine(D.out _ (J.out.below ((yk _ _).alloc (yj _) _))).mono ?_;rintro e Z ⟨rfl,E⟩)
  go_ret;refine⟨?_,((yk _ _).alloc (yj _) _).trans (E.mono (by simp))⟩;show Ending.returned (.bool (r != -1))=_;simp[bne,F]
 | false =>
  rw[hb] at I;have F:r = -1:=by simpa using I
  subst F;clear I hb
  go_enter Tryz.func184,Tryz.ntmps184
  go_wp2_with (go_at_call 196;refine(D.out _ (J.out.below ((yk _ _).alloc (yj _) _))).mono ?_;rintro e Z ⟨rfl,E⟩)
  go_ret;exact⟨rfl,((yk _ _).alloc (yj _) _).trans (E.mono (by simp))⟩
theorem zkr(a:Option Addr)(c:Nat)(S:List Nd)(w:World)(hn:S.length<=9223372036854775807)(I:zah w a S)(D:S.any zco=false) :
  Calls Tryz.prog 194 #[.slice a S.length c,.func (.func 195) #[] #[]] w fun e w' => e=.returned (.int .i64 (-1))/\Below w.heap.size w w' :=
 (zjj 195 #[] zco a c S w hn I (enters_of Tryz.func195 (by kernel_rfl) rfl) (fun x k T _=>zkO x k T)).mono (fun e w' ⟨r,F,J,O⟩=>by
  rcases O with ⟨rfl,_⟩ |⟨k,E,_,M,_⟩
  ·exact⟨F,J⟩
  ·have:=List.any_eq_false.1 D (nd S k) (by rw[zbi E];exact List.getElem_mem E);exact absurd M this)
def zfu(S:List Nd)(t:Int):Int:=if zbq S=0 then (if 0<=t/\t<=99 then (if S.any zco then 0 else 1) else 2) else zbq S
theorem zqL{S:List Nd}(h:S.any zco=true):∃ k,k<S.length/\zco (nd S k)=true/\∀ i,i<k->zco (nd S i)=false:=by
 obtain⟨x,I,F⟩:=List.any_eq_true.1 h;obtain⟨i,hi,rfl⟩:=List.getElem_of_mem I;rw[<- zbi hi] at F;clear I h
 induction i using Nat.strongRecOn with
 | ind i J =>
  by_cases hex:∃ j,j<i/\zco (nd S j)=true
  ·obtain⟨j,E,D⟩:=hex;exact J j E (by omega) D
  ·refine⟨i,hi,F,fun j E=>?_⟩
   cases hq:zco (nd S j) with
   | false=>rfl
   | true=>exact absurd ⟨j,E,hq⟩ hex
theorem zpM(a:Option Addr)(c:Nat)(S:List Nd)(t E:Int)(w:World)(hN:S.length<=9223372036854775807)(hB:Big S)(hS:zah w a S)(I:zfu S t=E)(J:E≠0) :
  Calls Tryz.prog 182 #[.agg #[.slice a S.length c],.int .i64 t] w fun e w' => e=.returned (.tuple #[.agg #[.slice none 0 0],.agg #[.int .i64 0,.int .i64 0],.int .i64 E])/\Below w.heap.size w w' := by
 have d0:=fun W hW=>zdT a c S W hN hB hW;have HS:Hid (zah w a S):=hS;unfold zfu at I;by_cases hc:zbq S=0
 ·rw[yb hc] at I;rw[hc] at d0;have D0:Hid _:=d0;by_cases ht:0<=t/\t<=99
  ·rw[yb ht] at I
   cases hf:S.any zco with
   | true=>rw[hf] at I;exact absurd I.symm J
   | false =>
    rw[hf,ya (by simp)] at I;have DF:Hid (∀ W,zah W a S->Calls _ _ _ _ _):=fun W hW=>zkr a c S W hN hW hf;obtain⟨a8,a9⟩:=ht;subst I;clear hS d0 hB hc hf J;generalize S.length=n at *
    go_enter Tryz.func182,Tryz.ntmps182
    go_wp2_with (go_at_call 42;refine(D0.out _ (HS.out.below (zar _ _ _ _))).mono ?_;rintro e w0 ⟨rfl,D⟩;simp only[yr] at D;obtain⟨l0,O,T,U,z1,z2,z3⟩:=zdA D;have F:Below w.heap.size w w0:=(zar _ _ _ _).trans (D.mono (by omega)))
    go_wp2_with (go_at_call 66;refine(zes _ _ _ _ (by omega) (by omega)).mono ?_;rintro e w' ⟨rfl,rfl⟩)
    refine(DF.out _ (HS.out.below F)).mono ?_;rintro e w1 ⟨rfl,M⟩;have a6:=D.size;simp only[yr] at a6;have a5:=D.trans (M.mono a6);have Z:Below w.heap.size w w1:=(zar _ _ _ _).trans (a5.mono (by omega));clear l0 O T U z1 z2 z3 D M F;obtain⟨l0,O,T,U,z1,z2,z3⟩:=zdA a5
    go_wp2
    refine yv (v:=.tuple #[.agg #[.slice none 0 0],.agg #[.int .i64 0,.int .i64 0],.int .i64 1]) (by simp[results,Tryz.results182,go_sem,O,T,U]) rfl ⟨rfl,?_⟩
    first|exact((Z.setCell (by simp) _).setCell (by simp;omega) _).setCell (by simp;omega) _|exact(((Z.setCell (by simp) _).setCell (by simp;omega) _).setCell (by simp;omega) _).drew
  ·rw[ya ht] at I;have a7:t<0\/99<t:=by omega
   subst I;clear hS d0 hB hc ht J;generalize S.length=n at *
   go_enter Tryz.func182,Tryz.ntmps182
   go_wp2_with (go_at_call 42;refine(D0.out _ (HS.out.below (zar _ _ _ _))).mono ?_;rintro e w0 ⟨rfl,D⟩;simp only[yr] at D;obtain⟨l0,O,T,U,z1,z2,z3⟩:=zdA D;have F:Below w.heap.size w w0:=(zar _ _ _ _).trans (D.mono (by omega)))
   go_wp2_with (go_at_call 66;refine(zhq _ _ _ _ a7).mono ?_;rintro e w' ⟨rfl,rfl⟩)
   refine yv (v:=.tuple #[.agg #[.slice none 0 0],.agg #[.int .i64 0,.int .i64 0],.int .i64 2]) (by simp[results,Tryz.results182,go_sem,O,T,U]) rfl ⟨rfl,?_⟩
   first|exact((F.setCell (by simp) _).setCell (by simp;omega) _).setCell (by simp;omega) _|exact(((F.setCell (by simp) _).setCell (by simp;omega) _).setCell (by simp;omega) _).drew
 ·rw[ya hc] at I;rw[I] at d0;have D0:Hid _:=d0;have hz:(E == 0)=false:=by simp[J]
  clear hS d0 I hB hc;generalize S.length=n at *
  go_enter Tryz.func182,Tryz.ntmps182
  go_wp2_with (go_at_call 42;refine(D0.out _ (HS.out.below (zar _ _ _ _))).mono ?_;rintro e w0 ⟨rfl,D⟩;simp only[yr] at D;obtain⟨l0,O,T,U,z1,z2,z3⟩:=zdA D;have F:Below w.heap.size w w0:=(zar _ _ _ _).trans (D.mono (by omega)))
  refine yv (v:=.tuple #[.agg #[.slice none 0 0],.agg #[.int .i64 0,.int .i64 0],.int .i64 E]) (by simp[results,Tryz.results182,go_sem,O,T,U]) rfl ⟨rfl,?_⟩
  first|exact((F.setCell (by simp) _).setCell (by simp;omega) _).setCell (by simp;omega) _|exact(((F.setCell (by simp) _).setCell (by simp;omega) _).setCell (by simp;omega) _).drew
def zcU(x:Nd):Nd:=⟨false,x.n,0,0,-1,[],-1,false⟩
def zgi(S:List Nd)(k:Nat):Prop:=zal (nd S k) = -1/\(nd S k).ks=[]/\zfs S k=false
theorem WF.like{S A:List Nd}(h:WF S)(hl:A.length=S.length)(hn:∀ i,i<S.length->zfy S.length (nd A i)=0)
  (hs:∀ i,i<S.length->(nd A i).p=(nd S i).p/\(nd A i).ks=(nd S i).ks/\(nd A i).h=(nd S i).h)
  (T:∀ i,i<S.length->(nd S i).u=true->(nd A i).u=true\/∀ j,j<S.length->(i:Int) ∉ (nd S j).ks/\(nd S j).h≠i):WF A:=by
 refine⟨by rw[hl];exact h.small,fun i hi=>by rw[hl] at hi |-;exact hn i hi,zft (fun i hi=>?_) (fun i hi x I=>?_) (fun j F D=>?_),fun i hi=>?_,fun i hi=>?_⟩
 ·rw[hl] at hi;rw[(hs i hi).2.1];exact h.kids_nodup hi
 ·rw[hl] at hi |-;rw[(hs i hi).2.1] at I;obtain⟨k,rfl,J,k2,k3,_⟩:=h.kid hi I;refine⟨k,rfl,J,?_,by rw[(hs k J).1];exact k3⟩;rcases T k J k2 with g|g
  ·exact g
  ·exact absurd I (g i hi).1
 ·rw[hl] at F |-;rw[(hs j F).1] at D;obtain⟨i,i1,i2,_,i3,_⟩:=h.parent_place F D;exact⟨i,i2,by rw[(hs i i2).2.1];exact i3⟩
 ·rw[hl] at hi;intro hh;rw[(hs i hi).2.2] at hh |-;obtain⟨g1,g2⟩:=h.hosts i hi hh;have M:=(zhh (zhi (h.node i hi))).2.1;obtain⟨q,O⟩:∃ q:Nat,(nd S i).h=(q:Int):=⟨(nd S i).h.toNat,by omega⟩;refine⟨?_,fun Z E=>by rw[(hs Z (by omega)).2.2];exact g2 Z E⟩;rw[O,yi] at g1 |-;rcases T q (by omega) g1 with g|g
  ·exact g
  ·exact absurd O (g i hi).2
 ·rw[hl] at hi
  cases M:zbt A i i with
  | false=>rfl
  | true =>
   obtain⟨j,j1,j2,j3⟩:=zga (by rw[hl];exact hi) M;rw[hl] at j2;exact absurd (zml hl (fun y U z e=>by unfold zal at e |-;rw[(hs y U).1,(hs y U).2.2] at e;exact e) hi j3) (h.no_ring hi j1 j2)
theorem WF.unused{S:List Nd}(h:WF S){k:Nat}(E:k<S.length)(F:(nd S k).u=false):(nd S k).t=0/\(nd S k).m=0/\(nd S k).p = -1/\(nd S k).ks=[]/\(nd S k).h = -1/\(nd S k).c=false:=by
 have D:=(zbg (h.node k E)).2.2;unfold zdZ at D;rw[F] at D;exact of_decide_eq_true D
theorem WF.uses{S:List Nd}(h:WF S){k:Nat}(E:k<S.length):0<=(nd S k).n/\(nd S k).n<=1000000/\((nd S k).u=true->1<=(nd S k).n):=by
 obtain⟨h1,_,D⟩:=zbg (h.node k E);unfold zcS at h1;simp only[Bool.and_eq_true,decide_eq_true_eq] at h1;refine⟨h1.1.1,h1.1.2,fun F=>?_⟩;unfold zdZ at D;rw[yb F] at D;by_cases e:(nd S k).n=0
 ·rw[yb e] at D;cases D
 ·have:=h1.1.1;omega
theorem zfO{x:Nd}(h:zco x=true):x.u=false/\x.n<1000000:=by
 unfold zco at h;simpa using h
theorem WF.make{S:List Nd}(h:WF S){k:Nat}{t:Int}(D:k<S.length)(M:zco (nd S k)=true)(F:0<=t)(I:t<=99):WF (S.set k (zbP (nd S k) t)):=by
 obtain⟨O,hn⟩:=zfO M;obtain⟨q1,J,q3,q4,q5,q6⟩:=h.unused D O;obtain⟨n0,n1,_⟩:=h.uses D;refine h.like (by simp) (fun i hi=>?_) (fun i hi=>?_) (fun i hi E=>?_)
 ·rw[zct S k i _ D];split
  ·rename_i e;subst e;obtain⟨r1,r2,r3⟩:=zbg (h.node i hi);obtain⟨T,U,Z⟩:=zeI r2;refine zgB ?_ (zeH T U Z) ?_
   ·unfold zcS zbP;simp only[Bool.and_eq_true,decide_eq_true_eq];exact⟨⟨by omega,by omega⟩,⟨F,I⟩,by rw[J];omega,by rw[J];omega⟩
   ·unfold zdZ zbP;simp only[if_true];rw[ya (by omega),yb q5,q6];rfl
  ·exact h.node i hi
 ·rw[zct S k i _ D];split
  ·rename_i e;subst e;exact⟨rfl,rfl,rfl⟩
  ·exact⟨rfl,rfl,rfl⟩
 ·rw[zct S k i _ D];split
  ·exact Or.inl rfl
  ·exact Or.inl E
theorem zoL{S:List Nd}{k:Nat}(h:zgi S k):(nd S k).p = -1/\(nd S k).h = -1/\(nd S k).ks=[]/\∀ j,j<S.length->(nd S j).h≠k:=by
 obtain⟨h1,D,E⟩:=h;unfold zal at h1;by_cases e:(nd S k).h = -1
 ·rw[yb e] at h1;exact⟨h1,e,D,zgv.1 E⟩
 ·rw[ya e] at h1;exact absurd h1 e
theorem WF.free{S:List Nd}(h:WF S){k:Nat}(D:k<S.length)(O:zgi S k):WF (S.set k (zcU (nd S k))):=by
 obtain⟨J,hh,F,M⟩:=zoL O;obtain⟨U,Z,_⟩:=h.uses D;refine h.like (by simp) (fun i hi=>?_) (fun i hi=>?_) (fun i hi E=>?_)
 ·rw[zct S k i _ D];split
  ·rename_i e;subst e;refine zgB ?_ (zeH ?_ ?_ (fun y T=>absurd T (by simp[zcU]))) ?_
   ·unfold zcS zcU;simp only[Bool.and_eq_true,decide_eq_true_eq];exact⟨⟨U,Z⟩,by omega,by omega⟩
   ·unfold zcU zlU;exact decide_eq_true ⟨by dsimp only;omega,by dsimp only;omega⟩
   ·unfold zcU zlU;exact decide_eq_true ⟨by dsimp only;omega,by dsimp only;omega⟩
   ·unfold zdZ zcU;simp
  ·exact h.node i hi
 ·rw[zct S k i _ D];split
  ·rename_i e;subst e;exact⟨J.symm,F.symm,hh.symm⟩
  ·exact⟨rfl,rfl,rfl⟩
 ·by_cases e:i=k
  ·subst e;exact Or.inr (fun j I=>⟨h.not_kid J I,M j I⟩)
  ·rw[zct S k i _ D,ya e];exact Or.inl E
theorem zAE(n:Nat)(hn:n<=24):WF (List.replicate n zbc):=by
 have D:∀ i,i<n->nd (List.replicate n zbc) i=zbc:=fun i hi=>zfx n i _ hi;have hl:(List.replicate n zbc).length=n:=by simp
 refine⟨by rw[hl];exact hn,fun i hi=>?_,zft (fun i hi=>?_) (fun i hi x I=>?_) (fun j F E=>?_),fun i hi=>?_,fun i hi=>?_⟩
 ·rw[hl] at hi |-;rw[D i hi];refine zgB (by decide) (zeH ?_ ?_ (fun y O=>absurd O (by simp[zbc]))) (by decide)
  ·unfold zbc zlU;exact decide_eq_true ⟨by dsimp only;omega,by dsimp only;omega⟩
  ·unfold zbc zlU;exact decide_eq_true ⟨by dsimp only;omega,by dsimp only;omega⟩
 ·rw[hl] at hi;rw[D i hi];exact List.nodup_nil
 ·rw[hl] at hi;rw[D i hi] at I;cases I
 ·rw[hl] at F;rw[D j F] at E;exact absurd rfl E
 ·rw[hl] at hi;intro hh;rw[D i hi] at hh;exact absurd rfl hh
 ·cases hb:zbt (List.replicate n zbc) i i with
  | false=>rfl
  | true =>
   obtain⟨j,U,Z,T⟩:=zga hi hb;obtain⟨M,rfl⟩:∃ M,j=M+1:=⟨j-1,by omega⟩;obtain⟨z,_,J,_⟩:=T;rw[hl] at hi;rw[D i hi] at J;have:(-1:Int)=(z:Int):=J;omega
def zhM(S:List Nd):Nat->Int->List Int
 | 0,_=>[]
 | f+1,x=>if zik S.length x then x :: zhM S f (zal (nd S x.toNat)) else []
def zfc(S:List Nd)(k:Nat):List Int:=(k:Int) :: zhM S S.length (zal (nd S k))
theorem zpK(S:List Nd):∀ (f:Nat) (x:Int),(zhM S f x).length<=f
 | 0,_=>by simp[zhM]
 | f+1,x=>by
  simp only[zhM];split
  ·have:=zpK S f (zal (nd S x.toNat));simp;omega
  ·simp
theorem zpU(S:List Nd)(k:Nat):(zfc S k).length<=S.length+1:=by
 have:=zpK S S.length (zal (nd S k));unfold zfc;simp;omega
theorem zwj{N k:Nat}:zik N (k:Int)=true↔k<N:=by
 unfold zik;rw[decide_eq_true_eq];omega
theorem znf{S:List Nd}:∀ {f:Nat} {x:Int},(∀ (D j z:Nat),x=D->D<S.length->Up S j D z->j<f)->zhM S (f+1) x=zhM S f x
 | 0,x,h=>by
  simp only[zhM];split
  ·rename_i E;have F:0<=x/\x<=(S.length:Int)-1:=of_decide_eq_true E;obtain⟨D,rfl⟩:∃ D:Nat,x=D:=⟨x.toNat,by omega⟩;exact absurd (h D 0 D rfl (by omega) rfl) (by omega)
  ·rfl
 | f+1,x,h=>by
  rw[zhM]
  conv=>rhs;rw[zhM]
  split
  ·rename_i E;have F:0<=x/\x<=(S.length:Int)-1:=of_decide_eq_true E;obtain⟨D,rfl⟩:∃ D:Nat,x=D:=⟨x.toNat,by omega⟩;rw[yi];rw[znf (fun M j z e J I=>?_)];have:=h D (j+1) z rfl (by omega) ⟨M,J,e,I⟩;omega
  ·rfl
theorem WF.path_up{S:List Nd}(h:WF S){k q:Nat}(I:k<S.length)(J:q<S.length)(E:zal (nd S k)=q):zfc S k=(k:Int) :: zfc S q:=by
 unfold zfc;rw[E]
 congr 1
 obtain⟨N,D⟩:∃ N,S.length=N+1:=⟨S.length-1,by omega⟩
 have F:zhM S S.length (q:Int)=(q:Int) :: zhM S N (zal (nd S q)):=by
  rw[D,zhM,D,yb (zwj.2 (by omega)),yi]
 rw[F,D]
 congr 1
 rw[znf];intro T j z e O M;have:=h.up_short I (j:=j+2) (z:=z) ⟨q,J,E,⟨T,O,e,M⟩⟩;omega
theorem ztt{W:World}{B:Nat}{v:Value}{p E x F q qu:Int}(h:W.ownsRow B 61 2 v 3 ([.int .i64 p,.int .i64 E,.int .i64 x,.int .i64 F] ++ [.int .i64 q,.int .i64 qu])):∃ ha hc,v=.slice ha 3 hc/\zas W ha [(p,E),(x,F),(q,qu)]:=by
 obtain⟨_,h⟩:=h;rcases h with ⟨_,h⟩ |⟨g,cap,D,rfl,_,hg,h1,M,O,I⟩
 ·omega
 ·refine⟨_,_,rfl,fun i hi=>?_⟩
  have hc:∀ j u,([.int .i64 p,.int .i64 E,.int .i64 x,.int .i64 F,.int .i64 q,.int .i64 qu]:List Value)[j]?=some u->j<6->W.cell? ⟨g,j,none⟩=some u:=fun j u J hl=>by
   have h5:(D.toList.take (3*2))[j]?=some u:=by rw[I];simpa using J
   rw[List.getElem?_take,yb (by omega)] at h5;simp only[World.cell?,hg];simpa using h5
  match i,hi with
  | 0,_=>exact⟨g,0,rfl,hc 0 _ rfl (by omega),hc 1 _ rfl (by omega)⟩
  | 1,_=>exact⟨g,0,rfl,hc 2 _ rfl (by omega),hc 3 _ rfl (by omega)⟩
  | 2,_=>exact⟨g,0,rfl,hc 4 _ rfl (by omega),hc 5 _ rfl (by omega)⟩
def SK:Nat->List Nd
 | 0=>List.replicate 6 zbc
 | k+1=>(SK k).set k (zbP (nd (SK k) k) k)
def S4:List Nd:=zbj (SK 3) 0 1 0
theorem zfz{w:World}{B B' e size n:Nat}{v:Value}{F:List Value}(h:w.ownsRow B e size v n F)(M:B' <= B):w.ownsRow B' e size v n F:=by
 obtain⟨h1,E⟩:=h;refine⟨h1,?_⟩;rcases E with E |⟨g,cap,D,I,J,h5⟩
 ·exact Or.inl E
 ·exact Or.inr ⟨g,cap,D,I,yE M J,h5⟩
theorem zwc:(Tryz.prog.info? 4).map (fun i=>(i.zero,i.size,i.bytes))=some (some (.bool false),1,1):=by kernel_rfl
theorem ztK(n:Nat)(hn:n<=24)(w:World):(Instr.makeSlice 259 (.int .i64 (n:Int)) (.int .i64 (n:Int))).run Tryz.prog w=.ok (.slice (some ⟨w.heap.size,0,none⟩) n n) (w.alloc (.cells (madeCells #[.bool false] n) 4)) :=
 run_make_row' (P:=Tryz.prog) 259 4 (.bool false) 1 Tryz.underlying259 zwc rfl .i64 .i64 n (by omega) (by omega) w
theorem zlc{w:World}{B g n cap:Nat}{ks:List Int}(h:w.ownsRow B 3 1 (.slice (some ⟨g,0,none⟩) n cap) n (ks.map (Value.int .i64))):B<=g/\n<=cap/\cap<=maxLen/\ks.length=n/\∃ G,w.rowIs g 3 cap G/\∀ j,j<n->G j=.int .i64 (ks.getD j 0):=by
 obtain⟨hl,h⟩:=h;rw[List.length_map,Nat.mul_one] at hl;rcases h with ⟨h,_⟩ |⟨U,E,D,e,h1,J,M,O,h5,F⟩
 ·cases h
 ·cases e;rw[Nat.mul_one] at h5 F;refine⟨h1,M,O,hl,fun j=>D[j]?.getD undef,⟨D,J,h5,fun i hi=>?_⟩,fun j T=>?_⟩
  ·show D[i]?=some (D[i]?.getD undef);rw[Array.getElem?_eq_getElem (by omega)];rfl
  ·have I:(D.toList.take n)[j]?=(ks.map (Value.int .i64))[j]?:=by rw[F]
   rw[List.getElem?_take,yb T,List.getElem?_map,List.getElem?_eq_getElem (l:=ks) (by omega)] at I;show D[j]?.getD undef=_;rw[<- Array.getElem?_toList,I,zae ks 0 (by omega)];rfl
theorem zeg{w:World}{B:Nat}{v:Value}{ks:List Int}(h:w.ownsRow B 3 1 v ks.length (ks.map (Value.int .i64))):∃ pa pc,v=.slice pa ks.length pc/\zaj w pa ks/\(∀ k,v.ownBlock=some k->B<=k/\k<w.heap.size):=by
 have D:=h.lt;rcases h.2 with ⟨e,I⟩ |⟨g,cap,F,e,_⟩
 ·have O:ks=[]:=List.length_eq_zero_iff.1 I;subst O;exact⟨none,0,e,fun i hi=>absurd hi (yw _),D⟩
 ·subst e;obtain⟨_,J,_,_,G,M,E⟩:=zlc h;exact⟨some ⟨g,0,none⟩,cap,rfl,zbO M J E,D⟩
end Go.Proofs.YtcbcpomacdngmaaGreat
