/-
  x
-/
import Derived.Test.YtcbcpomacdngmaaGreatA8
import Derived.BigRegion
namespace Go.Proofs.YtcbcpomacdngmaaGreat
set_option maxRecDepth 100000
set_option maxHeartbeats 4000000
set_option linter.unusedVariables false
open Go.RowKit Tryz
variable{S:List Nd}{k B n:Nat}{x:Int}{v:Value}{w:Wd}{ks:List Int}
def IW(K:Nat)(D:Array Value)(p:Nd->Bool)(w:Wd):Prop :=
 ∀ (x:Nd) (k:Value) (w1:Wd),Bl w w1->yO K (#[.agg #[.bool x.u,.int .i64 x.n,.int .i64 x.t,.int .i64 x.m,.int .i64 x.p,k,.int .i64 x.h,.bool x.c]] ++ D) w1 fun e w2=>e=.returned (.bool (p x))/\Below w1.heap.size w1 w2
theorem QO(K:Nat)(E:Array Value)(p:Nd->Bool)(a:OA)(c:Nat)(S:List Nd)(w:Wd)(Z:S.length<=9223372036854775807)(U:aD w a S)
  (eg:∀ args w,(callFunc K args).run prog w=.ok (.enter K args) w) (hf:IW K E p w) :
  yO 194 #[.slice a S.length c,.func (.func K) #[] E] w fun e w' => ∃ r:Int,e=.returned (.int .i64 r)/\Below w.heap.size w w' /\
   ((r = -1/\∀ i,i<S.length->p (nd S i)=false)\/(∃ k:Nat,k<S.length/\r=k/\p (nd S k)=true/\∀ i,i<k->p (nd S i)=false)):=by
 have HS:Hid (aD w a S):=U;have HF:Hid (IW K E p w):=hf;clear U hf;generalize hn:S.length=n at *;have HN:Hid _:=hn;clear hn
 go_enter func194,ntmps194
 go_wp2
 go_loopg [8] n (fun g s8 wr=>∃ k:Nat,k<=n/\n-k<=g/\s8=.int .i64 k/\Below w.heap.size w wr/\Hid (∀ i,i<k->p (nd S i)=false))
 case atStart=>exact⟨0,oaa,oaa,rfl,yv _ _,fun i hi=>oaa⟩
 case round =>
  obtain⟨k,hk,hg,rfl,hb,A⟩:=hrel;by_cases I:k<n
  ·have a5:(k:Int)<(n:Int):=oaa;obtain⟨b,o,rfl,c0,c1,c2,c3,c4,⟨ka,kc,c5,_⟩,O,T⟩:=(HS.below hb) k (by rw[HN.out];exact I);have D:=fun v=>HF.out (nd S k) v wr hb
   cases hq:p (nd S k) with
   | true =>
    have J:Hid (p (nd S k)=true):=hq;rw[hq] at D;clear hq;generalize M:nd S k=x at D c0 c1 c2 c3 c4 c5 O T;clear M
    go_wp2_with (go_at_fn K;refine(D _).mono ?_;rintro e w' ⟨rfl,F⟩)
    go_ret;exact⟨k,rfl,hb.trans (F.mono hb.size),Or.inr ⟨k,I,rfl,J.out,A.out⟩⟩
   | false =>
    have J:Hid (p (nd S k)=false):=hq;rw[hq] at D;clear hq;generalize M:nd S k=x at D c0 c1 c2 c3 c4 c5 O T;clear M
    go_wp2_with (go_at_fn K;refine(D _).mono ?_;rintro e w' ⟨rfl,F⟩)
    go_roundg (n-(k+1))
    case measure=>omega
    case rel =>
     refine⟨k+1,oaa,oaa,by go_num,hb.trans (F.mono hb.size),(show Hid _ from fun i hi=>?_)⟩;by_cases e:i=k
     ·subst e;exact J.out
     ·exact A.out i oaa
  ·have:k=n:=oaa;subst this
   go_wp2
   go_ret;exact⟨-1,rfl,hb,Or.inl ⟨rfl,A.out⟩⟩
def iD(S:List Nd)(x:Int):Bool:=S.any fun n=>decide (n.h=x)
theorem IX:iD S x=false↔∀ i,i<S.length->(nd S i).h≠x:=by
 unfold iD;rw[List.any_eq_false];constructor
 ·intro H i hi e;have:=H (nd S i) (by rw[eQ hi];exact List.getElem_mem hi);simp[e] at this
 ·intro H y D;obtain⟨i,hi,rfl⟩:=List.getElem_of_mem D;have:=H i hi;rw[eQ hi] at this;simpa using this
theorem Dh(x:Nd)(k:Value)(q:Nat)(y:Int)(w:Wd)(D:w.cell? ⟨q,0,none⟩=some (.int .i64 y)) :
  yO 208 #[.agg #[.bool x.u,.int .i64 x.n,.int .i64 x.t,.int .i64 x.m,.int .i64 x.p,k,.int .i64 x.h,.bool x.c],.pointer (some ⟨q,0,none⟩)] w fun e w' => e=.returned (.bool (decide (x.h=y)))/\Below w.heap.size w w' := by
 obtain⟨u,n,t,m,p,ks,h,c⟩:=x;dsimp only;have E:=yi _ _ D;by_cases e:h=y
 ·subst e;rw[yI rfl]
  go_enter func208,ntmps208
  go_wp2
  go_ret;exact⟨rfl,(yv _ _).alloc (yr _) _⟩
 ·rw[yH e];have F:(h == y)=false:=by simpa using e
  go_enter func208,ntmps208
  go_wp2
  go_ret;exact⟨rfl,(yv _ _).alloc (yr _) _⟩
def dA(S:List Nd)(x:Int):Int:=if x = -1 then -1 else (match S.findIdx? fun n=>decide (n.h=x) with|some k=>(k:Int)|none=>-1)
theorem Dj(I:x≠-1)(D:k<S.length)(h:(nd S k).h=x)(E:∀ i,i<k->(nd S i).h≠x):dA S x=k:=by
 unfold dA
 rw[yd I,show S.findIdx? (fun n=>decide (n.h=x))=some k from List.findIdx?_eq_some_iff_getElem.2 ⟨D,by rw[<- eQ D];exact yI h,fun j F=>by
  have:=E j F;rw[eQ oaa] at this;simpa using this⟩]
theorem QR(h:∀ i,i<S.length->(nd S i).h≠x):dA S x = -1:=by
 unfold dA;by_cases D:x = -1
 ·rw[ye D]
 rw[yd D,show S.findIdx? (fun n=>decide (n.h=x))=none from List.findIdx?_eq_none_iff.2 (fun y E=>by
  obtain⟨i,hi,rfl⟩:=List.getElem_of_mem E;have:=h i hi;rw[eQ hi] at this;simpa using this)]
theorem Dk(F:x≠-1):decide (dA S x = -1) = !iD S x:=by
 cases hb:iD S x with
 | false=>rw[QR (IX.1 hb)];rfl
 | true =>
  have D:dA S x≠-1:=by
   intro h;unfold dA at h;rw[yd F] at h
   split at h
   ·omega
   ·next hn =>
    have:=List.findIdx?_eq_none_iff.1 hn;unfold iD at hb;obtain⟨y,I,E⟩:=List.any_eq_true.1 hb;rw[this y I] at E;cases E
  rw[yH D];rfl
theorem uC(a:OA)(c:Nat)(S:List Nd)(x:Int)(w:Wd)(hN:S.length<=9223372036854775807)(J:aD w a S) :
  yO 196 #[.agg #[.slice a S.length c],.int .i64 x] w fun e w' => e=.returned (.int .i64 (dA S x))/\Below w.heap.size w w' := by
 have HS:Hid (aD w a S):=J;by_cases I:x = -1
 ·have F:dA S x = -1:=by unfold dA;rw[ye I]
  rw[F];subst I;clear J F;generalize S.length=n at *
  go_enter func196,ntmps196
  go_wp2
  go_ret;exact⟨rfl,((yv _ _).alloc (yr _) _).alloc oac _⟩
 ·have Z:∀ w1:World,w1.cell? ⟨w.heap.size+1,0,none⟩=some (.int .i64 x)->IW 208 #[.pointer (some ⟨w.heap.size+1,0,none⟩)] (fun n=>decide (n.h=x)) w1:=fun w1 h1 y k w2 O =>
   Dh y k (w.heap.size+1) x w2 ((O.cell (yi w1 _ h1)).trans h1)
  have D:Hid (∀ (W:Wd),aD W a S->W.cell? ⟨w.heap.size+1,0,none⟩=some (.int .i64 x)->Calls _ _ _ _ _):=fun W h1 h2=>QO 208 #[.pointer (some ⟨w.heap.size+1,0,none⟩)] (fun n=>decide (n.h=x)) a c S W hN h1 (yM func208 oad rfl) (Z W h2);have H1:Hid (∀ k,k<S.length->decide ((nd S k).h=x)=true->(∀ i,i<k->decide ((nd S i).h=x)=false)->dA S x=k):=fun k U h T=>Dj I U (of_decide_eq_true h) (fun i hi=>of_decide_eq_false (T i hi));have H2:Hid ((∀ i,i<S.length->decide ((nd S i).h=x)=false)->dA S x = -1):=fun h=>QR (fun i hi=>of_decide_eq_false (h i hi));have a5:(x == -1)=false:=by simpa using I
  clear J Z
  go_enter func196,ntmps196
  go_wp2_with (first
   |(go_at_call 194;refine(D _ (HS.below (((yv _ _).alloc (yr _) _).alloc oac _)) oaf).mono ?_;rintro e w1 ⟨r,rfl,M,F⟩)
   | go_in)
  go_ret;refine⟨?_,(((yv _ _).alloc (yr _) _).alloc oac _).trans (M.mono oab)⟩;rcases F with ⟨rfl,E⟩ |⟨k,U,rfl,hp,T⟩
  ·rw[H2.out E];rfl
  ·rw[H1.out k U hp T];rfl
theorem xD(a:OA)(c:Nat)(S:List Nd)(x:Int)(w:Wd)(T:S.length<=9223372036854775807)(M:aD w a S)(O:x≠-1) :
  yO 184 #[.agg #[.slice a S.length c],.int .i64 x] w fun e w' => e=.returned (.bool (iD S x))/\Below w.heap.size w w' := by
 have D:Hid (∀ (W:Wd),aD W a S->Calls _ _ _ _ _):=fun W U=>uC a c S x W T U;have J:Hid (aD w a S):=M;have I:=Dk (S:=S) O;clear M O;generalize S.length=n at *;generalize dA S x=r at *
 cases hb:iD S x with
 | true =>
  rw[hb] at I;have F:(r == -1)=false:=by simpa using I
  clear I hb
  go_enter func184,ntmps184
  go_wp2_with (go_at_call 196;refine(D _ (J.below ((yv _ _).alloc (yr _) _))).mono ?_;rintro e w1 ⟨rfl,E⟩)
  go_ret;refine⟨?_,((yv _ _).alloc (yr _) _).trans (E.mono oac)⟩;show Ending.returned (.bool (r != -1))=_;simp[bne,F]
 | false =>
  rw[hb] at I;have F:r = -1:=by simpa using I
  subst F;clear I hb
  go_enter func184,ntmps184
  go_wp2_with (go_at_call 196;refine(D _ (J.below ((yv _ _).alloc (yr _) _))).mono ?_;rintro e w1 ⟨rfl,E⟩)
  go_ret;exact⟨rfl,((yv _ _).alloc (yr _) _).trans (E.mono oac)⟩
theorem Dl(a:OA)(c:Nat)(S:List Nd)(w:Wd)(hn:S.length<=9223372036854775807)(I:aD w a S)(D:S.any dI=false) :
  yO 194 #[.slice a S.length c,.func (.func 195) #[] #[]] w fun e w' => e=.returned (.int .i64 (-1))/\Below w.heap.size w w' :=
 (QO 195 #[] dI a c S w hn I (yM func195 oad rfl) (fun x k w1 _=>QH x k w1)).mono (fun e w' ⟨r,F,hb,M⟩=>by
  rcases M with ⟨rfl,_⟩ |⟨k,E,_,J,_⟩
  ·exact⟨F,hb⟩
  ·have:=List.any_eq_false.1 D (nd S k) (by rw[eQ E];exact List.getElem_mem E);exact absurd J this)
def iR(S:List Nd)(t:Int):Int:=if dG S=0 then (if 0<=t/\t<=99 then (if S.any dI then 0 else 1) else 2) else dG S
theorem Dm(h:S.any dI=true):∃ k,k<S.length/\dI (nd S k)=true/\∀ i,i<k->dI (nd S i)=false:=by
 obtain⟨x,I,F⟩:=List.any_eq_true.1 h;obtain⟨i,hi,rfl⟩:=List.getElem_of_mem I;rw[<- eQ hi] at F;clear I h
 induction i using Nat.strongRecOn with
 | ind i J =>
  by_cases hex:∃ j,j<i/\dI (nd S j)=true
  ·obtain⟨j,E,D⟩:=hex;exact J j E oaa D
  ·refine⟨i,hi,F,fun j E=>?_⟩
   cases hq:dI (nd S j) with
   | false=>rfl
   | true=>exact absurd ⟨j,E,hq⟩ hex
theorem QS(a:OA)(c:Nat)(S:List Nd)(t E:Int)(w:Wd)(hN:S.length<=9223372036854775807)(hB:Big S)(hS:aD w a S)(I:iR S t=E)(J:E≠0) :
  yO 182 #[.agg #[.slice a S.length c],.int .i64 t] w fun e w' => e=.returned (.tuple #[.agg #[.slice none 0 0],.agg #[.int .i64 0,.int .i64 0],.int .i64 E])/\Below w.heap.size w w' := by
 have d0:=fun W hW=>tV a c S W hN hB hW;have HS:Hid (aD w a S):=hS;unfold iR at I;by_cases hc:dG S=0
 ·rw[ye hc] at I;rw[hc] at d0;have D0:Hid _:=d0;by_cases ht:0<=t/\t<=99
  ·rw[ye ht] at I
   cases hf:S.any dI with
   | true=>rw[hf] at I;exact absurd I.symm J
   | false =>
    rw[hf,yd oac] at I;have DF:Hid (∀ W,aD W a S->Calls _ _ _ _ _):=fun W hW=>Dl a c S W hN hW hf;obtain⟨a8,a9⟩:=ht;subst I;clear hS d0 hB hc hf J;generalize S.length=n at *
    go_enter func182,ntmps182
    go_wp2_with (go_at_call 42;refine(D0 _ (HS.below (dC _ _ _ _))).mono ?_;rintro e w0 ⟨rfl,D⟩;simp only[yw] at D;obtain⟨l0,O,T,U,z1,z2,z3⟩:=pX D;have F:Bl w w0:=(dC _ _ _ _).trans (D.mono oaa))
    go_wp2_with (go_at_call 66;refine(wH _ _ _ _ oaa oaa).mono ?_;rintro e w' ⟨rfl,rfl⟩)
    refine(DF _ (HS.below F)).mono ?_;rintro e w1 ⟨rfl,M⟩;have a6:=D.size;simp only[yw] at a6;have a5:=D.trans (M.mono a6);have Z:Bl w w1:=(dC _ _ _ _).trans (a5.mono oaa);clear l0 O T U z1 z2 z3 D M F;obtain⟨l0,O,T,U,z1,z2,z3⟩:=pX a5
    go_wp2
    refine yz (v:=.tuple #[.agg #[.slice none 0 0],.agg #[.int .i64 0,.int .i64 0],.int .i64 1]) (by simp[results,results182,go_sem,O,T,U]) rfl ⟨rfl,?_⟩
    first|exact((Z.setCell oac _).setCell oab _).setCell oab _|exact(((Z.setCell oac _).setCell oab _).setCell oab _).drew
  ·rw[yd ht] at I;have a7:t<0\/99<t:=oaa;subst I;clear hS d0 hB hc ht J;generalize S.length=n at *
   go_enter func182,ntmps182
   go_wp2_with (go_at_call 42;refine(D0 _ (HS.below (dC _ _ _ _))).mono ?_;rintro e w0 ⟨rfl,D⟩;simp only[yw] at D;obtain⟨l0,O,T,U,z1,z2,z3⟩:=pX D;have F:Bl w w0:=(dC _ _ _ _).trans (D.mono oaa))
   go_wp2_with (go_at_call 66;refine(zX _ _ _ _ a7).mono ?_;rintro e w' ⟨rfl,rfl⟩)
   refine yz (v:=.tuple #[.agg #[.slice none 0 0],.agg #[.int .i64 0,.int .i64 0],.int .i64 2]) (by simp[results,results182,go_sem,O,T,U]) rfl ⟨rfl,?_⟩
   first|exact((F.setCell oac _).setCell oab _).setCell oab _|exact(((F.setCell oac _).setCell oab _).setCell oab _).drew
 ·rw[yd hc] at I;rw[I] at d0;have D0:Hid _:=d0;have hz:(E == 0)=false:=by simp[J]
  clear hS d0 I hB hc;generalize S.length=n at *
  go_enter func182,ntmps182
  go_wp2_with (go_at_call 42;refine(D0 _ (HS.below (dC _ _ _ _))).mono ?_;rintro e w0 ⟨rfl,D⟩;simp only[yw] at D;obtain⟨l0,O,T,U,z1,z2,z3⟩:=pX D;have F:Bl w w0:=(dC _ _ _ _).trans (D.mono oaa))
  refine yz (v:=.tuple #[.agg #[.slice none 0 0],.agg #[.int .i64 0,.int .i64 0],.int .i64 E]) (by simp[results,results182,go_sem,O,T,U]) rfl ⟨rfl,?_⟩
  first|exact((F.setCell oac _).setCell oab _).setCell oab _|exact(((F.setCell oac _).setCell oab _).setCell oab _).drew
def lY(x:Nd):Nd:=⟨false,x.n,0,0,-1,[],-1,false⟩
def nP(S:List Nd)(k:Nat):Prop:=bA (nd S k) = -1/\(nd S k).ks=[]/\iD S k=false
theorem WF.like{A:List Nd}(h:WF S)(hl:A.length=S.length)(hn:∀ i,i<S.length->iP S.length (nd A i)=0)
  (hs:∀ i,i<S.length->(nd A i).p=(nd S i).p/\(nd A i).ks=(nd S i).ks/\(nd A i).h=(nd S i).h)
  (O:∀ i,i<S.length->(nd S i).u=true->(nd A i).u=true\/∀ j,j<S.length->(i:Int) ∉ (nd S j).ks/\(nd S j).h≠i):WF A:=by
 refine⟨by rw[hl];exact h.small,fun i hi=>by rw[hl] at hi |-;exact hn i hi,xE (fun i hi=>?_) (fun i hi x I=>?_) (fun j F D=>?_),fun i hi=>?_,fun i hi=>?_⟩
 ·rw[hl] at hi;rw[(hs i hi).2.1];exact h.kids_nodup hi
 ·rw[hl] at hi |-;rw[(hs i hi).2.1] at I;obtain⟨k,rfl,J,k2,k3,_⟩:=h.kid hi I;refine⟨k,rfl,J,?_,by rw[(hs k J).1];exact k3⟩;rcases O k J k2 with g|g
  ·exact g
  ·exact absurd I (g i hi).1
 ·rw[hl] at F |-;rw[(hs j F).1] at D;obtain⟨i,i1,Z,_,i3,_⟩:=h.parent_place F D;exact⟨i,Z,by rw[(hs i Z).2.1];exact i3⟩
 ·rw[hl] at hi;intro hh;rw[(hs i hi).2.2] at hh |-;obtain⟨g1,g2⟩:=h.hosts i hi hh;have hb:=(wU (wT (h.node i hi))).2.1;obtain⟨q,M⟩:∃ q:Nat,(nd S i).h=(q:Int):=⟨(nd S i).h.toNat,oaa⟩;refine⟨?_,fun U E=>by rw[(hs U oaa).2.2];exact g2 U E⟩;rw[M,yk] at g1 |-;rcases O q oaa g1 with g|g
  ·exact g
  ·exact absurd M (g i hi).2
 ·rw[hl] at hi
  cases hb:dF A i i with
  | false=>rfl
  | true =>
   obtain⟨j,j1,j2,j3⟩:=uE (by rw[hl];exact hi) hb;rw[hl] at j2;exact absurd (AZ hl (fun y T z e=>by unfold bA at e |-;rw[(hs y T).1,(hs y T).2.2] at e;exact e) hi j3) (h.no_ring hi j1 j2)
theorem WF.unused(h:WF S)(E:k<S.length)(F:(nd S k).u=false):(nd S k).t=0/\(nd S k).m=0/\(nd S k).p = -1/\(nd S k).ks=[]/\(nd S k).h = -1/\(nd S k).c=false:=by
 have D:=(jY (h.node k E)).2.2;unfold gV at D;rw[F] at D;exact of_decide_eq_true D
theorem WF.uses(h:WF S)(E:k<S.length):0<=(nd S k).n/\(nd S k).n<=1000000/\((nd S k).u=true->1<=(nd S k).n):=by
 obtain⟨h1,_,D⟩:=jY (h.node k E);unfold iO at h1;simp only[Bool.and_eq_true,decide_eq_true_eq] at h1;refine⟨h1.1.1,h1.1.2,fun F=>?_⟩;unfold gV at D;rw[ye F] at D;by_cases e:(nd S k).n=0
 ·rw[ye e] at D;cases D
 ·have:=h1.1.1;omega
theorem BI{x:Nd}(h:dI x=true):x.u=false/\x.n<1000000:=by
 unfold dI at h;simpa using h
theorem WF.make(h:WF S){t:Int}(D:k<S.length)(M:dI (nd S k)=true)(F:0<=t)(I:t<=99):WF (S.set k (fI (nd S k) t)):=by
 obtain⟨O,hn⟩:=BI M;obtain⟨q1,J,q3,q4,q5,q6⟩:=h.unused D O;obtain⟨n0,n1,_⟩:=h.uses D;refine h.like oac (fun i hi=>?_) (fun i hi=>?_) (fun i hi E=>?_)
 ·rw[iQ S k i _ D];split
  ·rename_i e;subst e;obtain⟨r1,r2,r3⟩:=jY (h.node i hi);obtain⟨T,U,Z⟩:=BA r2;refine rG ?_ (rM T U Z) ?_
   ·unfold iO fI;simp only[Bool.and_eq_true,decide_eq_true_eq];exact⟨⟨oaa,oaa⟩,⟨F,I⟩,by rw[J];omega,by rw[J];omega⟩
   ·unfold gV fI;simp only[if_true];rw[yd oaa,ye q5,q6];rfl
  ·exact h.node i hi
 ·rw[iQ S k i _ D];split
  ·rename_i e;subst e;exact⟨rfl,rfl,rfl⟩
  ·exact⟨rfl,rfl,rfl⟩
 ·rw[iQ S k i _ D];split
  ·exact Or.inl rfl
  ·exact Or.inl E
theorem Dy(h:nP S k):(nd S k).p = -1/\(nd S k).h = -1/\(nd S k).ks=[]/\∀ j,j<S.length->(nd S j).h≠k:=by
 obtain⟨h1,D,E⟩:=h;unfold bA at h1;by_cases e:(nd S k).h = -1
 ·rw[ye e] at h1;exact⟨h1,e,D,IX.1 E⟩
 ·rw[yd e] at h1;exact absurd h1 e
theorem WF.free(h:WF S)(D:k<S.length)(O:nP S k):WF (S.set k (lY (nd S k))):=by
 obtain⟨J,hh,F,M⟩:=Dy O;obtain⟨U,Z,_⟩:=h.uses D;refine h.like oac (fun i hi=>?_) (fun i hi=>?_) (fun i hi E=>?_)
 ·rw[iQ S k i _ D];split
  ·rename_i e;subst e;refine rG ?_ (rM ?_ ?_ (fun y T=>absurd T (by simp[lY]))) ?_
   ·unfold iO lY;simp only[Bool.and_eq_true,decide_eq_true_eq];exact⟨⟨U,Z⟩,oaa,oaa⟩
   ·unfold lY fA;exact yI ⟨by dsimp only;omega,by dsimp only;omega⟩
   ·unfold lY fA;exact yI ⟨by dsimp only;omega,by dsimp only;omega⟩
   ·unfold gV lY;simp
  ·exact h.node i hi
 ·rw[iQ S k i _ D];split
  ·rename_i e;subst e;exact⟨J.symm,F.symm,hh.symm⟩
  ·exact⟨rfl,rfl,rfl⟩
 ·by_cases e:i=k
  ·subst e;exact Or.inr (fun j I=>⟨h.not_kid J I,M j I⟩)
  ·rw[iQ S k i _ D,yd e];exact Or.inl E
theorem Dz(n:Nat)(hn:n<=24):WF (List.replicate n fH):=by
 have D:∀ i,i<n->nd (List.replicate n fH) i=fH:=fun i hi=>IL n i _ hi;have hl:(List.replicate n fH).length=n:=oac
 refine⟨by rw[hl];exact hn,fun i hi=>?_,xE (fun i hi=>?_) (fun i hi x I=>?_) (fun j F E=>?_),fun i hi=>?_,fun i hi=>?_⟩
 ·rw[hl] at hi |-;rw[D i hi];refine rG oae (rM ?_ ?_ (fun y O=>absurd O (by simp[fH]))) oae
  ·unfold fH fA;exact yI ⟨by dsimp only;omega,by dsimp only;omega⟩
  ·unfold fH fA;exact yI ⟨by dsimp only;omega,by dsimp only;omega⟩
 ·rw[hl] at hi;rw[D i hi];exact List.nodup_nil
 ·rw[hl] at hi;rw[D i hi] at I;cases I
 ·rw[hl] at F;rw[D j F] at E;exact absurd rfl E
 ·rw[hl] at hi;intro hh;rw[D i hi] at hh;exact absurd rfl hh
 ·cases hb:dF (List.replicate n fH) i i with
  | false=>rfl
  | true =>
   obtain⟨j,U,Z,T⟩:=uE hi hb;obtain⟨M,rfl⟩:∃ M,j=M+1:=⟨j-1,oaa⟩;obtain⟨z,_,J,_⟩:=T;rw[hl] at hi;rw[D i hi] at J;have:(-1:Int)=(z:Int):=J;omega
def kX(S:List Nd):Nat->Int->List Int
 | 0,_=>[]
 | f+1,x=>if dZ S.length x then x :: kX S f (bA (nd S x.toNat)) else []
def iE(S:List Nd)(k:Nat):List Int:=(k:Int) :: kX S S.length (bA (nd S k))
theorem RD(S:List Nd):∀ (f:Nat) (x:Int),(kX S f x).length<=f
 | 0,_=>by simp[kX]
 | f+1,x=>by
  simp only[kX];split
  ·have:=RD S f (bA (nd S x.toNat));simp;omega
  ·simp
theorem RH(S:List Nd)(k:Nat):(iE S k).length<=S.length+1:=by
 have:=RD S S.length (bA (nd S k));unfold iE;simp;omega
theorem Ea{N:Nat}:dZ N (k:Int)=true↔k<N:=by
 unfold dZ;rw[decide_eq_true_eq];omega
theorem RJ{S:List Nd}:∀ {f:Nat} {x:Int},(∀ (D j z:Nat),x=D->D<S.length->Up S j D z->j<f)->kX S (f+1) x=kX S f x
 | 0,x,h=>by
  simp only[kX];split
  ·rename_i E;have F:0<=x/\x<=(S.length:Int)-1:=of_decide_eq_true E;obtain⟨D,rfl⟩:∃ D:Nat,x=D:=⟨x.toNat,oaa⟩;exact absurd (h D 0 D rfl oaa rfl) oaa
  ·rfl
 | f+1,x,h=>by
  rw[kX]
  conv=>rhs;rw[kX]
  split
  ·rename_i E;have F:0<=x/\x<=(S.length:Int)-1:=of_decide_eq_true E;obtain⟨D,rfl⟩:∃ D:Nat,x=D:=⟨x.toNat,oaa⟩;rw[yk];rw[RJ (fun M j z e J I=>?_)];have:=h D (j+1) z rfl oaa ⟨M,J,e,I⟩;omega
  ·rfl
theorem WF.path_up(h:WF S){q:Nat}(I:k<S.length)(J:q<S.length)(E:bA (nd S k)=q):iE S k=(k:Int) :: iE S q:=by
 unfold iE;rw[E]
 congr 1
 obtain⟨N,D⟩:∃ N,S.length=N+1:=⟨S.length-1,oaa⟩
 have F:kX S S.length (q:Int)=(q:Int) :: kX S N (bA (nd S q)):=by
  rw[D,kX,D,ye (Ea.2 oaa),yk]
 rw[F,D]
 congr 1
 rw[RJ];intro T j z e O M;have:=h.up_short I (j:=j+2) (z:=z) ⟨q,J,E,⟨T,O,e,M⟩⟩;omega
theorem Eb{W:Wd}{p E F q qu:Int}(h:W.ownsRow B 61 2 v 3 ([.int .i64 p,.int .i64 E,.int .i64 x,.int .i64 F] ++ [.int .i64 q,.int .i64 qu])):∃ ha hc,v=.slice ha 3 hc/\aZ W ha [(p,E),(x,F),(q,qu)]:=by
 obtain⟨_,h⟩:=h;rcases h with ⟨_,h⟩ |⟨g,cap,D,rfl,_,hg,h1,M,O,I⟩
 ·omega
 ·refine⟨_,_,rfl,fun i hi=>?_⟩
  have hc:∀ j u,([.int .i64 p,.int .i64 E,.int .i64 x,.int .i64 F,.int .i64 q,.int .i64 qu]:List Value)[j]?=some u->j<6->W.cell? ⟨g,j,none⟩=some u:=fun j u J hl=>by
   have h5:(D.toList.take (3*2))[j]?=some u:=(by rw[I];simpa using J);rw[List.getElem?_take,ye oaa] at h5;simp only[World.cell?,hg];simpa using h5
  match i,hi with
  | 0,_=>exact⟨g,0,rfl,hc 0 _ rfl oaa,hc 1 _ rfl oaa⟩
  | 1,_=>exact⟨g,0,rfl,hc 2 _ rfl oaa,hc 3 _ rfl oaa⟩
  | 2,_=>exact⟨g,0,rfl,hc 4 _ rfl oaa,hc 5 _ rfl oaa⟩
def SK:Nat->List Nd
 | 0=>List.replicate 6 fH
 | k+1=>(SK k).set k (fI (nd (SK k) k) k)
def S4:List Nd:=dD (SK 3) 0 1 0
theorem heap_drew(X:Wd):X.drew.heap=X.heap:=rfl
theorem JE{B' e size:Nat}{F:List Value}(h:w.ownsRow B e size v n F)(M:B' <= B):w.ownsRow B' e size v n F:=by
 obtain⟨h1,E⟩:=h;refine⟨h1,?_⟩;rcases E with E |⟨g,cap,D,I,J,h5⟩
 ·exact Or.inl E
 ·exact Or.inr ⟨g,cap,D,I,yJ M J,h5⟩
theorem Er:(prog.info? 4).map (fun i=>(i.zero,i.size,i.bytes))=some (some (.bool false),1,1):=oad
theorem Ev(n:Nat)(hn:n<=24)(w:Wd):(Instr.makeSlice 259 (.int .i64 (n:Int)) (.int .i64 (n:Int))).run prog w=.ok (.slice (some ⟨w.heap.size,0,none⟩) n n) (w.alloc (.cells (madeCells #[.bool false] n) 4)) :=
 run_make_row' (P:=prog) 259 4 (.bool false) 1 underlying259 Er rfl .i64 .i64 n oaa oaa w
theorem RS{g cap:Nat}(h:w.ownsRow B 3 1 (.slice (some ⟨g,0,none⟩) n cap) n (ks.map (Value.int .i64))):B<=g/\n<=cap/\cap<=maxLen/\ks.length=n/\∃ G,w.rowIs g 3 cap G/\∀ j,j<n->G j=.int .i64 (ks.getD j 0):=by
 obtain⟨hl,h⟩:=h;rw[List.length_map,Nat.mul_one] at hl;rcases h with ⟨h,_⟩ |⟨U,E,D,e,h1,J,M,O,h5,F⟩
 ·cases h
 ·cases e;rw[Nat.mul_one] at h5 F;refine⟨h1,M,O,hl,fun j=>D[j]?.getD undef,⟨D,J,h5,fun i hi=>?_⟩,fun j T=>?_⟩
  ·show D[i]?=some (D[i]?.getD undef);rw[Array.getElem?_eq_getElem oaa];rfl
  ·have I:(D.toList.take n)[j]?=(ks.map (Value.int .i64))[j]?:=(by rw[F]);rw[List.getElem?_take,ye T,List.getElem?_map,List.getElem?_eq_getElem (l:=ks) oaa] at I;show D[j]?.getD undef=_;rw[<- Array.getElem?_toList,I,aJ ks 0 oaa];rfl
theorem uI(h:w.ownsRow B 3 1 v ks.length (ks.map (Value.int .i64))):∃ pa pc,v=.slice pa ks.length pc/\aG w pa ks/\(∀ k,v.ownBlock=some k->B<=k/\k<w.heap.size):=by
 have D:=h.lt;rcases h.2 with ⟨e,I⟩ |⟨g,cap,F,e,_⟩
 ·have O:ks=[]:=List.length_eq_zero_iff.1 I;subst O;exact⟨none,0,e,fun i hi=>absurd hi (yB _),D⟩
 ·subst e;obtain⟨_,J,_,_,G,M,E⟩:=RS h;exact⟨some ⟨g,0,none⟩,cap,rfl,qB M J E,D⟩
