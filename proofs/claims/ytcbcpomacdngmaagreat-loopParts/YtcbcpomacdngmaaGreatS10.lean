/-
  x
-/
import Derived.Test.YtcbcpomacdngmaaGreatS9
import Derived.BigRegion
namespace Go.Proofs.YtcbcpomacdngmaaGreat
set_option maxRecDepth 100000
set_option maxHeartbeats 4000000
set_option linter.unusedVariables false
open Go.RowKit
def zsf(K:Nat)(D:Array Value)(p:Nd->Bool)(w:World):Prop :=
 ∀ (x:Nd) (k:Value) (E:World),Below w.heap.size w E->yM K (#[.agg #[.bool x.u,.int .i64 x.n,.int .i64 x.t,.int .i64 x.m,.int .i64 x.p,k,.int .i64 x.h,.bool x.c]] ++ D) E fun e F=>e=.returned (.bool (p x))/\Below E.heap.size E F
theorem zjf(K:Nat)(E:Array Value)(p:Nd->Bool)(a:Option Addr)(c:Nat)(S:List Nd)(w:World)(a5:S.length<=9223372036854775807)(Z:zai w a S)
  (eg:∀ args w,(callFunc K args).run Tryz.prog w=.ok (.enter K args) w) (hf:zsf K E p w) :
  yM 194 #[.slice a S.length c,.func (.func K) #[] E] w fun e w' => ∃ r:Int,e=.returned (.int .i64 r)/\Below w.heap.size w w' /\
   ((r = -1/\∀ i,i<S.length->p (nd S i)=false)\/(∃ k:Nat,k<S.length/\r=k/\p (nd S k)=true/\∀ i,i<k->p (nd S i)=false)):=by
 have HS:Hid (zai w a S):=Z;have HF:Hid (zsf K E p w):=hf;clear Z hf;generalize hn:S.length=n at *;have HN:Hid _:=hn;clear hn
 go_enter Tryz.func194,Tryz.ntmps194
 go_wp2
 go_loopg [8] n (fun g s8 wr=>∃ k:Nat,k<=n/\n-k<=g/\s8=.int .i64 k/\Below w.heap.size w wr/\Hid (∀ i,i<k->p (nd S i)=false))
 case atStart=>exact⟨0,by omega,by omega,rfl,yk _ _,fun i hi=>by omega⟩
 case round =>
  obtain⟨k,hk,hg,rfl,F,A⟩:=hrel;by_cases J:k<n
  ·have a6:(k:Int)<(n:Int):=(by omega);obtain⟨b,o,rfl,c0,c1,c2,c3,c4,⟨ka,kc,c5,_⟩,T,U⟩:=(HS.out.below F) k (by rw[HN.out];exact J);have D:=fun v=>HF.out (nd S k) v wr F
   cases hq:p (nd S k) with
   | true =>
    have M:Hid (p (nd S k)=true):=hq;rw[hq] at D;clear hq;generalize O:nd S k=x at D c0 c1 c2 c3 c4 c5 T U;clear O
    go_wp2_with (go_at_fn K;refine(D _).mono ?_;rintro e w' ⟨rfl,I⟩)
    go_ret;exact⟨k,rfl,F.trans (I.mono F.size),Or.inr ⟨k,J,rfl,M.out,A.out⟩⟩
   | false =>
    have M:Hid (p (nd S k)=false):=hq;rw[hq] at D;clear hq;generalize O:nd S k=x at D c0 c1 c2 c3 c4 c5 T U;clear O
    go_wp2_with (go_at_fn K;refine(D _).mono ?_;rintro e w' ⟨rfl,I⟩)
    go_roundg (n-(k+1))
    case measure=>omega
    case rel =>
     refine⟨k+1,by omega,by omega,by go_num,F.trans (I.mono F.size),(show Hid _ from fun i hi=>?_)⟩;by_cases e:i=k
     ·subst e;exact M.out
     ·exact A.out i (by omega)
  ·have:k=n:=(by omega);subst this
   go_wp2
   go_ret;exact⟨-1,rfl,F,Or.inl ⟨rfl,A.out⟩⟩
def zfp(S:List Nd)(x:Int):Bool:=S.any fun n=>decide (n.h=x)
theorem zgr{S:List Nd}{x:Int}:zfp S x=false↔∀ i,i<S.length->(nd S i).h≠x:=by
 unfold zfp;rw[List.any_eq_false];constructor
 ·intro H i hi e;have:=H (nd S i) (by rw[zbf hi];exact List.getElem_mem hi);simp[e] at this
 ·intro H y D;obtain⟨i,hi,rfl⟩:=List.getElem_of_mem D;have:=H i hi;rw[zbf hi] at this;simpa using this
theorem zoZ(x:Nd)(k:Value)(q:Nat)(y:Int)(w:World)(D:w.cell? ⟨q,0,none⟩=some (.int .i64 y)) :
  yM 208 #[.agg #[.bool x.u,.int .i64 x.n,.int .i64 x.t,.int .i64 x.m,.int .i64 x.p,k,.int .i64 x.h,.bool x.c],.pointer (some ⟨q,0,none⟩)] w fun e w' => e=.returned (.bool (decide (x.h=y)))/\Below w.heap.size w w' := by
 obtain⟨u,n,t,m,p,ks,h,c⟩:=x;dsimp only;have E:=yd _ _ D;by_cases e:h=y
 ·subst e;rw[yG rfl]
  go_enter Tryz.func208,Tryz.ntmps208
  go_wp2
  go_ret;exact⟨rfl,(yk _ _).alloc (yj _) _⟩
 ·rw[yF e];have F:(h == y)=false:=by simpa using e
  go_enter Tryz.func208,Tryz.ntmps208
  go_wp2
  go_ret;exact⟨rfl,(yk _ _).alloc (yj _) _⟩
def zbV(S:List Nd)(x:Int):Int:=if x = -1 then -1 else (match S.findIdx? fun n=>decide (n.h=x) with|some k=>(k:Int)|none=>-1)
theorem zrC{S:List Nd}{x:Int}{k:Nat}(I:x≠-1)(D:k<S.length)(h:(nd S k).h=x)(E:∀ i,i<k->(nd S i).h≠x):zbV S x=k:=by
 unfold zbV
 rw[ya I,show S.findIdx? (fun n=>decide (n.h=x))=some k from List.findIdx?_eq_some_iff_getElem.2 ⟨D,by rw[<- zbf D];exact yG h,fun j F=>by
  have:=E j F;rw[zbf (by omega)] at this;simpa using this⟩]
theorem zkX{S:List Nd}{x:Int}(h:∀ i,i<S.length->(nd S i).h≠x):zbV S x = -1:=by
 unfold zbV;by_cases D:x = -1
 ·rw[yb D]
 rw[ya D,show S.findIdx? (fun n=>decide (n.h=x))=none from List.findIdx?_eq_none_iff.2 (fun y E=>by
  obtain⟨i,hi,rfl⟩:=List.getElem_of_mem E;have:=h i hi;rw[zbf hi] at this;simpa using this)]
theorem zrB{S:List Nd}{x:Int}(F:x≠-1):decide (zbV S x = -1) = !zfp S x:=by
 cases hb:zfp S x with
 | false=>rw[zkX (zgr.1 hb)];rfl
 | true =>
  have D:zbV S x≠-1:=by
   intro h;unfold zbV at h;rw[ya F] at h
   split at h
   ·omega
   ·next hn =>
    have:=List.findIdx?_eq_none_iff.1 hn;unfold zfp at hb;obtain⟨y,I,E⟩:=List.any_eq_true.1 hb;rw[this y I] at E;cases E
  rw[yF D];rfl
theorem zdm(a:Option Addr)(c:Nat)(S:List Nd)(x:Int)(w:World)(hN:S.length<=9223372036854775807)(M:zai w a S) :
  yM 196 #[.agg #[.slice a S.length c],.int .i64 x] w fun e w' => e=.returned (.int .i64 (zbV S x))/\Below w.heap.size w w' := by
 have HS:Hid (zai w a S):=M;by_cases J:x = -1
 ·have I:zbV S x = -1:=by unfold zbV;rw[yb J]
  rw[I];subst J;clear M I;generalize S.length=n at *
  go_enter Tryz.func196,Tryz.ntmps196
  go_wp2
  go_ret;exact⟨rfl,((yk _ _).alloc (yj _) _).alloc (by simp) _⟩
 ·have hT:∀ F:World,F.cell? ⟨w.heap.size+1,0,none⟩=some (.int .i64 x)->zsf 208 #[.pointer (some ⟨w.heap.size+1,0,none⟩)] (fun n=>decide (n.h=x)) F:=fun F h1 y k w2 T =>
   zoZ y k (w.heap.size+1) x w2 ((T.cell (yd F _ h1)).trans h1)
  have D:Hid (∀ (W:World),zai W a S->W.cell? ⟨w.heap.size+1,0,none⟩=some (.int .i64 x)->Calls _ _ _ _ _):=fun W h1 h2=>zjf 208 #[.pointer (some ⟨w.heap.size+1,0,none⟩)] (fun n=>decide (n.h=x)) a c S W hN h1 (yK Tryz.func208 (by kernel_rfl) rfl) (hT W h2);have H1:Hid (∀ k,k<S.length->decide ((nd S k).h=x)=true->(∀ i,i<k->decide ((nd S i).h=x)=false)->zbV S x=k):=fun k Z h U=>zrC J Z (of_decide_eq_true h) (fun i hi=>of_decide_eq_false (U i hi));have H2:Hid ((∀ i,i<S.length->decide ((nd S i).h=x)=false)->zbV S x = -1):=fun h=>zkX (fun i hi=>of_decide_eq_false (h i hi));have a5:(x == -1)=false:=by simpa using J
  clear M hT
  go_enter Tryz.func196,Tryz.ntmps196
  go_wp2_with (first
   |(go_at_call 194;refine(D.out _ (HS.out.below (((yk _ _).alloc (yj _) _).alloc (by simp) _)) (by go_simp)).mono ?_;rintro e F ⟨r,rfl,O,I⟩)
   | go_in)
  go_ret;refine⟨?_,(((yk _ _).alloc (yj _) _).alloc (by simp) _).trans (O.mono (by simp;omega))⟩;rcases I with ⟨rfl,E⟩ |⟨k,Z,rfl,hp,U⟩
  ·rw[H2.out E];rfl
  ·rw[H1.out k Z hp U];rfl
theorem zee(a:Option Addr)(c:Nat)(S:List Nd)(x:Int)(w:World)(T:S.length<=9223372036854775807)(M:zai w a S)(O:x≠-1) :
  yM 184 #[.agg #[.slice a S.length c],.int .i64 x] w fun e w' => e=.returned (.bool (zfp S x))/\Below w.heap.size w w' := by
 have D:Hid (∀ (W:World),zai W a S->Calls _ _ _ _ _):=fun W U=>zdm a c S x W T U;have J:Hid (zai w a S):=M;have I:=zrB (S:=S) O;clear M O;generalize S.length=n at *;generalize zbV S x=r at *
 cases hb:zfp S x with
 | true =>
  rw[hb] at I;have F:(r == -1)=false:=by simpa using I
  clear I hb
  go_enter Tryz.func184,Tryz.ntmps184
  go_wp2_with (go_at_call 196;refine(D.out _ (J.out.below ((yk _ _).alloc (yj _) _))).mono ?_;rintro e Z ⟨rfl,E⟩)
  go_ret;refine⟨?_,((yk _ _).alloc (yj _) _).trans (E.mono (by simp))⟩;show Ending.returned (.bool (r != -1))=_;simp[bne,F]
 | false =>
  rw[hb] at I;have F:r = -1:=by simpa using I
  subst F;clear I hb
  go_enter Tryz.func184,Tryz.ntmps184
  go_wp2_with (go_at_call 196;refine(D.out _ (J.out.below ((yk _ _).alloc (yj _) _))).mono ?_;rintro e Z ⟨rfl,E⟩)
  go_ret;exact⟨rfl,((yk _ _).alloc (yj _) _).trans (E.mono (by simp))⟩
theorem zkk(a:Option Addr)(c:Nat)(S:List Nd)(w:World)(hn:S.length<=9223372036854775807)(I:zai w a S)(D:S.any zcr=false) :
  yM 194 #[.slice a S.length c,.func (.func 195) #[] #[]] w fun e w' => e=.returned (.int .i64 (-1))/\Below w.heap.size w w' :=
 (zjf 195 #[] zcr a c S w hn I (yK Tryz.func195 (by kernel_rfl) rfl) (fun x k T _=>zkJ x k T)).mono (fun e w' ⟨r,F,J,O⟩=>by
  rcases O with ⟨rfl,_⟩ |⟨k,E,_,M,_⟩
  ·exact⟨F,J⟩
  ·have:=List.any_eq_false.1 D (nd S k) (by rw[zbf E];exact List.getElem_mem E);exact absurd M this)
def zfr(S:List Nd)(t:Int):Int:=if zbo S=0 then (if 0<=t/\t<=99 then (if S.any zcr then 0 else 1) else 2) else zbo S
theorem zqG{S:List Nd}(h:S.any zcr=true):∃ k,k<S.length/\zcr (nd S k)=true/\∀ i,i<k->zcr (nd S i)=false:=by
 obtain⟨x,I,F⟩:=List.any_eq_true.1 h;obtain⟨i,hi,rfl⟩:=List.getElem_of_mem I;rw[<- zbf hi] at F;clear I h
 induction i using Nat.strongRecOn with
 | ind i J =>
  by_cases hex:∃ j,j<i/\zcr (nd S j)=true
  ·obtain⟨j,E,D⟩:=hex;exact J j E (by omega) D
  ·refine⟨i,hi,F,fun j E=>?_⟩
   cases hq:zcr (nd S j) with
   | false=>rfl
   | true=>exact absurd ⟨j,E,hq⟩ hex
theorem zpI(a:Option Addr)(c:Nat)(S:List Nd)(t E:Int)(w:World)(hN:S.length<=9223372036854775807)(hB:Big S)(hS:zai w a S)(I:zfr S t=E)(J:E≠0) :
  yM 182 #[.agg #[.slice a S.length c],.int .i64 t] w fun e w' => e=.returned (.tuple #[.agg #[.slice none 0 0],.agg #[.int .i64 0,.int .i64 0],.int .i64 E])/\Below w.heap.size w w' := by
 have d0:=fun W hW=>zdW a c S W hN hB hW;have HS:Hid (zai w a S):=hS;unfold zfr at I;by_cases hc:zbo S=0
 ·rw[yb hc] at I;rw[hc] at d0;have D0:Hid _:=d0;by_cases ht:0<=t/\t<=99
  ·rw[yb ht] at I
   cases hf:S.any zcr with
   | true=>rw[hf] at I;exact absurd I.symm J
   | false =>
    rw[hf,ya (by simp)] at I;have DF:Hid (∀ W,zai W a S->Calls _ _ _ _ _):=fun W hW=>zkk a c S W hN hW hf;obtain⟨a8,a9⟩:=ht;subst I;clear hS d0 hB hc hf J;generalize S.length=n at *
    go_enter Tryz.func182,Tryz.ntmps182
    go_wp2_with (go_at_call 42;refine(D0.out _ (HS.out.below (zar _ _ _ _))).mono ?_;rintro e w0 ⟨rfl,D⟩;simp only[yr] at D;obtain⟨l0,O,T,U,z1,z2,z3⟩:=zdE D;have F:Below w.heap.size w w0:=(zar _ _ _ _).trans (D.mono (by omega)))
    go_wp2_with (go_at_call 66;refine(zew _ _ _ _ (by omega) (by omega)).mono ?_;rintro e w' ⟨rfl,rfl⟩)
    refine(DF.out _ (HS.out.below F)).mono ?_;rintro e w1 ⟨rfl,M⟩;have a6:=D.size;simp only[yr] at a6;have a5:=D.trans (M.mono a6);have Z:Below w.heap.size w w1:=(zar _ _ _ _).trans (a5.mono (by omega));clear l0 O T U z1 z2 z3 D M F;obtain⟨l0,O,T,U,z1,z2,z3⟩:=zdE a5
    go_wp2
    refine yw (v:=.tuple #[.agg #[.slice none 0 0],.agg #[.int .i64 0,.int .i64 0],.int .i64 1]) (by simp[results,Tryz.results182,go_sem,O,T,U]) rfl ⟨rfl,?_⟩
    first|exact((Z.setCell (by simp) _).setCell (by simp;omega) _).setCell (by simp;omega) _|exact(((Z.setCell (by simp) _).setCell (by simp;omega) _).setCell (by simp;omega) _).drew
  ·rw[ya ht] at I;have a7:t<0\/99<t:=(by omega);subst I;clear hS d0 hB hc ht J;generalize S.length=n at *
   go_enter Tryz.func182,Tryz.ntmps182
   go_wp2_with (go_at_call 42;refine(D0.out _ (HS.out.below (zar _ _ _ _))).mono ?_;rintro e w0 ⟨rfl,D⟩;simp only[yr] at D;obtain⟨l0,O,T,U,z1,z2,z3⟩:=zdE D;have F:Below w.heap.size w w0:=(zar _ _ _ _).trans (D.mono (by omega)))
   go_wp2_with (go_at_call 66;refine(zhj _ _ _ _ a7).mono ?_;rintro e w' ⟨rfl,rfl⟩)
   refine yw (v:=.tuple #[.agg #[.slice none 0 0],.agg #[.int .i64 0,.int .i64 0],.int .i64 2]) (by simp[results,Tryz.results182,go_sem,O,T,U]) rfl ⟨rfl,?_⟩
   first|exact((F.setCell (by simp) _).setCell (by simp;omega) _).setCell (by simp;omega) _|exact(((F.setCell (by simp) _).setCell (by simp;omega) _).setCell (by simp;omega) _).drew
 ·rw[ya hc] at I;rw[I] at d0;have D0:Hid _:=d0;have hz:(E == 0)=false:=by simp[J]
  clear hS d0 I hB hc;generalize S.length=n at *
  go_enter Tryz.func182,Tryz.ntmps182
  go_wp2_with (go_at_call 42;refine(D0.out _ (HS.out.below (zar _ _ _ _))).mono ?_;rintro e w0 ⟨rfl,D⟩;simp only[yr] at D;obtain⟨l0,O,T,U,z1,z2,z3⟩:=zdE D;have F:Below w.heap.size w w0:=(zar _ _ _ _).trans (D.mono (by omega)))
  refine yw (v:=.tuple #[.agg #[.slice none 0 0],.agg #[.int .i64 0,.int .i64 0],.int .i64 E]) (by simp[results,Tryz.results182,go_sem,O,T,U]) rfl ⟨rfl,?_⟩
  first|exact((F.setCell (by simp) _).setCell (by simp;omega) _).setCell (by simp;omega) _|exact(((F.setCell (by simp) _).setCell (by simp;omega) _).setCell (by simp;omega) _).drew
def zcV(x:Nd):Nd:=⟨false,x.n,0,0,-1,[],-1,false⟩
def zge(S:List Nd)(k:Nat):Prop:=zam (nd S k) = -1/\(nd S k).ks=[]/\zfp S k=false
theorem WF.like{S A:List Nd}(h:WF S)(hl:A.length=S.length)(hn:∀ i,i<S.length->zfv S.length (nd A i)=0)
  (hs:∀ i,i<S.length->(nd A i).p=(nd S i).p/\(nd A i).ks=(nd S i).ks/\(nd A i).h=(nd S i).h)
  (T:∀ i,i<S.length->(nd S i).u=true->(nd A i).u=true\/∀ j,j<S.length->(i:Int) ∉ (nd S j).ks/\(nd S j).h≠i):WF A:=by
 refine⟨by rw[hl];exact h.small,fun i hi=>by rw[hl] at hi |-;exact hn i hi,zfq (fun i hi=>?_) (fun i hi x I=>?_) (fun j F D=>?_),fun i hi=>?_,fun i hi=>?_⟩
 ·rw[hl] at hi;rw[(hs i hi).2.1];exact h.kids_nodup hi
 ·rw[hl] at hi |-;rw[(hs i hi).2.1] at I;obtain⟨k,rfl,J,k2,k3,_⟩:=h.kid hi I;refine⟨k,rfl,J,?_,by rw[(hs k J).1];exact k3⟩;rcases T k J k2 with g|g
  ·exact g
  ·exact absurd I (g i hi).1
 ·rw[hl] at F |-;rw[(hs j F).1] at D;obtain⟨i,i1,i2,_,i3,_⟩:=h.parent_place F D;exact⟨i,i2,by rw[(hs i i2).2.1];exact i3⟩
 ·rw[hl] at hi;intro hh;rw[(hs i hi).2.2] at hh |-;obtain⟨g1,g2⟩:=h.hosts i hi hh;have M:=(zha (zhb (h.node i hi))).2.1;obtain⟨q,O⟩:∃ q:Nat,(nd S i).h=(q:Int):=⟨(nd S i).h.toNat,by omega⟩;refine⟨?_,fun Z E=>by rw[(hs Z (by omega)).2.2];exact g2 Z E⟩;rw[O,yi] at g1 |-;rcases T q (by omega) g1 with g|g
  ·exact g
  ·exact absurd O (g i hi).2
 ·rw[hl] at hi
  cases M:zbs A i i with
  | false=>rfl
  | true =>
   obtain⟨j,j1,j2,j3⟩:=zfX (by rw[hl];exact hi) M;rw[hl] at j2;exact absurd (zmd hl (fun y U z e=>by unfold zam at e |-;rw[(hs y U).1,(hs y U).2.2] at e;exact e) hi j3) (h.no_ring hi j1 j2)
theorem WF.unused{S:List Nd}(h:WF S){k:Nat}(E:k<S.length)(F:(nd S k).u=false):(nd S k).t=0/\(nd S k).m=0/\(nd S k).p = -1/\(nd S k).ks=[]/\(nd S k).h = -1/\(nd S k).c=false:=by
 have D:=(zbd (h.node k E)).2.2;unfold zec at D;rw[F] at D;exact of_decide_eq_true D
theorem WF.uses{S:List Nd}(h:WF S){k:Nat}(E:k<S.length):0<=(nd S k).n/\(nd S k).n<=1000000/\((nd S k).u=true->1<=(nd S k).n):=by
 obtain⟨h1,_,D⟩:=zbd (h.node k E);unfold zcS at h1;simp only[Bool.and_eq_true,decide_eq_true_eq] at h1;refine⟨h1.1.1,h1.1.2,fun F=>?_⟩;unfold zec at D;rw[yb F] at D;by_cases e:(nd S k).n=0
 ·rw[yb e] at D;cases D
 ·have:=h1.1.1;omega
theorem zfM{x:Nd}(h:zcr x=true):x.u=false/\x.n<1000000:=by
 unfold zcr at h;simpa using h
theorem WF.make{S:List Nd}(h:WF S){k:Nat}{t:Int}(D:k<S.length)(M:zcr (nd S k)=true)(F:0<=t)(I:t<=99):WF (S.set k (zbO (nd S k) t)):=by
 obtain⟨O,hn⟩:=zfM M;obtain⟨q1,J,q3,q4,q5,q6⟩:=h.unused D O;obtain⟨n0,n1,_⟩:=h.uses D;refine h.like (by simp) (fun i hi=>?_) (fun i hi=>?_) (fun i hi E=>?_)
 ·rw[zcP S k i _ D];split
  ·rename_i e;subst e;obtain⟨r1,r2,r3⟩:=zbd (h.node i hi);obtain⟨T,U,Z⟩:=zeJ r2;refine zgx ?_ (zeI T U Z) ?_
   ·unfold zcS zbO;simp only[Bool.and_eq_true,decide_eq_true_eq];exact⟨⟨by omega,by omega⟩,⟨F,I⟩,by rw[J];omega,by rw[J];omega⟩
   ·unfold zec zbO;simp only[if_true];rw[ya (by omega),yb q5,q6];rfl
  ·exact h.node i hi
 ·rw[zcP S k i _ D];split
  ·rename_i e;subst e;exact⟨rfl,rfl,rfl⟩
  ·exact⟨rfl,rfl,rfl⟩
 ·rw[zcP S k i _ D];split
  ·exact Or.inl rfl
  ·exact Or.inl E
theorem zoG{S:List Nd}{k:Nat}(h:zge S k):(nd S k).p = -1/\(nd S k).h = -1/\(nd S k).ks=[]/\∀ j,j<S.length->(nd S j).h≠k:=by
 obtain⟨h1,D,E⟩:=h;unfold zam at h1;by_cases e:(nd S k).h = -1
 ·rw[yb e] at h1;exact⟨h1,e,D,zgr.1 E⟩
 ·rw[ya e] at h1;exact absurd h1 e
theorem WF.free{S:List Nd}(h:WF S){k:Nat}(D:k<S.length)(O:zge S k):WF (S.set k (zcV (nd S k))):=by
 obtain⟨J,hh,F,M⟩:=zoG O;obtain⟨U,Z,_⟩:=h.uses D;refine h.like (by simp) (fun i hi=>?_) (fun i hi=>?_) (fun i hi E=>?_)
 ·rw[zcP S k i _ D];split
  ·rename_i e;subst e;refine zgx ?_ (zeI ?_ ?_ (fun y T=>absurd T (by simp[zcV]))) ?_
   ·unfold zcS zcV;simp only[Bool.and_eq_true,decide_eq_true_eq];exact⟨⟨U,Z⟩,by omega,by omega⟩
   ·unfold zcV zlN;exact yG ⟨by dsimp only;omega,by dsimp only;omega⟩
   ·unfold zcV zlN;exact yG ⟨by dsimp only;omega,by dsimp only;omega⟩
   ·unfold zec zcV;simp
  ·exact h.node i hi
 ·rw[zcP S k i _ D];split
  ·rename_i e;subst e;exact⟨J.symm,F.symm,hh.symm⟩
  ·exact⟨rfl,rfl,rfl⟩
 ·by_cases e:i=k
  ·subst e;exact Or.inr (fun j I=>⟨h.not_kid J I,M j I⟩)
  ·rw[zcP S k i _ D,ya e];exact Or.inl E
theorem zAG(n:Nat)(hn:n<=24):WF (List.replicate n zaZ):=by
 have D:∀ i,i<n->nd (List.replicate n zaZ) i=zaZ:=fun i hi=>zfu n i _ hi;have hl:(List.replicate n zaZ).length=n:=by simp
 refine⟨by rw[hl];exact hn,fun i hi=>?_,zfq (fun i hi=>?_) (fun i hi x I=>?_) (fun j F E=>?_),fun i hi=>?_,fun i hi=>?_⟩
 ·rw[hl] at hi |-;rw[D i hi];refine zgx (by decide) (zeI ?_ ?_ (fun y O=>absurd O (by simp[zaZ]))) (by decide)
  ·unfold zaZ zlN;exact yG ⟨by dsimp only;omega,by dsimp only;omega⟩
  ·unfold zaZ zlN;exact yG ⟨by dsimp only;omega,by dsimp only;omega⟩
 ·rw[hl] at hi;rw[D i hi];exact List.nodup_nil
 ·rw[hl] at hi;rw[D i hi] at I;cases I
 ·rw[hl] at F;rw[D j F] at E;exact absurd rfl E
 ·rw[hl] at hi;intro hh;rw[D i hi] at hh;exact absurd rfl hh
 ·cases hb:zbs (List.replicate n zaZ) i i with
  | false=>rfl
  | true =>
   obtain⟨j,U,Z,T⟩:=zfX hi hb;obtain⟨M,rfl⟩:∃ M,j=M+1:=⟨j-1,by omega⟩;obtain⟨z,_,J,_⟩:=T;rw[hl] at hi;rw[D i hi] at J;have:(-1:Int)=(z:Int):=J;omega
def zhF(S:List Nd):Nat->Int->List Int
 | 0,_=>[]
 | f+1,x=>if zij S.length x then x :: zhF S f (zam (nd S x.toNat)) else []
def zfa(S:List Nd)(k:Nat):List Int:=(k:Int) :: zhF S S.length (zam (nd S k))
theorem zpG(S:List Nd):∀ (f:Nat) (x:Int),(zhF S f x).length<=f
 | 0,_=>by simp[zhF]
 | f+1,x=>by
  simp only[zhF];split
  ·have:=zpG S f (zam (nd S x.toNat));simp;omega
  ·simp
theorem zpR(S:List Nd)(k:Nat):(zfa S k).length<=S.length+1:=by
 have:=zpG S S.length (zam (nd S k));unfold zfa;simp;omega
theorem zwq{N k:Nat}:zij N (k:Int)=true↔k<N:=by
 unfold zij;rw[decide_eq_true_eq];omega
theorem zna{S:List Nd}:∀ {f:Nat} {x:Int},(∀ (D j z:Nat),x=D->D<S.length->Up S j D z->j<f)->zhF S (f+1) x=zhF S f x
 | 0,x,h=>by
  simp only[zhF];split
  ·rename_i E;have F:0<=x/\x<=(S.length:Int)-1:=of_decide_eq_true E;obtain⟨D,rfl⟩:∃ D:Nat,x=D:=⟨x.toNat,by omega⟩;exact absurd (h D 0 D rfl (by omega) rfl) (by omega)
  ·rfl
 | f+1,x,h=>by
  rw[zhF]
  conv=>rhs;rw[zhF]
  split
  ·rename_i E;have F:0<=x/\x<=(S.length:Int)-1:=of_decide_eq_true E;obtain⟨D,rfl⟩:∃ D:Nat,x=D:=⟨x.toNat,by omega⟩;rw[yi];rw[zna (fun M j z e J I=>?_)];have:=h D (j+1) z rfl (by omega) ⟨M,J,e,I⟩;omega
  ·rfl
theorem WF.path_up{S:List Nd}(h:WF S){k q:Nat}(I:k<S.length)(J:q<S.length)(E:zam (nd S k)=q):zfa S k=(k:Int) :: zfa S q:=by
 unfold zfa;rw[E]
 congr 1
 obtain⟨N,D⟩:∃ N,S.length=N+1:=⟨S.length-1,by omega⟩
 have F:zhF S S.length (q:Int)=(q:Int) :: zhF S N (zam (nd S q)):=by
  rw[D,zhF,D,yb (zwq.2 (by omega)),yi]
 rw[F,D]
 congr 1
 rw[zna];intro T j z e O M;have:=h.up_short I (j:=j+2) (z:=z) ⟨q,J,E,⟨T,O,e,M⟩⟩;omega
theorem zto{W:World}{B:Nat}{v:Value}{p E x F q qu:Int}(h:W.ownsRow B 61 2 v 3 ([.int .i64 p,.int .i64 E,.int .i64 x,.int .i64 F] ++ [.int .i64 q,.int .i64 qu])):∃ ha hc,v=.slice ha 3 hc/\zas W ha [(p,E),(x,F),(q,qu)]:=by
 obtain⟨_,h⟩:=h;rcases h with ⟨_,h⟩ |⟨g,cap,D,rfl,_,hg,h1,M,O,I⟩
 ·omega
 ·refine⟨_,_,rfl,fun i hi=>?_⟩
  have hc:∀ j u,([.int .i64 p,.int .i64 E,.int .i64 x,.int .i64 F,.int .i64 q,.int .i64 qu]:List Value)[j]?=some u->j<6->W.cell? ⟨g,j,none⟩=some u:=fun j u J hl=>by
   have h5:(D.toList.take (3*2))[j]?=some u:=(by rw[I];simpa using J);rw[List.getElem?_take,yb (by omega)] at h5;simp only[World.cell?,hg];simpa using h5
  match i,hi with
  | 0,_=>exact⟨g,0,rfl,hc 0 _ rfl (by omega),hc 1 _ rfl (by omega)⟩
  | 1,_=>exact⟨g,0,rfl,hc 2 _ rfl (by omega),hc 3 _ rfl (by omega)⟩
  | 2,_=>exact⟨g,0,rfl,hc 4 _ rfl (by omega),hc 5 _ rfl (by omega)⟩
def SK:Nat->List Nd
 | 0=>List.replicate 6 zaZ
 | k+1=>(SK k).set k (zbO (nd (SK k) k) k)
def S4:List Nd:=zbm (SK 3) 0 1 0
theorem heap_drew(X:World):X.drew.heap=X.heap:=rfl
theorem zfx{w:World}{B B' e size n:Nat}{v:Value}{F:List Value}(h:w.ownsRow B e size v n F)(M:B' <= B):w.ownsRow B' e size v n F:=by
 obtain⟨h1,E⟩:=h;refine⟨h1,?_⟩;rcases E with E |⟨g,cap,D,I,J,h5⟩
 ·exact Or.inl E
 ·exact Or.inr ⟨g,cap,D,I,yH M J,h5⟩
theorem zwj:(Tryz.prog.info? 4).map (fun i=>(i.zero,i.size,i.bytes))=some (some (.bool false),1,1):=by kernel_rfl
theorem ztE(n:Nat)(hn:n<=24)(w:World):(Instr.makeSlice 259 (.int .i64 (n:Int)) (.int .i64 (n:Int))).run Tryz.prog w=.ok (.slice (some ⟨w.heap.size,0,none⟩) n n) (w.alloc (.cells (madeCells #[.bool false] n) 4)) :=
 run_make_row' (P:=Tryz.prog) 259 4 (.bool false) 1 Tryz.underlying259 zwj rfl .i64 .i64 n (by omega) (by omega) w
theorem zla{w:World}{B g n cap:Nat}{ks:List Int}(h:w.ownsRow B 3 1 (.slice (some ⟨g,0,none⟩) n cap) n (ks.map (Value.int .i64))):B<=g/\n<=cap/\cap<=maxLen/\ks.length=n/\∃ G,w.rowIs g 3 cap G/\∀ j,j<n->G j=.int .i64 (ks.getD j 0):=by
 obtain⟨hl,h⟩:=h;rw[List.length_map,Nat.mul_one] at hl;rcases h with ⟨h,_⟩ |⟨U,E,D,e,h1,J,M,O,h5,F⟩
 ·cases h
 ·cases e;rw[Nat.mul_one] at h5 F;refine⟨h1,M,O,hl,fun j=>D[j]?.getD undef,⟨D,J,h5,fun i hi=>?_⟩,fun j T=>?_⟩
  ·show D[i]?=some (D[i]?.getD undef);rw[Array.getElem?_eq_getElem (by omega)];rfl
  ·have I:(D.toList.take n)[j]?=(ks.map (Value.int .i64))[j]?:=(by rw[F]);rw[List.getElem?_take,yb T,List.getElem?_map,List.getElem?_eq_getElem (l:=ks) (by omega)] at I;show D[j]?.getD undef=_;rw[<- Array.getElem?_toList,I,zae ks 0 (by omega)];rfl
theorem zei{w:World}{B:Nat}{v:Value}{ks:List Int}(h:w.ownsRow B 3 1 v ks.length (ks.map (Value.int .i64))):∃ pa pc,v=.slice pa ks.length pc/\zaj w pa ks/\(∀ k,v.ownBlock=some k->B<=k/\k<w.heap.size):=by
 have D:=h.lt;rcases h.2 with ⟨e,I⟩ |⟨g,cap,F,e,_⟩
 ·have O:ks=[]:=List.length_eq_zero_iff.1 I;subst O;exact⟨none,0,e,fun i hi=>absurd hi (yx _),D⟩
 ·subst e;obtain⟨_,J,_,_,G,M,E⟩:=zla h;exact⟨some ⟨g,0,none⟩,cap,rfl,zbN M J E,D⟩
end Go.Proofs.YtcbcpomacdngmaaGreat
