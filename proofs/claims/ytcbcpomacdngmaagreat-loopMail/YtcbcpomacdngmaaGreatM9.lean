/-
  x
-/
import Derived.Test.YtcbcpomacdngmaaGreatM8
import Derived.Deep.RegionLawGrows
namespace Go.Proofs.YtcbcpomacdngmaaGreat
set_option maxRecDepth 100000
set_option maxHeartbeats 4000000
set_option linter.unusedVariables false
open Go.RowKit
theorem zzG:(Tryz.prog.info? 61).map (fun i=>(i.zero,i.size,i.bytes))=some (some (.agg #[.int .i64 0,.int .i64 0]),2,16):=by kernel_rfl
theorem zit(ha:Option Addr)(hc:Nat)(hs:List (Int × Int))(p u:Int)(w:World)(J:hs.length<=9223372036854775807)(D:zaw w ha hs) :
  yL 206 #[.slice ha hs.length hc,.agg #[.int .i64 p,.int .i64 u]] w fun e w' => e=.returned (.bool (decide ((p,u) ∈ hs)))/\Below w.heap.size w w' := by
 have d1:=fun F=>zof ha hc hs p u (w.alloc F) J (D.below ((yk _ _).alloc (yj _) F))
 have R:Hid (∀ r:Int,((0<=r)↔(p,u) ∈ hs)->decide (0<=r)=decide ((p,u) ∈ hs)):=fun r h=>by
  by_cases e:(p,u) ∈ hs
  ·rw[yF e,yF (h.2 e)]
  ·rw[yE e,yE (fun x=>e (h.1 x))]
 clear D;generalize decide ((p,u) ∈ hs)=q at *;generalize ((p,u) ∈ hs)=Q at *;generalize hs.length=m at *
 go_enter Tryz.func206,Tryz.ntmps206
 go_wp2_with (go_at_call 216;refine(d1 _).mono ?_;rintro e w1 ⟨r,rfl,M,E⟩;have I:Hid _:=E;clear E)
 go_ret;refine⟨?_,((yk _ _).alloc (yj _) _).trans (M.mono (by simp))⟩;rw[<- R.out r I.out];rfl
theorem zcp{w w1:World}{a:Option Addr}{n c:Nat}{p E x F:Int}(D:Below (w.heap.size+1+1+1+1) ((((w.alloc (.cells #[.slice a n c] 43)).alloc (.cells #[.int .i64 p,.int .i64 E] 61)).alloc (.cells #[.int .i64 x,.int .i64 F] 61)).alloc (.cells #[.slice none 0 0] 43)) w1) :
  w1.cell? ⟨w.heap.size,0,none⟩=some (.slice a n c)/\w1.cell? ⟨w.heap.size+1,0,none⟩=some (.int .i64 p)/\w1.cell? ⟨w.heap.size+1,1,none⟩=some (.int .i64 E)/\w1.cell? ⟨w.heap.size+1+1,0,none⟩=some (.int .i64 x)/\w1.cell? ⟨w.heap.size+1+1,1,none⟩=some (.int .i64 F)/\w1.cell? ⟨w.heap.size+1+1+1,0,none⟩=some (.slice none 0 0)/\(∀ o,w1.frozen? ⟨w.heap.size+1+1+1,o,none⟩=false):=by
 refine⟨?_,?_,?_,?_,?_,?_,fun o=>?_⟩
 ·exact(D.cell (by first|(simp;done)|(simp;omega))).trans (by go_simp)
 ·exact(D.cell (by first|(simp;done)|(simp;omega))).trans (by go_simp)
 ·exact(D.cell (by first|(simp;done)|(simp;omega))).trans (by go_simp)
 ·exact(D.cell (by first|(simp;done)|(simp;omega))).trans (by go_simp)
 ·exact(D.cell (by first|(simp;done)|(simp;omega))).trans (by go_simp)
 ·exact(D.cell (by first|(simp;done)|(simp;omega))).trans (by go_simp)
 ·exact(D.frozen (by first|(simp;done)|(simp;omega))).trans (by go_simp)
theorem zaH(w:World)(D E o3 F:Obj):Below w.heap.size w ((((w.alloc D).alloc E).alloc o3).alloc F):=(zas w D E o3).alloc (by simp;omega) _
theorem zcO{w1:World}{p:Addr}{v:Value}(h:w1.cell? p=some v)(D:Obj):(w1.alloc D).cell? p=some v :=
 (((yk _ _).alloc (yj _) D).cell (yd _ _ h)).trans h
theorem zmL(W:World)(b:Nat)(p u x y:Int)(h1:W.cell? ⟨b,0,none⟩=some (.int .i64 p))(D:W.cell? ⟨b,1,none⟩=some (.int .i64 u))(E:W.cell? ⟨b,2,none⟩=some (.int .i64 x))(F:W.cell? ⟨b,3,none⟩=some (.int .i64 y)):zaw W (some ⟨b,0,none⟩) [(p,u),(x,y)]:=fun i hi=>by
 match i,hi with
 | 0,_=>exact⟨b,0,rfl,by simpa using h1,by simpa using D⟩
 | 1,_=>exact⟨b,0,rfl,by simpa using E,by simpa using F⟩
theorem zfE{w w1:World}{v:Value}{x y:Int}(D:Below (w.heap.size+1+1+1) (((w.alloc (.cells #[v] 43)).alloc (.cells #[.int .i64 x,.int .i64 y] 61)).alloc (.cells #[.bool false,.int .i64 0,.int .i64 0,.int .i64 0,.int .i64 0,.slice none 0 0,.int .i64 0,.bool false] 57)) w1) :
  (w1.cell? ⟨w.heap.size,0,none⟩=some v/\w1.cell? ⟨w.heap.size+1,0,none⟩=some (.int .i64 x)/\w1.cell? ⟨w.heap.size+1,1,none⟩=some (.int .i64 y)) /\
  (w1.cell? ⟨w.heap.size+1+1,0,none⟩=some (.bool false)/\w1.cell? ⟨w.heap.size+1+1,1,none⟩=some (.int .i64 0)/\w1.cell? ⟨w.heap.size+1+1,2,none⟩=some (.int .i64 0)/\w1.cell? ⟨w.heap.size+1+1,3,none⟩=some (.int .i64 0)/\w1.cell? ⟨w.heap.size+1+1,4,none⟩=some (.int .i64 0)/\w1.cell? ⟨w.heap.size+1+1,5,none⟩=some (.slice none 0 0)/\w1.cell? ⟨w.heap.size+1+1,6,none⟩=some (.int .i64 0)/\w1.cell? ⟨w.heap.size+1+1,7,none⟩=some (.bool false)) /\
  (∀ o,w1.frozen? ⟨w.heap.size+1+1,o,none⟩=false)/\Below w.heap.size w w1:=by
 refine⟨⟨?_,?_,?_⟩,⟨?_,?_,?_,?_,?_,?_,?_,?_⟩,fun o=>?_,(zas _ _ _ _).trans (D.mono (by omega))⟩
 all_goals first|exact(D.cell (by first|(simp;done)|(simp;omega))).trans (by go_simp)|exact(D.frozen (by first|(simp;done)|(simp;omega))).trans (by go_simp)
def zaC(S:List Nd)(p u:Int):Int:=if zbr S=0 then zda S p u else zbr S
theorem zfF{S:List Nd}{p u:Int}(h:zaC S p u=0):zbr S=0/\zda S p u=0:=by
 unfold zaC at h;by_cases hc:zbr S=0
 ·rw[yb hc] at h;exact⟨hc,h⟩
 ·rw[ya hc] at h;exact absurd h hc
theorem ziB(a:Option Addr)(c:Nat)(S:List Nd)(p u E:Int)(w:World)(hN:S.length<=9223372036854775807)(hB:Big S)(hS:zah w a S)(I:zaC S p u=E)(a5:E≠0) :
  yL 14 #[.agg #[.slice a S.length c],.agg #[.int .i64 p,.int .i64 u]] w fun e w' => e=.returned (.tuple #[.agg #[.bool false,.int .i64 0,.int .i64 0,.int .i64 0,.int .i64 0,.slice none 0 0,.int .i64 0,.bool false],.int .i64 E])/\Below w.heap.size w w' := by
 have d0:=fun W hW=>zdW a c S W hN hB hW;have d1:=fun W hW=>ziW a c S p u W hN hW;have HS:Hid (zah w a S):=hS;have hz:(E == 0)=false:=by simp[a5]
 unfold zaC at I;by_cases hc:zbr S=0
 ·rw[yb hc] at I;rw[I] at d1;rw[hc] at d0;have D0:Hid _:=d0;have D1:Hid _:=d1;clear hS d0 d1 I hB hc;generalize S.length=n at *
  go_enter Tryz.func14,Tryz.ntmps14
  go_wp2_with (go_at_call 42;refine(D0.out _ (HS.out.below (zas _ _ _ _))).mono ?_;rintro e w1 ⟨rfl,D⟩;simp only[yr] at D;obtain⟨⟨l0,l1,l2⟩,⟨U,Z,z2,z3,z4,z5,z6,z7⟩,J,F⟩:=zfE D)
  refine(D1.out _ (HS.out.below F)).mono ?_;rintro e w2 ⟨rfl,O⟩;have T:=D.size;simp only[yr] at T;have M:=D.trans (O.mono T);clear l0 l1 l2 U Z z2 z3 z4 z5 z6 z7 J F D O;obtain⟨⟨l0,l1,l2⟩,⟨U,Z,z2,z3,z4,z5,z6,z7⟩,J,F⟩:=zfE M
  go_wp2
  refine yv (v:=.tuple #[.agg #[.bool false,.int .i64 0,.int .i64 0,.int .i64 0,.int .i64 0,.slice none 0 0,.int .i64 0,.bool false],.int .i64 E]) (by simp[results,Tryz.results14,go_sem,U,Z,z2,z3,z4,z5,z6,z7]) rfl ⟨rfl,?_⟩;exact(((((((F.setCell (by simp;omega) _).setCell (by simp;omega) _).setCell (by simp;omega) _).setCell (by simp;omega) _).setCell (by simp;omega) _).setCell (by simp;omega) _).setCell (by simp;omega) _).setCell (by simp;omega) _
 ·rw[ya hc] at I;rw[I] at d0;have D0:Hid _:=d0;clear hS d0 d1 I hB hc;generalize S.length=n at *
  go_enter Tryz.func14,Tryz.ntmps14
  go_wp2_with (go_at_call 42;refine(D0.out _ (HS.out.below (zas _ _ _ _))).mono ?_;rintro e w1 ⟨rfl,D⟩;simp only[yr] at D;obtain⟨⟨l0,l1,l2⟩,⟨U,Z,z2,z3,z4,z5,z6,z7⟩,J,F⟩:=zfE D)
  refine yv (v:=.tuple #[.agg #[.bool false,.int .i64 0,.int .i64 0,.int .i64 0,.int .i64 0,.slice none 0 0,.int .i64 0,.bool false],.int .i64 E]) (by simp[results,Tryz.results14,go_sem,U,Z,z2,z3,z4,z5,z6,z7]) rfl ⟨rfl,?_⟩;exact(((((((F.setCell (by simp;omega) _).setCell (by simp;omega) _).setCell (by simp;omega) _).setCell (by simp;omega) _).setCell (by simp;omega) _).setCell (by simp;omega) _).setCell (by simp;omega) _).setCell (by simp;omega) _
theorem find_ok(a:Option Addr)(c:Nat)(S:List Nd)(k:Nat)(u:Int)(w:World)(hN:S.length<=9223372036854775807)(hB:Big S)(hS:zah w a S)(hk:k<S.length)(hE:zaC S k u=0)(hK:(nd S k).ks.length<=1000000) :
  yL 14 #[.agg #[.slice a S.length c],.agg #[.int .i64 k,.int .i64 u]] w fun e w' => ∃ g,e=.returned (.tuple #[.agg #[.bool (nd S k).u,.int .i64 (nd S k).n,.int .i64 (nd S k).t,.int .i64 (nd S k).m,.int .i64 (nd S k).p,.slice (some ⟨g,0,none⟩) (nd S k).ks.length (nd S k).ks.length,.int .i64 (nd S k).h,.bool (nd S k).c],.int .i64 0])/\Below w.heap.size w w' /\ zal w' (some ⟨g,0,none⟩) (nd S k).ks:=by
 have d1:=fun W Z=>ziW a c S k u W hN Z;rw[(zfF hE).2] at d1;have D1:Hid _:=d1;have d0:=fun W Z=>zdW a c S W hN hB Z;rw[(zfF hE).1] at d0;have D0:Hid _:=d0;have HS:Hid (zah w a S):=hS;have d2:=fun ka kc W Z=>zhZ (nd S k) ka kc W hK Z;have D2:Hid _:=d2;have NX:Hid (∀ w1,Below w.heap.size w w1->∃ b o,a=some ⟨b,o,none⟩/\zuS w1 b (o+k*8) (nd S k)):=fun w1 h1=>(hS.below h1) k hk;have b2:(k:Int)<(S.length:Int):=by omega
 have IR:Hid (∀ (W:World) g,W.rowIs g 3 (nd S k).ks.length (fun j=>.int .i64 ((nd S k).ks.getD j 0))->zal W (some ⟨g,0,none⟩) (nd S k).ks):=fun W g h=>zbP h (yj _) (fun _ _=>rfl);clear hS d0 d1 d2 hE hK hB;generalize nd S k=x at *;obtain⟨xu,xn,xt,xm,xp,a9,xh,xc⟩:=x;unfold zuS at NX;dsimp only at *;generalize hL:a9.length=L at *;have HL:Hid _:=hL;clear hL;generalize S.length=n at *
 go_enter Tryz.func14,Tryz.ntmps14
 go_wp2_with (go_at_call 42;refine(D0.out _ (HS.out.below (zas _ _ _ _))).mono ?_;rintro e w0 ⟨rfl,D⟩;simp only[yr] at D;obtain⟨⟨l0,l1,l2⟩,⟨z0,z1,z2,z3,z4,z5,z6,z7⟩,F,M⟩:=zfE D)
 refine(D1.out _ (HS.out.below M)).mono ?_;rintro e w1 ⟨rfl,I⟩;have a7:=D.size;simp only[yr] at a7;have T:=D.trans (I.mono a7);clear l0 l1 l2 z0 z1 z2 z3 z4 z5 z6 z7 F M D I;obtain⟨⟨l0,l1,l2⟩,⟨z0,z1,z2,z3,z4,z5,z6,z7⟩,F,E⟩:=zfE T;obtain⟨b,o,rfl,c0,c1,c2,c3,c4,⟨ka,kc,c5,a6⟩,c6,c7⟩:=NX.out _ E;have b1:Hid _:=a6;have U:Hid _:=T;clear a6 T E
 go_wp2_with fail
 refine(D2.out ka kc _ b1.out).mono ?_;rintro e w2 ⟨g,rfl,a5,hg,O⟩;have a8:=U.out.size;simp only[yr] at a8;have J:=U.out.trans (a5.mono a8);clear l0 l1 l2 z0 z1 z2 z3 z4 z5 z6 z7 F c0 c1 c2 c3 c4 c5 c6 c7;obtain⟨⟨l0,l1,l2⟩,⟨z0,z1,z2,z3,z4,z5,z6,z7⟩,F,E⟩:=zfE J;have b0:Hid _:=E;have HR:Hid (w2.rowIs g 3 L (fun j=>.int .i64 (a9.getD j 0))):=O;clear a5 J E O
 go_wp2
 refine yv (v:=.tuple #[.agg #[.bool xu,.int .i64 xn,.int .i64 xt,.int .i64 xm,.int .i64 xp,.slice (some ⟨g,0,none⟩) L L,.int .i64 xh,.bool xc],.int .i64 0]) (by simp[results,Tryz.results14,go_sem,z0,z1,z2,z3,z4,z5,z6,z7]) rfl ⟨g,rfl,?_,?_⟩
 ·exact(((((((b0.out.setCell (by simp;omega) _).setCell (by simp;omega) _).setCell (by simp;omega) _).setCell (by simp;omega) _).setCell (by simp;omega) _).setCell (by simp;omega) _).setCell (by simp;omega) _).setCell (by simp;omega) _
 ·refine IR.out _ g ?_;exact(((((((HR.out.setOther (by simp;omega) _).setOther (by simp;omega) _).setOther (by simp;omega) _).setOther (by simp;omega) _).setOther (by simp;omega) _).setOther (by simp;omega) _).setOther (by simp;omega) _).setOther (by simp;omega) _
def zrQ(K:Nat)(D:Array Value)(p:Nd->Bool)(w:World):Prop :=
 ∀ (x:Nd) (k:Value) (w1:World),Below w.heap.size w w1->yL K (#[.agg #[.bool x.u,.int .i64 x.n,.int .i64 x.t,.int .i64 x.m,.int .i64 x.p,k,.int .i64 x.h,.bool x.c]] ++ D) w1 fun e E=>e=.returned (.bool (p x))/\Below w1.heap.size w1 E
theorem ziY(K:Nat)(E:Array Value)(p:Nd->Bool)(a:Option Addr)(c:Nat)(S:List Nd)(w:World)(a5:S.length<=9223372036854775807)(Z:zah w a S)
  (eg:∀ args w,(callFunc K args).run Tryz.prog w=.ok (.enter K args) w) (hf:zrQ K E p w) :
  yL 194 #[.slice a S.length c,.func (.func K) #[] E] w fun e w' => ∃ r:Int,e=.returned (.int .i64 r)/\Below w.heap.size w w' /\
   ((r = -1/\∀ i,i<S.length->p (nd S i)=false)\/(∃ k:Nat,k<S.length/\r=k/\p (nd S k)=true/\∀ i,i<k->p (nd S i)=false)):=by
 have HS:Hid (zah w a S):=Z;have HF:Hid (zrQ K E p w):=hf;clear Z hf;generalize hn:S.length=n at *;have HN:Hid _:=hn;clear hn
 go_enter Tryz.func194,Tryz.ntmps194
 go_wp2
 go_loopg [8] n (fun g s8 wr=>∃ k:Nat,k<=n/\n-k<=g/\s8=.int .i64 k/\Below w.heap.size w wr/\Hid (∀ i,i<k->p (nd S i)=false))
 case atStart=>exact⟨0,by omega,by omega,rfl,yk _ _,fun i hi=>by omega⟩
 case round =>
  obtain⟨k,hk,hg,rfl,F,A⟩:=hrel;by_cases J:k<n
  ·have a6:(k:Int)<(n:Int):=(by omega);obtain⟨b,o,rfl,c0,c1,c2,c3,c4,⟨ka,kc,c5,_⟩,T,U⟩:=(HS.out.below F) k (by rw[HN.out];exact J);have D:=fun v=>HF.out (nd S k) v wr F
   cases hq:p (nd S k) with
   | true =>
    have M:Hid (p (nd S k)=true):=hq;rw[hq] at D;clear hq;generalize O:nd S k=x at D c0 c1 c2 c3 c4 c5 T U;clear O
    go_wp2_with (go_at_fn K;refine(D _).mono ?_;rintro e w' ⟨rfl,I⟩)
    go_ret;exact⟨k,rfl,F.trans (I.mono F.size),Or.inr ⟨k,J,rfl,M.out,A.out⟩⟩
   | false =>
    have M:Hid (p (nd S k)=false):=hq;rw[hq] at D;clear hq;generalize O:nd S k=x at D c0 c1 c2 c3 c4 c5 T U;clear O
    go_wp2_with (go_at_fn K;refine(D _).mono ?_;rintro e w' ⟨rfl,I⟩)
    go_roundg (n-(k+1))
    case measure=>omega
    case rel =>
     refine⟨k+1,by omega,by omega,by go_num,F.trans (I.mono F.size),(show Hid _ from fun i hi=>?_)⟩;by_cases e:i=k
     ·subst e;exact M.out
     ·exact A.out i (by omega)
  ·have:k=n:=(by omega);subst this
   go_wp2
   go_ret;exact⟨-1,rfl,F,Or.inl ⟨rfl,A.out⟩⟩
def zfj(S:List Nd)(x:Int):Bool:=S.any fun n=>decide (n.h=x)
theorem zgn{S:List Nd}{x:Int}:zfj S x=false↔∀ i,i<S.length->(nd S i).h≠x:=by
 unfold zfj;rw[List.any_eq_false];constructor
 ·intro H i hi e;have:=H (nd S i) (by rw[zbq hi];exact List.getElem_mem hi);simp[e] at this
 ·intro H y D;obtain⟨i,hi,rfl⟩:=List.getElem_of_mem D;have:=H i hi;rw[zbq hi] at this;simpa using this
theorem zoM(x:Nd)(k:Value)(q:Nat)(y:Int)(w:World)(D:w.cell? ⟨q,0,none⟩=some (.int .i64 y)) :
  yL 208 #[.agg #[.bool x.u,.int .i64 x.n,.int .i64 x.t,.int .i64 x.m,.int .i64 x.p,k,.int .i64 x.h,.bool x.c],.pointer (some ⟨q,0,none⟩)] w fun e w' => e=.returned (.bool (decide (x.h=y)))/\Below w.heap.size w w' := by
 obtain⟨u,n,t,m,p,ks,h,c⟩:=x;dsimp only;have E:=yd _ _ D;by_cases e:h=y
 ·subst e;rw[yF rfl]
  go_enter Tryz.func208,Tryz.ntmps208
  go_wp2
  go_ret;exact⟨rfl,(yk _ _).alloc (yj _) _⟩
 ·rw[yE e];have F:(h == y)=false:=by simpa using e
  go_enter Tryz.func208,Tryz.ntmps208
  go_wp2
  go_ret;exact⟨rfl,(yk _ _).alloc (yj _) _⟩
def zbY(S:List Nd)(x:Int):Int:=if x = -1 then -1 else (match S.findIdx? fun n=>decide (n.h=x) with|some k=>(k:Int)|none=>-1)
theorem zro{S:List Nd}{x:Int}{k:Nat}(I:x≠-1)(D:k<S.length)(h:(nd S k).h=x)(E:∀ i,i<k->(nd S i).h≠x):zbY S x=k:=by
 unfold zbY
 rw[ya I,show S.findIdx? (fun n=>decide (n.h=x))=some k from List.findIdx?_eq_some_iff_getElem.2 ⟨D,by rw[<- zbq D];exact yF h,fun j F=>by
  have:=E j F;rw[zbq (by omega)] at this;simpa using this⟩]
theorem zkU{S:List Nd}{x:Int}(h:∀ i,i<S.length->(nd S i).h≠x):zbY S x = -1:=by
 unfold zbY;by_cases D:x = -1
 ·rw[yb D]
 rw[ya D,show S.findIdx? (fun n=>decide (n.h=x))=none from List.findIdx?_eq_none_iff.2 (fun y E=>by
  obtain⟨i,hi,rfl⟩:=List.getElem_of_mem E;have:=h i hi;rw[zbq hi] at this;simpa using this)]
theorem zrn{S:List Nd}{x:Int}(F:x≠-1):decide (zbY S x = -1) = !zfj S x:=by
 cases hb:zfj S x with
 | false=>rw[zkU (zgn.1 hb)];rfl
 | true =>
  have D:zbY S x≠-1:=by
   intro h;unfold zbY at h;rw[ya F] at h
   split at h
   ·omega
   ·next hn =>
    have:=List.findIdx?_eq_none_iff.1 hn;unfold zfj at hb;obtain⟨y,I,E⟩:=List.any_eq_true.1 hb;rw[this y I] at E;cases E
  rw[yE D];rfl
theorem zdo(a:Option Addr)(c:Nat)(S:List Nd)(x:Int)(w:World)(hN:S.length<=9223372036854775807)(J:zah w a S) :
  yL 196 #[.agg #[.slice a S.length c],.int .i64 x] w fun e w' => e=.returned (.int .i64 (zbY S x))/\Below w.heap.size w w' := by
 have HS:Hid (zah w a S):=J;by_cases I:x = -1
 ·have F:zbY S x = -1:=by unfold zbY;rw[yb I]
  rw[F];subst I;clear J F;generalize S.length=n at *
  go_enter Tryz.func196,Tryz.ntmps196
  go_wp2
  go_ret;exact⟨rfl,((yk _ _).alloc (yj _) _).alloc (by simp) _⟩
 ·have Z:∀ w1:World,w1.cell? ⟨w.heap.size+1,0,none⟩=some (.int .i64 x)->zrQ 208 #[.pointer (some ⟨w.heap.size+1,0,none⟩)] (fun n=>decide (n.h=x)) w1:=fun w1 h1 y k w2 O =>
   zoM y k (w.heap.size+1) x w2 ((O.cell (yd w1 _ h1)).trans h1)
  have D:Hid (∀ (W:World),zah W a S->W.cell? ⟨w.heap.size+1,0,none⟩=some (.int .i64 x)->Calls _ _ _ _ _):=fun W h1 h2=>ziY 208 #[.pointer (some ⟨w.heap.size+1,0,none⟩)] (fun n=>decide (n.h=x)) a c S W hN h1 (yJ Tryz.func208 (by kernel_rfl) rfl) (Z W h2);have H1:Hid (∀ k,k<S.length->decide ((nd S k).h=x)=true->(∀ i,i<k->decide ((nd S i).h=x)=false)->zbY S x=k):=fun k U h T=>zro I U (of_decide_eq_true h) (fun i hi=>of_decide_eq_false (T i hi));have H2:Hid ((∀ i,i<S.length->decide ((nd S i).h=x)=false)->zbY S x = -1):=fun h=>zkU (fun i hi=>of_decide_eq_false (h i hi));have a5:(x == -1)=false:=by simpa using I
  clear J Z
  go_enter Tryz.func196,Tryz.ntmps196
  go_wp2_with (first
   |(go_at_call 194;refine(D.out _ (HS.out.below (((yk _ _).alloc (yj _) _).alloc (by simp) _)) (by go_simp)).mono ?_;rintro e w1 ⟨r,rfl,M,F⟩)
   | go_in)
  go_ret;refine⟨?_,(((yk _ _).alloc (yj _) _).alloc (by simp) _).trans (M.mono (by simp;omega))⟩;rcases F with ⟨rfl,E⟩ |⟨k,U,rfl,hp,T⟩
  ·rw[H2.out E];rfl
  ·rw[H1.out k U hp T];rfl
theorem zee(a:Option Addr)(c:Nat)(S:List Nd)(x:Int)(w:World)(T:S.length<=9223372036854775807)(M:zah w a S)(O:x≠-1) :
  yL 184 #[.agg #[.slice a S.length c],.int .i64 x] w fun e w' => e=.returned (.bool (zfj S x))/\Below w.heap.size w w' := by
 have D:Hid (∀ (W:World),zah W a S->Calls _ _ _ _ _):=fun W U=>zdo a c S x W T U;have J:Hid (zah w a S):=M;have I:=zrn (S:=S) O;clear M O;generalize S.length=n at *;generalize zbY S x=r at *
 cases hb:zfj S x with
 | true =>
  rw[hb] at I;have F:(r == -1)=false:=by simpa using I
  clear I hb
  go_enter Tryz.func184,Tryz.ntmps184
  go_wp2_with (go_at_call 196;refine(D.out _ (J.out.below ((yk _ _).alloc (yj _) _))).mono ?_;rintro e w1 ⟨rfl,E⟩)
  go_ret;refine⟨?_,((yk _ _).alloc (yj _) _).trans (E.mono (by simp))⟩;show Ending.returned (.bool (r != -1))=_;simp[bne,F]
 | false =>
  rw[hb] at I;have F:r = -1:=by simpa using I
  subst F;clear I hb
  go_enter Tryz.func184,Tryz.ntmps184
  go_wp2_with (go_at_call 196;refine(D.out _ (J.out.below ((yk _ _).alloc (yj _) _))).mono ?_;rintro e w1 ⟨rfl,E⟩)
  go_ret;exact⟨rfl,((yk _ _).alloc (yj _) _).trans (E.mono (by simp))⟩
theorem zkf(a:Option Addr)(c:Nat)(S:List Nd)(w:World)(hn:S.length<=9223372036854775807)(I:zah w a S)(D:S.any zcn=false) :
  yL 194 #[.slice a S.length c,.func (.func 195) #[] #[]] w fun e w' => e=.returned (.int .i64 (-1))/\Below w.heap.size w w' :=
 (ziY 195 #[] zcn a c S w hn I (yJ Tryz.func195 (by kernel_rfl) rfl) (fun x k w1 _=>zkF x k w1)).mono (fun e w' ⟨r,F,J,O⟩=>by
  rcases O with ⟨rfl,_⟩ |⟨k,E,_,M,_⟩
  ·exact⟨F,J⟩
  ·have:=List.any_eq_false.1 D (nd S k) (by rw[zbq E];exact List.getElem_mem E);exact absurd M this)
def zfl(S:List Nd)(t:Int):Int:=if zbr S=0 then (if 0<=t/\t<=99 then (if S.any zcn then 0 else 1) else 2) else zbr S
theorem zqu{S:List Nd}(h:S.any zcn=true):∃ k,k<S.length/\zcn (nd S k)=true/\∀ i,i<k->zcn (nd S i)=false:=by
 obtain⟨x,I,F⟩:=List.any_eq_true.1 h;obtain⟨i,hi,rfl⟩:=List.getElem_of_mem I;rw[<- zbq hi] at F;clear I h
 induction i using Nat.strongRecOn with
 | ind i J =>
  by_cases hex:∃ j,j<i/\zcn (nd S j)=true
  ·obtain⟨j,E,D⟩:=hex;exact J j E (by omega) D
  ·refine⟨i,hi,F,fun j E=>?_⟩
   cases hq:zcn (nd S j) with
   | false=>rfl
   | true=>exact absurd ⟨j,E,hq⟩ hex
theorem zpr(a:Option Addr)(c:Nat)(S:List Nd)(t E:Int)(w:World)(hN:S.length<=9223372036854775807)(hB:Big S)(hS:zah w a S)(I:zfl S t=E)(J:E≠0) :
  yL 182 #[.agg #[.slice a S.length c],.int .i64 t] w fun e w' => e=.returned (.tuple #[.agg #[.slice none 0 0],.agg #[.int .i64 0,.int .i64 0],.int .i64 E])/\Below w.heap.size w w' := by
 have d0:=fun W hW=>zdW a c S W hN hB hW;have HS:Hid (zah w a S):=hS;unfold zfl at I;by_cases hc:zbr S=0
 ·rw[yb hc] at I;rw[hc] at d0;have D0:Hid _:=d0;by_cases ht:0<=t/\t<=99
  ·rw[yb ht] at I
   cases hf:S.any zcn with
   | true=>rw[hf] at I;exact absurd I.symm J
   | false =>
    rw[hf,ya (by simp)] at I;have DF:Hid (∀ W,zah W a S->Calls _ _ _ _ _):=fun W hW=>zkf a c S W hN hW hf;obtain⟨a8,a9⟩:=ht;subst I;clear hS d0 hB hc hf J;generalize S.length=n at *
    go_enter Tryz.func182,Tryz.ntmps182
    go_wp2_with (go_at_call 42;refine(D0.out _ (HS.out.below (zas _ _ _ _))).mono ?_;rintro e w0 ⟨rfl,D⟩;simp only[yr] at D;obtain⟨l0,O,T,U,z1,z2,z3⟩:=zdI D;have F:Below w.heap.size w w0:=(zas _ _ _ _).trans (D.mono (by omega)))
    go_wp2_with (go_at_call 66;refine(zet _ _ _ _ (by omega) (by omega)).mono ?_;rintro e w' ⟨rfl,rfl⟩)
    refine(DF.out _ (HS.out.below F)).mono ?_;rintro e w1 ⟨rfl,M⟩;have a6:=D.size;simp only[yr] at a6;have a5:=D.trans (M.mono a6);have Z:Below w.heap.size w w1:=(zas _ _ _ _).trans (a5.mono (by omega));clear l0 O T U z1 z2 z3 D M F;obtain⟨l0,O,T,U,z1,z2,z3⟩:=zdI a5
    go_wp2
    refine yv (v:=.tuple #[.agg #[.slice none 0 0],.agg #[.int .i64 0,.int .i64 0],.int .i64 1]) (by simp[results,Tryz.results182,go_sem,O,T,U]) rfl ⟨rfl,?_⟩
    first|exact((Z.setCell (by simp) _).setCell (by simp;omega) _).setCell (by simp;omega) _|exact(((Z.setCell (by simp) _).setCell (by simp;omega) _).setCell (by simp;omega) _).drew
  ·rw[ya ht] at I;have a7:t<0\/99<t:=(by omega);subst I;clear hS d0 hB hc ht J;generalize S.length=n at *
   go_enter Tryz.func182,Tryz.ntmps182
   go_wp2_with (go_at_call 42;refine(D0.out _ (HS.out.below (zas _ _ _ _))).mono ?_;rintro e w0 ⟨rfl,D⟩;simp only[yr] at D;obtain⟨l0,O,T,U,z1,z2,z3⟩:=zdI D;have F:Below w.heap.size w w0:=(zas _ _ _ _).trans (D.mono (by omega)))
   go_wp2_with (go_at_call 66;refine(zhi _ _ _ _ a7).mono ?_;rintro e w' ⟨rfl,rfl⟩)
   refine yv (v:=.tuple #[.agg #[.slice none 0 0],.agg #[.int .i64 0,.int .i64 0],.int .i64 2]) (by simp[results,Tryz.results182,go_sem,O,T,U]) rfl ⟨rfl,?_⟩
   first|exact((F.setCell (by simp) _).setCell (by simp;omega) _).setCell (by simp;omega) _|exact(((F.setCell (by simp) _).setCell (by simp;omega) _).setCell (by simp;omega) _).drew
 ·rw[ya hc] at I;rw[I] at d0;have D0:Hid _:=d0;have hz:(E == 0)=false:=by simp[J]
  clear hS d0 I hB hc;generalize S.length=n at *
  go_enter Tryz.func182,Tryz.ntmps182
  go_wp2_with (go_at_call 42;refine(D0.out _ (HS.out.below (zas _ _ _ _))).mono ?_;rintro e w0 ⟨rfl,D⟩;simp only[yr] at D;obtain⟨l0,O,T,U,z1,z2,z3⟩:=zdI D;have F:Below w.heap.size w w0:=(zas _ _ _ _).trans (D.mono (by omega)))
  refine yv (v:=.tuple #[.agg #[.slice none 0 0],.agg #[.int .i64 0,.int .i64 0],.int .i64 E]) (by simp[results,Tryz.results182,go_sem,O,T,U]) rfl ⟨rfl,?_⟩
  first|exact((F.setCell (by simp) _).setCell (by simp;omega) _).setCell (by simp;omega) _|exact(((F.setCell (by simp) _).setCell (by simp;omega) _).setCell (by simp;omega) _).drew
theorem WF.leaveG{S:List Nd}(h:WF S){D:Nat}(hch:D<S.length):WF (leaveG S D):=by
 unfold Go.Proofs.YtcbcpomacdngmaaGreat.leaveG;split
 ·exact h
 ·rename_i E;obtain⟨pa,e,_⟩:=h.parent_place hch E;rw[e,yi];exact h.leave hch e
theorem zfK(S:List Nd)(D j:Nat):(nd (leaveG S D) j).u=(nd S j).u/\(nd (leaveG S D) j).n=(nd S j).n/\(nd (leaveG S D) j).h=(nd S j).h/\(nd (leaveG S D) j).t=(nd S j).t/\(nd (leaveG S D) j).m=(nd S j).m/\(nd (leaveG S D) j).c=(nd S j).c:=by
 unfold leaveG;split
 ·exact⟨rfl,rfl,rfl,rfl,rfl,rfl⟩
 ·exact zgr S _ D j
theorem zlD(S:List Nd){D j:Nat}(E:j<S.length):(nd (leaveG S D) j).p=if j=D then -1 else (nd S j).p:=by
 unfold leaveG;split
 ·rename_i h;split
  ·rename_i e;rw[e];exact h
  ·rfl
 ·exact zhB S E
theorem zmR{S:List Nd}{pa D:Nat}(hpa:pa<S.length)(I:zbv S pa D=false):zbv (leaveG S D) pa D=false:=by
 cases hb:zbv (leaveG S D) pa D with
 | false=>rfl
 | true =>
  have hl:=zbl S D;obtain⟨j,O,J,T⟩:=zfQ (by rw[hl];exact hpa) hb;rw[hl] at J
  have:Up S j pa D:=zlZ hl (fun y M z E=>by
   unfold zak at *;rw[(zfK S D y).2.2.1,zlD S M] at E;by_cases F:y=D
   ·subst F;rw[yb rfl] at E;by_cases hh:(nd S y).h = -1
    ·rw[yb hh] at E;omega
    ·rw[ya hh] at E |-;exact E
   ·rw[ya F] at E;exact E) hpa T
  rw[zpT hpa O J this] at I;cases I
theorem zkE{S:List Nd}{D pa:Nat}(h:ziU S D pa=true):(nd S D).h = -1/\pa≠D/\zbv S pa D=false:=by
 unfold ziU at h;simp only[Bool.and_eq_true,Bool.not_eq_true', decide_eq_true_eq,decide_eq_false_iff_not] at h;exact⟨h.1,fun e=>h.2.1 (by rw[e]),h.2.2⟩
structure zyW (S:List Nd) (pa ch:Nat):Prop where
 wf:WF S
 hpa:pa<S.length
 hch:ch<S.length
 hpu:(nd S pa).u=true
 hcu:(nd S ch).u=true
 fits:ziU S ch pa=true
theorem zyW.insert{S:List Nd}{pa D:Nat}(h:zyW S pa D)(at' : Nat):WF (zbo (leaveG S D) pa D at'):=by
 obtain⟨f1,f2,f3⟩:=zkE h.fits;have hl:=zbl S D;refine(h.wf.leaveG h.hch).enter (by rw[hl];exact h.hpa) (by rw[hl];exact h.hch) ?_ ?_ ?_ ?_ f2 (zmR h.hpa f3)
 ·rw[(zfK S D pa).1];exact h.hpu
 ·rw[(zfK S D D).1];exact h.hcu
 ·rw[zlD S h.hch,yb rfl]
 ·rw[(zfK S D D).2.2.1];exact f1
theorem zzC{ks:List Int}{v:Int}(h:v ∈ ks):∃ k:Nat,idx ks v=k/\k<ks.length/\ks.getD k 0=v:=by
 refine⟨ks.idxOf v,by unfold idx;rw[yb h],List.idxOf_lt_length_of_mem h,?_⟩;rw[zae ks 0 (List.idxOf_lt_length_of_mem h)];exact List.getElem_idxOf (List.idxOf_lt_length_of_mem h)
theorem zyW.ahead{S:List Nd}{pa D q:Nat}(h:zyW S pa D)(I:q<S.length)(F:(nd S q).p=pa)(E:q≠D):∃ at' : Nat,idx (nd (leaveG S D) pa).ks q=at' /\ at' < (nd (leaveG S D) pa).ks.length/\(nd (leaveG S D) pa).ks.getD at' 0=q:=by
 have hl:=zbl S D;have:=(h.wf.leaveG h.hch).in_kids (k:=q) (y:=pa) (by rw[hl];exact I) (by rw[zlD S I,ya E];exact F);exact zzC this.2
theorem WF.kids_small{S:List Nd}(h:WF S){i:Nat}(hi:i<S.length):(nd S i).ks.length<=24:=by
 have h1:=h.kids_nodup hi
 have:=h1.length_le_of_subset (l₂:=(List.range S.length).map (fun k:Nat=>(k:Int))) (fun x E=>by
  obtain⟨k,rfl,D,_⟩:=h.kid hi E;exact List.mem_map.2 ⟨k,List.mem_range.2 D,rfl⟩)
 rw[List.length_map,List.length_range] at this;exact yG this h.small
theorem WF.big{S:List Nd}(h:WF S):Big S:=fun _ hi=>yG (h.kids_small hi) (by omega)
theorem zqD{S:List Nd}{k:Nat}{u:Int}(E:k<S.length)(F:(nd S k).u=true)(hn:(nd S k).n=u)(h:WF S):zda S k u=0:=by
 have h1:=(zbj (h.node k E)).1;have D:=(zbj (h.node k E)).2.2;unfold zec at D;rw[yb F] at D;unfold zcT at h1;simp only[Bool.and_eq_true,decide_eq_true_eq] at h1;have I:(nd S k).n≠0:=fun e=>by rw[yb e] at D;cases D
 unfold zda;rw[yb (show zie S.length (k:Int)=true from yF ⟨by omega,by omega⟩),yi];unfold ztc;rw[yb (yF ⟨by omega,by omega⟩),yb F,yb hn]
theorem zuE{S:List Nd}{k:Nat}{u:Int}(D:k<S.length)(E:(nd S k).u=true)(hn:(nd S k).n=u)(h:WF S):zbd S [((k:Int),u)]=0:=by
 unfold zbd;rw[yb ((zfz S).2 h),zmK];exact zqD D E hn h
end Go.Proofs.YtcbcpomacdngmaaGreat
