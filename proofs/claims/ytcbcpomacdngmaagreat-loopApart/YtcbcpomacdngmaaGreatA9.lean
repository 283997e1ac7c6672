/-
  x
-/
import Derived.Test.YtcbcpomacdngmaaGreatA8
import Derived.Deep.RegionLawGrows
namespace Go.Proofs.YtcbcpomacdngmaaGreat
set_option maxRecDepth 100000
set_option maxHeartbeats 4000000
set_option linter.unusedVariables false
open Go.RowKit Tryz
variable{S:List Nd}{x u p:Int}{D pa k:Nat}{w1 w:Wd}{v:Value}
theorem Db:(prog.info? 61).map (fun i=>(i.zero,i.size,i.bytes))=some (some (.agg #[.int .i64 0,.int .i64 0]),2,16):=by kernel_rfl
theorem Dc(ha:OA)(hc:Nat)(hs:List (Int × Int))(p u:Int)(w:Wd)(J:hs.length<=9223372036854775807)(D:aZ w ha hs) :
  yO 206 #[.slice ha hs.length hc,.agg #[.int .i64 p,.int .i64 u]] w fun e w' => e=.returned (.bool (decide ((p,u) ∈ hs)))/\Below w.heap.size w w' := by
 have d1:=fun F=>Cm ha hc hs p u (w.alloc F) J (D.below ((yv _ _).alloc (yr _) F))
 have R:Hid (∀ r:Int,((0<=r)↔(p,u) ∈ hs)->decide (0<=r)=decide ((p,u) ∈ hs)):=fun r h=>by
  by_cases e:(p,u) ∈ hs
  ·rw[yI e,yI (h.2 e)]
  ·rw[yH e,yH (fun x=>e (h.1 x))]
 clear D;generalize decide ((p,u) ∈ hs)=q at *;generalize ((p,u) ∈ hs)=Q at *;generalize hs.length=m at *
 go_enter func206,ntmps206
 go_wp2_with (go_at_call 216;refine(d1 _).mono ?_;rintro e w1 ⟨r,rfl,hb,E⟩;have I:Hid _:=E;clear E)
 go_ret;refine⟨?_,((yv _ _).alloc (yr _) _).trans (hb.mono (by simp))⟩;rw[<- R.o r I.o];rfl
theorem mR{a:OA}{n c:Nat}{D E:Int}(hb:Below (w.heap.size+1+1+1+1) ((((w.alloc (.cells #[.slice a n c] 43)).alloc (.cells #[.int .i64 p,.int .i64 D] 61)).alloc (.cells #[.int .i64 x,.int .i64 E] 61)).alloc (.cells #[.slice none 0 0] 43)) w1) :
  w1.cell? ⟨w.heap.size,0,none⟩=some (.slice a n c)/\w1.cell? ⟨w.heap.size+1,0,none⟩=some (.int .i64 p)/\w1.cell? ⟨w.heap.size+1,1,none⟩=some (.int .i64 D)/\w1.cell? ⟨w.heap.size+1+1,0,none⟩=some (.int .i64 x)/\w1.cell? ⟨w.heap.size+1+1,1,none⟩=some (.int .i64 E)/\w1.cell? ⟨w.heap.size+1+1+1,0,none⟩=some (.slice none 0 0)/\(∀ o,w1.frozen? ⟨w.heap.size+1+1+1,o,none⟩=false):=by
 refine⟨?_,?_,?_,?_,?_,?_,fun o=>?_⟩
 ·exact(hb.cell (by first|(simp;done)|(simp;omega))).trans (by go_simp)
 ·exact(hb.cell (by first|(simp;done)|(simp;omega))).trans (by go_simp)
 ·exact(hb.cell (by first|(simp;done)|(simp;omega))).trans (by go_simp)
 ·exact(hb.cell (by first|(simp;done)|(simp;omega))).trans (by go_simp)
 ·exact(hb.cell (by first|(simp;done)|(simp;omega))).trans (by go_simp)
 ·exact(hb.cell (by first|(simp;done)|(simp;omega))).trans (by go_simp)
 ·exact(hb.frozen (by first|(simp;done)|(simp;omega))).trans (by go_simp)
theorem fB(w:Wd)(D E o3 F:Obj):Bl w ((((w.alloc D).alloc E).alloc o3).alloc F):=(dC w D E o3).alloc (by simp;omega) _
theorem nO{p:Addr}(h:w1.cell? p=some v)(D:Obj):(w1.alloc D).cell? p=some v :=
 (((yv _ _).alloc (yr _) D).cell (yi _ _ h)).trans h
theorem QM(W:Wd)(b:Nat)(p u x y:Int)(h1:W.cell? ⟨b,0,none⟩=some (.int .i64 p))(D:W.cell? ⟨b,1,none⟩=some (.int .i64 u))(E:W.cell? ⟨b,2,none⟩=some (.int .i64 x))(F:W.cell? ⟨b,3,none⟩=some (.int .i64 y)):aZ W (some ⟨b,0,none⟩) [(p,u),(x,y)]:=fun i hi=>by
 match i,hi with
 | 0,_=>exact⟨b,0,rfl,by simpa using h1,by simpa using D⟩
 | 1,_=>exact⟨b,0,rfl,by simpa using E,by simpa using F⟩
theorem uB{y:Int}(hb:Below (w.heap.size+1+1+1) (((w.alloc (.cells #[v] 43)).alloc (.cells #[.int .i64 x,.int .i64 y] 61)).alloc (.cells #[.bool false,.int .i64 0,.int .i64 0,.int .i64 0,.int .i64 0,.slice none 0 0,.int .i64 0,.bool false] 57)) w1) :
  (w1.cell? ⟨w.heap.size,0,none⟩=some v/\w1.cell? ⟨w.heap.size+1,0,none⟩=some (.int .i64 x)/\w1.cell? ⟨w.heap.size+1,1,none⟩=some (.int .i64 y)) /\
  (w1.cell? ⟨w.heap.size+1+1,0,none⟩=some (.bool false)/\w1.cell? ⟨w.heap.size+1+1,1,none⟩=some (.int .i64 0)/\w1.cell? ⟨w.heap.size+1+1,2,none⟩=some (.int .i64 0)/\w1.cell? ⟨w.heap.size+1+1,3,none⟩=some (.int .i64 0)/\w1.cell? ⟨w.heap.size+1+1,4,none⟩=some (.int .i64 0)/\w1.cell? ⟨w.heap.size+1+1,5,none⟩=some (.slice none 0 0)/\w1.cell? ⟨w.heap.size+1+1,6,none⟩=some (.int .i64 0)/\w1.cell? ⟨w.heap.size+1+1,7,none⟩=some (.bool false)) /\
  (∀ o,w1.frozen? ⟨w.heap.size+1+1,o,none⟩=false)/\Below w.heap.size w w1:=by
 refine⟨⟨?_,?_,?_⟩,⟨?_,?_,?_,?_,?_,?_,?_,?_⟩,fun o=>?_,(dC _ _ _ _).trans (hb.mono (by omega))⟩
 all_goals first|exact(hb.cell (by first|(simp;done)|(simp;omega))).trans (by go_simp)|exact(hb.frozen (by first|(simp;done)|(simp;omega))).trans (by go_simp)
def aP(S:List Nd)(p u:Int):Int:=if dG S=0 then iX S p u else dG S
theorem AR(h:aP S p u=0):dG S=0/\iX S p u=0:=by
 unfold aP at h;by_cases hc:dG S=0
 ·rw[ye hc] at h;exact⟨hc,h⟩
 ·rw[yd hc] at h;exact absurd h hc
theorem AU(a:OA)(c:Nat)(S:List Nd)(p u E:Int)(w:Wd)(hN:S.length<=9223372036854775807)(hB:Big S)(hS:aD w a S)(I:aP S p u=E)(a5:E≠0) :
  yO 14 #[.agg #[.slice a S.length c],.agg #[.int .i64 p,.int .i64 u]] w fun e w' => e=.returned (.tuple #[.agg #[.bool false,.int .i64 0,.int .i64 0,.int .i64 0,.int .i64 0,.slice none 0 0,.int .i64 0,.bool false],.int .i64 E])/\Below w.heap.size w w' := by
 have d0:=fun W hW=>tV a c S W hN hB hW;have d1:=fun W hW=>IC a c S p u W hN hW;have HS:Hid (aD w a S):=hS;have hz:(E == 0)=false:=by simp[a5]
 unfold aP at I;by_cases hc:dG S=0
 ·rw[ye hc] at I;rw[I] at d1;rw[hc] at d0;have D0:Hid _:=d0;have D1:Hid _:=d1;clear hS d0 d1 I hB hc;generalize S.length=n at *
  go_enter func14,ntmps14
  go_wp2_with (go_at_call 42;refine(D0 _ (HS.below (dC _ _ _ _))).mono ?_;rintro e w1 ⟨rfl,D⟩;simp only[yw] at D;obtain⟨⟨l0,l1,l2⟩,⟨U,Z,z2,z3,z4,z5,z6,z7⟩,J,F⟩:=uB D)
  refine(D1 _ (HS.below F)).mono ?_;rintro e w2 ⟨rfl,O⟩;have T:=D.size;simp only[yw] at T;have M:=D.trans (O.mono T);clear l0 l1 l2 U Z z2 z3 z4 z5 z6 z7 J F D O;obtain⟨⟨l0,l1,l2⟩,⟨U,Z,z2,z3,z4,z5,z6,z7⟩,J,F⟩:=uB M
  go_wp2
  refine yz (v:=.tuple #[.agg #[.bool false,.int .i64 0,.int .i64 0,.int .i64 0,.int .i64 0,.slice none 0 0,.int .i64 0,.bool false],.int .i64 E]) (by simp[results,results14,go_sem,U,Z,z2,z3,z4,z5,z6,z7]) rfl ⟨rfl,?_⟩;exact(((((((F.setCell (by simp;omega) _).setCell (by simp;omega) _).setCell (by simp;omega) _).setCell (by simp;omega) _).setCell (by simp;omega) _).setCell (by simp;omega) _).setCell (by simp;omega) _).setCell (by simp;omega) _
 ·rw[yd hc] at I;rw[I] at d0;have D0:Hid _:=d0;clear hS d0 d1 I hB hc;generalize S.length=n at *
  go_enter func14,ntmps14
  go_wp2_with (go_at_call 42;refine(D0 _ (HS.below (dC _ _ _ _))).mono ?_;rintro e w1 ⟨rfl,D⟩;simp only[yw] at D;obtain⟨⟨l0,l1,l2⟩,⟨U,Z,z2,z3,z4,z5,z6,z7⟩,J,F⟩:=uB D)
  refine yz (v:=.tuple #[.agg #[.bool false,.int .i64 0,.int .i64 0,.int .i64 0,.int .i64 0,.slice none 0 0,.int .i64 0,.bool false],.int .i64 E]) (by simp[results,results14,go_sem,U,Z,z2,z3,z4,z5,z6,z7]) rfl ⟨rfl,?_⟩;exact(((((((F.setCell (by simp;omega) _).setCell (by simp;omega) _).setCell (by simp;omega) _).setCell (by simp;omega) _).setCell (by simp;omega) _).setCell (by simp;omega) _).setCell (by simp;omega) _).setCell (by simp;omega) _
theorem find_ok(a:OA)(c:Nat)(S:List Nd)(k:Nat)(u:Int)(w:Wd)(hN:S.length<=9223372036854775807)(hB:Big S)(hS:aD w a S)(hk:k<S.length)(hE:aP S k u=0)(hK:(nd S k).ks.length<=1000000) :
  yO 14 #[.agg #[.slice a S.length c],.agg #[.int .i64 k,.int .i64 u]] w fun e w' => ∃ g,e=.returned (.tuple #[.agg #[.bool (nd S k).u,.int .i64 (nd S k).n,.int .i64 (nd S k).t,.int .i64 (nd S k).m,.int .i64 (nd S k).p,.slice (some ⟨g,0,none⟩) (nd S k).ks.length (nd S k).ks.length,.int .i64 (nd S k).h,.bool (nd S k).c],.int .i64 0])/\Below w.heap.size w w' /\ aG w' (some ⟨g,0,none⟩) (nd S k).ks:=by
 have d1:=fun W Z=>IC a c S k u W hN Z;rw[(AR hE).2] at d1;have D1:Hid _:=d1;have d0:=fun W Z=>tV a c S W hN hB Z;rw[(AR hE).1] at d0;have D0:Hid _:=d0;have HS:Hid (aD w a S):=hS;have d2:=fun ka kc W Z=>QA (nd S k) ka kc W hK Z;have D2:Hid _:=d2;have NX:Hid (∀ w1,Bl w w1->∃ b o,a=some ⟨b,o,none⟩/\nM w1 b (o+k*8) (nd S k)):=fun w1 h1=>(hS.below h1) k hk;have b2:(k:Int)<(S.length:Int):=by omega
 have IR:Hid (∀ (W:Wd) g,W.rowIs g 3 (nd S k).ks.length (fun j=>.int .i64 ((nd S k).ks.getD j 0))->aG W (some ⟨g,0,none⟩) (nd S k).ks):=fun W g h=>qB h (yr _) (fun _ _=>rfl);clear hS d0 d1 d2 hE hK hB;generalize nd S k=x at *;obtain⟨xu,xn,xt,xm,xp,a9,xh,xc⟩:=x;unfold nM at NX;dsimp only at *;generalize hL:a9.length=L at *;have HL:Hid _:=hL;clear hL;generalize S.length=n at *
 go_enter func14,ntmps14
 go_wp2_with (go_at_call 42;refine(D0 _ (HS.below (dC _ _ _ _))).mono ?_;rintro e w0 ⟨rfl,D⟩;simp only[yw] at D;obtain⟨⟨l0,l1,l2⟩,⟨z0,z1,z2,z3,z4,z5,z6,z7⟩,F,M⟩:=uB D)
 refine(D1 _ (HS.below M)).mono ?_;rintro e w1 ⟨rfl,I⟩;have a7:=D.size;simp only[yw] at a7;have T:=D.trans (I.mono a7);clear l0 l1 l2 z0 z1 z2 z3 z4 z5 z6 z7 F M D I;obtain⟨⟨l0,l1,l2⟩,⟨z0,z1,z2,z3,z4,z5,z6,z7⟩,F,E⟩:=uB T;obtain⟨b,o,rfl,c0,c1,c2,c3,c4,⟨ka,kc,c5,a6⟩,c6,c7⟩:=NX.o _ E;have b1:Hid _:=a6;have U:Hid _:=T;clear a6 T E
 go_wp2_with fail
 refine(D2 ka kc _ b1.o).mono ?_;rintro e w2 ⟨g,rfl,a5,hg,O⟩;have a8:=U.size;simp only[yw] at a8;have J:=U.trans (a5.mono a8);clear l0 l1 l2 z0 z1 z2 z3 z4 z5 z6 z7 F c0 c1 c2 c3 c4 c5 c6 c7;obtain⟨⟨l0,l1,l2⟩,⟨z0,z1,z2,z3,z4,z5,z6,z7⟩,F,E⟩:=uB J;have b0:Hid _:=E;have HR:Hid (w2.rowIs g 3 L (fun j=>.int .i64 (a9.getD j 0))):=O;clear a5 J E O
 go_wp2
 refine yz (v:=.tuple #[.agg #[.bool xu,.int .i64 xn,.int .i64 xt,.int .i64 xm,.int .i64 xp,.slice (some ⟨g,0,none⟩) L L,.int .i64 xh,.bool xc],.int .i64 0]) (by simp[results,results14,go_sem,z0,z1,z2,z3,z4,z5,z6,z7]) rfl ⟨g,rfl,?_,?_⟩
 ·exact(((((((b0.setCell (by simp;omega) _).setCell (by simp;omega) _).setCell (by simp;omega) _).setCell (by simp;omega) _).setCell (by simp;omega) _).setCell (by simp;omega) _).setCell (by simp;omega) _).setCell (by simp;omega) _
 ·refine IR.o _ g ?_;exact(((((((HR.setOther (by simp;omega) _).setOther (by simp;omega) _).setOther (by simp;omega) _).setOther (by simp;omega) _).setOther (by simp;omega) _).setOther (by simp;omega) _).setOther (by simp;omega) _).setOther (by simp;omega) _
def IW(K:Nat)(D:Array Value)(p:Nd->Bool)(w:Wd):Prop :=
 ∀ (x:Nd) (k:Value) (w1:Wd),Bl w w1->yO K (#[.agg #[.bool x.u,.int .i64 x.n,.int .i64 x.t,.int .i64 x.m,.int .i64 x.p,k,.int .i64 x.h,.bool x.c]] ++ D) w1 fun e w2=>e=.returned (.bool (p x))/\Below w1.heap.size w1 w2
theorem QN(K:Nat)(E:Array Value)(p:Nd->Bool)(a:OA)(c:Nat)(S:List Nd)(w:Wd)(Z:S.length<=9223372036854775807)(U:aD w a S)
  (eg:∀ args w,(callFunc K args).run prog w=.ok (.enter K args) w) (hf:IW K E p w) :
  yO 194 #[.slice a S.length c,.func (.func K) #[] E] w fun e w' => ∃ r:Int,e=.returned (.int .i64 r)/\Below w.heap.size w w' /\
   ((r = -1/\∀ i,i<S.length->p (nd S i)=false)\/(∃ k:Nat,k<S.length/\r=k/\p (nd S k)=true/\∀ i,i<k->p (nd S i)=false)):=by
 have HS:Hid (aD w a S):=U;have HF:Hid (IW K E p w):=hf;clear U hf;generalize hn:S.length=n at *;have HN:Hid _:=hn;clear hn
 go_enter func194,ntmps194
 go_wp2
 go_loopg [8] n (fun g s8 wr=>∃ k:Nat,k<=n/\n-k<=g/\s8=.int .i64 k/\Below w.heap.size w wr/\Hid (∀ i,i<k->p (nd S i)=false))
 case atStart=>exact⟨0,by omega,by omega,rfl,yv _ _,fun i hi=>by omega⟩
 case round =>
  obtain⟨k,hk,hg,rfl,hb,A⟩:=hrel;by_cases I:k<n
  ·have a5:(k:Int)<(n:Int):=(by omega);obtain⟨b,o,rfl,c0,c1,c2,c3,c4,⟨ka,kc,c5,_⟩,O,T⟩:=(HS.below hb) k (by rw[HN.o];exact I);have D:=fun v=>HF.o (nd S k) v wr hb
   cases hq:p (nd S k) with
   | true =>
    have J:Hid (p (nd S k)=true):=hq;rw[hq] at D;clear hq;generalize M:nd S k=x at D c0 c1 c2 c3 c4 c5 O T;clear M
    go_wp2_with (go_at_fn K;refine(D _).mono ?_;rintro e w' ⟨rfl,F⟩)
    go_ret;exact⟨k,rfl,hb.trans (F.mono hb.size),Or.inr ⟨k,I,rfl,J.o,A.o⟩⟩
   | false =>
    have J:Hid (p (nd S k)=false):=hq;rw[hq] at D;clear hq;generalize M:nd S k=x at D c0 c1 c2 c3 c4 c5 O T;clear M
    go_wp2_with (go_at_fn K;refine(D _).mono ?_;rintro e w' ⟨rfl,F⟩)
    go_roundg (n-(k+1))
    case measure=>omega
    case rel =>
     refine⟨k+1,by omega,by omega,by go_num,hb.trans (F.mono hb.size),(show Hid _ from fun i hi=>?_)⟩;by_cases e:i=k
     ·subst e;exact J.o
     ·exact A.o i (by omega)
  ·have:k=n:=(by omega);subst this
   go_wp2
   go_ret;exact⟨-1,rfl,hb,Or.inl ⟨rfl,A.o⟩⟩
def iD(S:List Nd)(x:Int):Bool:=S.any fun n=>decide (n.h=x)
theorem IX:iD S x=false↔∀ i,i<S.length->(nd S i).h≠x:=by
 unfold iD;rw[List.any_eq_false];constructor
 ·intro H i hi e;have:=H (nd S i) (by rw[eQ hi];exact List.getElem_mem hi);simp[e] at this
 ·intro H y D;obtain⟨i,hi,rfl⟩:=List.getElem_of_mem D;have:=H i hi;rw[eQ hi] at this;simpa using this
theorem De(x:Nd)(k:Value)(q:Nat)(y:Int)(w:Wd)(D:w.cell? ⟨q,0,none⟩=some (.int .i64 y)) :
  yO 208 #[.agg #[.bool x.u,.int .i64 x.n,.int .i64 x.t,.int .i64 x.m,.int .i64 x.p,k,.int .i64 x.h,.bool x.c],.pointer (some ⟨q,0,none⟩)] w fun e w' => e=.returned (.bool (decide (x.h=y)))/\Below w.heap.size w w' := by
 obtain⟨u,n,t,m,p,ks,h,c⟩:=x;dsimp only;have E:=yi _ _ D;by_cases e:h=y
 ·subst e;rw[yI rfl]
  go_enter func208,ntmps208
  go_wp2
  go_ret;exact⟨rfl,(yv _ _).alloc (yr _) _⟩
 ·rw[yH e];have F:(h == y)=false:=by simpa using e
  go_enter func208,ntmps208
  go_wp2
  go_ret;exact⟨rfl,(yv _ _).alloc (yr _) _⟩
def dA(S:List Nd)(x:Int):Int:=if x = -1 then -1 else (match S.findIdx? fun n=>decide (n.h=x) with|some k=>(k:Int)|none=>-1)
theorem Df(I:x≠-1)(D:k<S.length)(h:(nd S k).h=x)(E:∀ i,i<k->(nd S i).h≠x):dA S x=k:=by
 unfold dA
 rw[yd I,show S.findIdx? (fun n=>decide (n.h=x))=some k from List.findIdx?_eq_some_iff_getElem.2 ⟨D,by rw[<- eQ D];exact yI h,fun j F=>by
  have:=E j F;rw[eQ (by omega)] at this;simpa using this⟩]
theorem QO(h:∀ i,i<S.length->(nd S i).h≠x):dA S x = -1:=by
 unfold dA;by_cases D:x = -1
 ·rw[ye D]
 rw[yd D,show S.findIdx? (fun n=>decide (n.h=x))=none from List.findIdx?_eq_none_iff.2 (fun y E=>by
  obtain⟨i,hi,rfl⟩:=List.getElem_of_mem E;have:=h i hi;rw[eQ hi] at this;simpa using this)]
theorem Dh(F:x≠-1):decide (dA S x = -1) = !zfF S x:=by
 cases hb:iD S x with
 | false=>rw[QO (IX.1 hb)];rfl
 | true =>
  have D:dA S x≠-1:=by
   intro h;unfold dA at h;rw[yd F] at h
   split at h
   ·omega
   ·next hn =>
    have:=List.findIdx?_eq_none_iff.1 hn;unfold iD at hb;obtain⟨y,I,E⟩:=List.any_eq_true.1 hb;rw[this y I] at E;cases E
  rw[yH D];rfl
theorem uC(a:OA)(c:Nat)(S:List Nd)(x:Int)(w:Wd)(hN:S.length<=9223372036854775807)(J:aD w a S) :
  yO 196 #[.agg #[.slice a S.length c],.int .i64 x] w fun e w' => e=.returned (.int .i64 (dA S x))/\Below w.heap.size w w' := by
 have HS:Hid (aD w a S):=J;by_cases I:x = -1
 ·have F:dA S x = -1:=by unfold dA;rw[ye I]
  rw[F];subst I;clear J F;generalize S.length=n at *
  go_enter func196,ntmps196
  go_wp2
  go_ret;exact⟨rfl,((yv _ _).alloc (yr _) _).alloc (by simp) _⟩
 ·have Z:∀ w1:World,w1.cell? ⟨w.heap.size+1,0,none⟩=some (.int .i64 x)->IW 208 #[.pointer (some ⟨w.heap.size+1,0,none⟩)] (fun n=>decide (n.h=x)) w1:=fun w1 h1 y k w2 O =>
   De y k (w.heap.size+1) x w2 ((O.cell (yi w1 _ h1)).trans h1)
  have D:Hid (∀ (W:Wd),aD W a S->W.cell? ⟨w.heap.size+1,0,none⟩=some (.int .i64 x)->Calls _ _ _ _ _):=fun W h1 h2=>QN 208 #[.pointer (some ⟨w.heap.size+1,0,none⟩)] (fun n=>decide (n.h=x)) a c S W hN h1 (yM func208 (by kernel_rfl) rfl) (Z W h2);have H1:Hid (∀ k,k<S.length->decide ((nd S k).h=x)=true->(∀ i,i<k->decide ((nd S i).h=x)=false)->dA S x=k):=fun k U h T=>Df I U (of_decide_eq_true h) (fun i hi=>of_decide_eq_false (T i hi));have H2:Hid ((∀ i,i<S.length->decide ((nd S i).h=x)=false)->dA S x = -1):=fun h=>QO (fun i hi=>of_decide_eq_false (h i hi));have a5:(x == -1)=false:=by simpa using I
  clear J Z
  go_enter func196,ntmps196
  go_wp2_with (first
   |(go_at_call 194;refine(D _ (HS.below (((yv _ _).alloc (yr _) _).alloc (by simp) _)) (by go_simp)).mono ?_;rintro e w1 ⟨r,rfl,M,F⟩)
   | go_in)
  go_ret;refine⟨?_,(((yv _ _).alloc (yr _) _).alloc (by simp) _).trans (M.mono (by simp;omega))⟩;rcases F with ⟨rfl,E⟩ |⟨k,U,rfl,hp,T⟩
  ·rw[H2.o E];rfl
  ·rw[H1.o k U hp T];rfl
theorem xD(a:OA)(c:Nat)(S:List Nd)(x:Int)(w:Wd)(T:S.length<=9223372036854775807)(M:aD w a S)(O:x≠-1) :
  yO 184 #[.agg #[.slice a S.length c],.int .i64 x] w fun e w' => e=.returned (.bool (iD S x))/\Below w.heap.size w w' := by
 have D:Hid (∀ (W:Wd),aD W a S->Calls _ _ _ _ _):=fun W U=>uC a c S x W T U;have J:Hid (aD w a S):=M;have I:=Dh (S:=S) O;clear M O;generalize S.length=n at *;generalize dA S x=r at *
 cases hb:iD S x with
 | true =>
  rw[hb] at I;have F:(r == -1)=false:=by simpa using I
  clear I hb
  go_enter func184,ntmps184
  go_wp2_with (go_at_call 196;refine(D _ (J.below ((yv _ _).alloc (yr _) _))).mono ?_;rintro e w1 ⟨rfl,E⟩)
  go_ret;refine⟨?_,((yv _ _).alloc (yr _) _).trans (E.mono (by simp))⟩;show Ending.returned (.bool (r != -1))=_;simp[bne,F]
 | false =>
  rw[hb] at I;have F:r = -1:=by simpa using I
  subst F;clear I hb
  go_enter func184,ntmps184
  go_wp2_with (go_at_call 196;refine(D _ (J.below ((yv _ _).alloc (yr _) _))).mono ?_;rintro e w1 ⟨rfl,E⟩)
  go_ret;exact⟨rfl,((yv _ _).alloc (yr _) _).trans (E.mono (by simp))⟩
theorem Dj(a:OA)(c:Nat)(S:List Nd)(w:Wd)(hn:S.length<=9223372036854775807)(I:aD w a S)(D:S.any dI=false) :
  yO 194 #[.slice a S.length c,.func (.func 195) #[] #[]] w fun e w' => e=.returned (.int .i64 (-1))/\Below w.heap.size w w' :=
 (QN 195 #[] dI a c S w hn I (yM func195 (by kernel_rfl) rfl) (fun x k w1 _=>QG x k w1)).mono (fun e w' ⟨r,F,hb,M⟩=>by
  rcases M with ⟨rfl,_⟩ |⟨k,E,_,J,_⟩
  ·exact⟨F,hb⟩
  ·have:=List.any_eq_false.1 D (nd S k) (by rw[eQ E];exact List.getElem_mem E);exact absurd J this)
def iR(S:List Nd)(t:Int):Int:=if dG S=0 then (if 0<=t/\t<=99 then (if S.any dI then 0 else 1) else 2) else dG S
theorem Dk(h:S.any dI=true):∃ k,k<S.length/\dI (nd S k)=true/\∀ i,i<k->dI (nd S i)=false:=by
 obtain⟨x,I,F⟩:=List.any_eq_true.1 h;obtain⟨i,hi,rfl⟩:=List.getElem_of_mem I;rw[<- eQ hi] at F;clear I h
 induction i using Nat.strongRecOn with
 | ind i J =>
  by_cases hex:∃ j,j<i/\dI (nd S j)=true
  ·obtain⟨j,E,D⟩:=hex;exact J j E (by omega) D
  ·refine⟨i,hi,F,fun j E=>?_⟩
   cases hq:dI (nd S j) with
   | false=>rfl
   | true=>exact absurd ⟨j,E,hq⟩ hex
theorem QR(a:OA)(c:Nat)(S:List Nd)(t E:Int)(w:Wd)(hN:S.length<=9223372036854775807)(hB:Big S)(hS:aD w a S)(I:iR S t=E)(J:E≠0) :
  yO 182 #[.agg #[.slice a S.length c],.int .i64 t] w fun e w' => e=.returned (.tuple #[.agg #[.slice none 0 0],.agg #[.int .i64 0,.int .i64 0],.int .i64 E])/\Below w.heap.size w w' := by
 have d0:=fun W hW=>tV a c S W hN hB hW;have HS:Hid (aD w a S):=hS;unfold iR at I;by_cases hc:dG S=0
 ·rw[ye hc] at I;rw[hc] at d0;have D0:Hid _:=d0;by_cases ht:0<=t/\t<=99
  ·rw[ye ht] at I
   cases hf:S.any dI with
   | true=>rw[hf] at I;exact absurd I.symm J
   | false =>
    rw[hf,yd (by simp)] at I;have DF:Hid (∀ W,aD W a S->Calls _ _ _ _ _):=fun W hW=>Dj a c S W hN hW hf;obtain⟨a8,a9⟩:=ht;subst I;clear hS d0 hB hc hf J;generalize S.length=n at *
    go_enter func182,ntmps182
    go_wp2_with (go_at_call 42;refine(D0 _ (HS.below (dC _ _ _ _))).mono ?_;rintro e w0 ⟨rfl,D⟩;simp only[yw] at D;obtain⟨l0,O,T,U,z1,z2,z3⟩:=pX D;have F:Bl w w0:=(dC _ _ _ _).trans (D.mono (by omega)))
    go_wp2_with (go_at_call 66;refine(wH _ _ _ _ (by omega) (by omega)).mono ?_;rintro e w' ⟨rfl,rfl⟩)
    refine(DF _ (HS.below F)).mono ?_;rintro e w1 ⟨rfl,M⟩;have a6:=D.size;simp only[yw] at a6;have a5:=D.trans (M.mono a6);have Z:Bl w w1:=(dC _ _ _ _).trans (a5.mono (by omega));clear l0 O T U z1 z2 z3 D M F;obtain⟨l0,O,T,U,z1,z2,z3⟩:=pX a5
    go_wp2
    refine yz (v:=.tuple #[.agg #[.slice none 0 0],.agg #[.int .i64 0,.int .i64 0],.int .i64 1]) (by simp[results,results182,go_sem,O,T,U]) rfl ⟨rfl,?_⟩
    first|exact((Z.setCell (by simp) _).setCell (by simp;omega) _).setCell (by simp;omega) _|exact(((Z.setCell (by simp) _).setCell (by simp;omega) _).setCell (by simp;omega) _).drew
  ·rw[yd ht] at I;have a7:t<0\/99<t:=(by omega);subst I;clear hS d0 hB hc ht J;generalize S.length=n at *
   go_enter func182,ntmps182
   go_wp2_with (go_at_call 42;refine(D0 _ (HS.below (dC _ _ _ _))).mono ?_;rintro e w0 ⟨rfl,D⟩;simp only[yw] at D;obtain⟨l0,O,T,U,z1,z2,z3⟩:=pX D;have F:Bl w w0:=(dC _ _ _ _).trans (D.mono (by omega)))
   go_wp2_with (go_at_call 66;refine(zX _ _ _ _ a7).mono ?_;rintro e w' ⟨rfl,rfl⟩)
   refine yz (v:=.tuple #[.agg #[.slice none 0 0],.agg #[.int .i64 0,.int .i64 0],.int .i64 2]) (by simp[results,results182,go_sem,O,T,U]) rfl ⟨rfl,?_⟩
   first|exact((F.setCell (by simp) _).setCell (by simp;omega) _).setCell (by simp;omega) _|exact(((F.setCell (by simp) _).setCell (by simp;omega) _).setCell (by simp;omega) _).drew
 ·rw[yd hc] at I;rw[I] at d0;have D0:Hid _:=d0;have hz:(E == 0)=false:=by simp[J]
  clear hS d0 I hB hc;generalize S.length=n at *
  go_enter func182,ntmps182
  go_wp2_with (go_at_call 42;refine(D0 _ (HS.below (dC _ _ _ _))).mono ?_;rintro e w0 ⟨rfl,D⟩;simp only[yw] at D;obtain⟨l0,O,T,U,z1,z2,z3⟩:=pX D;have F:Bl w w0:=(dC _ _ _ _).trans (D.mono (by omega)))
  refine yz (v:=.tuple #[.agg #[.slice none 0 0],.agg #[.int .i64 0,.int .i64 0],.int .i64 E]) (by simp[results,results182,go_sem,O,T,U]) rfl ⟨rfl,?_⟩
  first|exact((F.setCell (by simp) _).setCell (by simp;omega) _).setCell (by simp;omega) _|exact(((F.setCell (by simp) _).setCell (by simp;omega) _).setCell (by simp;omega) _).drew
theorem WF.leaveG(h:WF S)(hch:D<S.length):WF (leaveG S D):=by
 unfold Go.Proofs.YtcbcpomacdngmaaGreat.leaveG;split
 ·exact h
 ·rename_i E;obtain⟨pa,e,_⟩:=h.parent_place hch E;rw[e,yk];exact h.leave hch e
theorem uG(S:List Nd)(D j:Nat):(nd (leaveG S D) j).u=(nd S j).u/\(nd (leaveG S D) j).n=(nd S j).n/\(nd (leaveG S D) j).h=(nd S j).h/\(nd (leaveG S D) j).t=(nd S j).t/\(nd (leaveG S D) j).m=(nd S j).m/\(nd (leaveG S D) j).c=(nd S j).c:=by
 unfold leaveG;split
 ·exact⟨rfl,rfl,rfl,rfl,rfl,rfl⟩
 ·exact rJ S _ D j
theorem JA(S:List Nd){j:Nat}(E:j<S.length):(nd (leaveG S D) j).p=if j=D then -1 else (nd S j).p:=by
 unfold leaveG;split
 ·rename_i h;split
  ·rename_i e;rw[e];exact h
  ·rfl
 ·exact uF S E
theorem Dr(hpa:pa<S.length)(I:dF S pa D=false):dF (leaveG S D) pa D=false:=by
 cases hb:dF (leaveG S D) pa D with
 | false=>rfl
 | true =>
  have hl:=oM S D;obtain⟨j,O,J,T⟩:=uE (by rw[hl];exact hpa) hb;rw[hl] at J
  have:Up S j pa D:=AZ hl (fun y M z E=>by
   unfold bA at *;rw[(uG S D y).2.2.1,JA S M] at E;by_cases F:y=D
   ·subst F;rw[ye rfl] at E;by_cases hh:(nd S y).h = -1
    ·rw[ye hh] at E;omega
    ·rw[yd hh] at E |-;exact E
   ·rw[yd F] at E;exact E) hpa T
  rw[QX hpa O J this] at I;cases I
theorem QZ(h:mQ S D pa=true):(nd S D).h = -1/\pa≠D/\dF S pa D=false:=by
 unfold mQ at h;simp only[Bool.and_eq_true,Bool.not_eq_true', decide_eq_true_eq,decide_eq_false_iff_not] at h;exact⟨h.1,fun e=>h.2.1 (by rw[e]),h.2.2⟩
structure uH (S:List Nd) (pa ch:Nat):Prop where
 wf:WF S
 hpa:pa<S.length
 hch:ch<S.length
 hpu:(nd S pa).u=true
 hcu:(nd S ch).u=true
 fits:mQ S ch pa=true
theorem uH.insert(h:uH S pa D)(at' : Nat):WF (dD (leaveG S D) pa D at'):=by
 obtain⟨f1,f2,f3⟩:=QZ h.fits;have hl:=oM S D;refine(h.wf.leaveG h.hch).enter (by rw[hl];exact h.hpa) (by rw[hl];exact h.hch) ?_ ?_ ?_ ?_ f2 (Dr h.hpa f3)
 ·rw[(uG S D pa).1];exact h.hpu
 ·rw[(uG S D D).1];exact h.hcu
 ·rw[JA S h.hch,ye rfl]
 ·rw[(uG S D D).2.2.1];exact f1
theorem Dt{ks:List Int}{v:Int}(h:v ∈ ks):∃ k:Nat,idx ks v=k/\k<ks.length/\ks.getD k 0=v:=by
 refine⟨ks.idxOf v,by unfold idx;rw[ye h],List.idxOf_lt_length_of_mem h,?_⟩;rw[aJ ks 0 (List.idxOf_lt_length_of_mem h)];exact List.getElem_idxOf (List.idxOf_lt_length_of_mem h)
theorem uH.ahead{q:Nat}(h:uH S pa D)(I:q<S.length)(F:(nd S q).p=pa)(E:q≠D):∃ at' : Nat,idx (nd (leaveG S D) pa).ks q=at' /\ at' < (nd (leaveG S D) pa).ks.length/\(nd (leaveG S D) pa).ks.getD at' 0=q:=by
 have hl:=oM S D;have:=(h.wf.leaveG h.hch).in_kids (k:=q) (y:=pa) (by rw[hl];exact I) (by rw[JA S I,yd E];exact F);exact Dt this.2
theorem WF.kids_small(h:WF S){i:Nat}(hi:i<S.length):(nd S i).ks.length<=24:=by
 have h1:=h.kids_nodup hi
 have:=h1.length_le_of_subset (l₂:=(List.range S.length).map (fun k:Nat=>(k:Int))) (fun x E=>by
  obtain⟨k,rfl,D,_⟩:=h.kid hi E;exact List.mem_map.2 ⟨k,List.mem_range.2 D,rfl⟩)
 rw[List.length_map,List.length_range] at this;exact yJ this h.small
theorem WF.big(h:WF S):Big S:=fun _ hi=>yJ (h.kids_small hi) (by omega)
theorem Du(E:k<S.length)(F:(nd S k).u=true)(hn:(nd S k).n=u)(h:WF S):iX S k u=0:=by
 have h1:=(jY (h.node k E)).1;have D:=(jY (h.node k E)).2.2;unfold gV at D;rw[ye F] at D;unfold iO at h1;simp only[Bool.and_eq_true,decide_eq_true_eq] at h1;have I:(nd S k).n≠0:=fun e=>by rw[ye e] at D;cases D
 unfold iX;rw[ye (show dZ S.length (k:Int)=true from yI ⟨by omega,by omega⟩),yk];unfold wV;rw[ye (yI ⟨by omega,by omega⟩),ye F,ye hn]
theorem Dv(D:k<S.length)(E:(nd S k).u=true)(hn:(nd S k).n=u)(h:WF S):dH S [((k:Int),u)]=0:=by
 unfold dH;rw[ye ((mU S).2 h),Dp];exact Du D E hn h
