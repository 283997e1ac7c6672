/-
  x
-/
import Derived.Test.YtcbcpomacdngmaaGreatM2
namespace Go.Proofs.YtcbcpomacdngmaaGreat
set_option maxRecDepth 100000
set_option maxHeartbeats 4000000
set_option linter.unusedVariables false
open Go.RowKit
structure Off (X:Nat->Prop) (w w' : World):Prop where
 os:w'.os=w.os
 tape:w'.tape=w.tape
 output:w'.output=w.output
 size:w.heap.size<=w'.heap.size
 block:∀ k,k<w.heap.size->¬ X k->w'.heap[k]?=w.heap[k]?
theorem Off.refl(X:Nat->Prop)(w:World):Off X w w:=⟨rfl,rfl,rfl,yj _,fun _ _ _=>rfl⟩
theorem Off.trans{X:Nat->Prop}{a b c:World}(h:Off X a b)(k:Off X b c):Off X a c :=
 ⟨k.os.trans h.os,k.tape.trans h.tape,k.output.trans h.output,yG h.size k.size,fun i hi D=>(k.block i (yx hi h.size) D).trans (h.block i hi D)⟩
theorem Off.of_below{X:Nat->Prop}{w w' : World}(h:Below w.heap.size w w'):Off X w w' :=⟨h.os,h.tape,h.output,h.size,fun k D _=>h.block k D⟩
theorem Off.below{X:Nat->Prop}{w w' : World}(h:Off X w w'){B:Nat}(F:B<=w.heap.size)(D:∀ k,X k->B<=k):Below B w w' :=
 ⟨h.os,h.tape,h.output,h.size,fun k I=>h.block k (by omega) (fun E=>by have:=D k E;omega)⟩
theorem Off.cell{X:Nat->Prop}{w w' : World}(h:Off X w w'){p:Addr}(D:p.block<w.heap.size)(E:¬ X p.block):w'.cell? p=w.cell? p:=by
 unfold World.cell?;rw[h.block _ D E]
theorem zdR(x:Nd)(k:Value)(w:World) :
  yL 151 #[.agg #[.bool x.u,.int .i64 x.n,.int .i64 x.t,.int .i64 x.m,.int .i64 x.p,k,.int .i64 x.h,.bool x.c]] w fun e w' => e=.returned (.int .i64 (if x.h = -1 then x.p else x.h))/\Below w.heap.size w w' := by
 by_cases h:x.h = -1
 ·rw[yb h,h]
  go_enter Tryz.func151,Tryz.ntmps151
  go_wp2
  go_ret;exact⟨rfl,(yk _ _).alloc (yj _) _⟩
 ·rw[ya h];have h1:(x.h == -1)=false:=by simp[h]
  go_enter Tryz.func151,Tryz.ntmps151
  go_wp2
  go_ret;exact⟨rfl,(yk _ _).alloc (yj _) _⟩
def zie(N:Nat)(x:Int):Bool:=decide (0<=x/\x<=(N:Int)-1)
theorem zgp(a:Option Addr)(c N:Nat)(x:Int)(w:World)(E:N<=9223372036854775807) :
  yL 84 #[.agg #[.slice a N c],.int .i64 x] w fun e w' => e=.returned (.bool (zie N x))/\Below w.heap.size w w' := by
 have D:=zaR x 0 ((N:Int)-1);rw[show decide (0<=x/\x<=(N:Int)-1)=zie N x from rfl] at D;generalize zie N x=r at D
 go_enter Tryz.func84,Tryz.ntmps84
 go_wp2_with (go_at_call 66;refine(D _).mono ?_;rintro e w' ⟨rfl,rfl⟩)
 go_ret;exact⟨rfl,(yk _ _).alloc (yj _) _⟩
def zbF{σ:Type}(S:List Nd)(up:Nd->Int)(step:σ->Int->σ × Bool):Nat->Int->σ->σ
 | 0,_,st=>st
 | f+1,x,st=>if zie S.length x then (if (step st x).2 then zbF S up step f (up (nd S x.toNat)) (step st x).1 else (step st x).1) else st
theorem zmt{σ:Type}(a:Option Addr)(c:Nat)(S:List Nd)(w:World)(place:Int)(KU KV:Nat)(M:Array Value)(up:Nd->Int)(step:σ->Int->σ × Bool)(I:σ->World->Prop)(X:Nat->Prop)(st:σ)
  (hN:S.length<=9223372036854775807)
  (b7:∀ st w1,I st w1->zah w1 a S)
  (hI:∀ st w1 E,I st w1->Below w1.heap.size w1 E->I st E)
  (eU:∀ args w,(callFunc KU args).run Tryz.prog w=.ok (.enter KU args) w) (eV:∀ args w,(callFunc KV args).run Tryz.prog w=.ok (.enter KV args) w)
  (hU:∀ (x:Nd) (k:Value) (w1:World),yL KU #[.agg #[.bool x.u,.int .i64 x.n,.int .i64 x.t,.int .i64 x.m,.int .i64 x.p,k,.int .i64 x.h,.bool x.c]] w1 fun e E=>e=.returned (.int .i64 (up x))/\Below w1.heap.size w1 E)
  (hV:∀ st x w1,I st w1->w.heap.size<w1.heap.size->zie S.length x=true->yL KV (#[.int .i64 x] ++ M) w1 fun e E=>e=.returned (.bool (step st x).2)/\I (step st x).1 E/\Off X w1 E/\∀ k:Nat,w1.heap[k]?=some (.cells #[.slice a S.length c] 43 (0,0))->E.heap[k]?=w1.heap[k]?)
  (h0:I st w) :
  yL 150 #[.agg #[.slice a S.length c],.int .i64 place,.func (.func KU) #[] #[],.func (.func KV) #[] M] w fun e w' => e=.returned (.tuple #[])/\I (if zie S.length place then zbF S up step S.length (up (nd S place.toNat)) st else st) w' /\ Off X w w' := by
 have c8:Hid (S.length=S.length):=rfl;have IS:Hid (∀ st w1,I st w1->zah w1 a S):=b7;have HI:Hid (∀ st w1 E,I st w1->Below w1.heap.size w1 E->I st E):=hI;have HV:Hid (∀ st x w1,I st w1->w.heap.size<w1.heap.size->zie S.length x=true->yL KV (#[.int .i64 x] ++ M) w1 fun e E=>e=.returned (.bool (step st x).2)/\I (step st x).1 E/\Off X w1 E/\∀ k:Nat,w1.heap[k]?=some (.cells #[.slice a S.length c] 43 (0,0))->E.heap[k]?=w1.heap[k]?):=hV;have H0:Hid (I st w):=h0;clear b7 hI hV h0;have U:=fun W=>zgp a c S.length place W hN;generalize hn:S.length=n at *;have HN:Hid (S.length=n):=hn;clear hn c8
 cases hq:zie n place with
 | false =>
  rw[hq] at U;simp only[Bool.false_eq_true,if_false]
  go_enter Tryz.func150,Tryz.ntmps150
  go_wp2_with (go_at_call 84;refine(U _).mono ?_;rintro e w' ⟨rfl,hb⟩)
  refine yv (v:=.tuple #[]) (by simp[results,Tryz.results150,go_sem]) rfl ⟨rfl,?_,?_⟩
  ·exact HI.out _ _ _ H0.out (((yk _ _).alloc (yj _) _).trans (hb.mono (by simp)))
  ·exact Off.of_below (((yk _ _).alloc (yj _) _).trans (hb.mono (by simp)))
 | true =>
  rw[hq] at U;simp only[if_true];have b0:0<=place/\place<=(n:Int)-1:=of_decide_eq_true hq;clear hq;obtain⟨p,rfl⟩:∃ p:Nat,place=(p:Int):=⟨place.toNat,by omega⟩;have d5:p<n:=by omega
  have d8:(p:Int)<(n:Int):=by omega
  clear b0;simp only[yi]
  go_enter Tryz.func150,Tryz.ntmps150
  go_wp2_with (first
   |(go_at_call 84;refine(U _).mono ?_;rintro e w1 ⟨rfl,O⟩;simp only[yr] at O;have a5:Below w.heap.size w w1:=((yk _ _).alloc (yj _) _).trans (O.mono (by simp));have lb:w1.cell? ⟨w.heap.size,0,none⟩=some (.slice a n c):=(O.cell (by simp)).trans (by go_simp);have b9:Hid (w1.heap[w.heap.size]?=some (.cells #[.slice a n c] 43 (0,0))):=(O.block _ (by simp)).trans (yK _ _);obtain⟨b,o,rfl,c0,c1,c2,c3,c4,⟨ka,kc,c5,_⟩,c6,c7⟩:=IS.out _ _ (HI.out _ _ _ H0.out a5) p (by rw[HN.out];exact d5))
   |(go_at_fn KU;refine(hU (nd S p) _ _).mono ?_;rintro e E ⟨rfl,a6⟩;have b1:E.cell? ⟨w.heap.size,0,none⟩=some (.slice (some ⟨b,o,none⟩) n c):=(a6.cell (yd _ _ lb)).trans lb))
  have b3:Hid (E.heap[w.heap.size]?=some (.cells #[.slice (some ⟨b,o,none⟩) n c] 43 (0,0))):=(a6.block _ (yd _ _ lb)).trans b9.out;clear b9;have a9:Below w.heap.size w E:=a5.trans (a6.mono a5.size);have b8:w.heap.size<w1.heap.size:=yd _ _ lb;have a8:w.heap.size<E.heap.size:=yd _ _ b1;have I2:Hid (I st E):=HI.out _ _ _ H0.out a9;have O2:Hid (Off X w E):=Off.of_below a9;clear c0 c1 c2 c3 c4 c5 c6 c7 O a6 lb a5 b8 U
  go_loopg [8,23] n (fun g s8 s23 wr=>∃ (k:Nat) (x:Int) (s:σ),k<=n/\n-k<=g/\s23=.int .i64 k/\s8=.int .i64 x/\Hid (I s wr)/\Hid (Off X w wr)/\w.heap.size<wr.heap.size/\wr.cell? ⟨w.heap.size,0,none⟩=some (.slice (some ⟨b,o,none⟩) n c)/\Hid (wr.heap[w.heap.size]?=some (.cells #[.slice (some ⟨b,o,none⟩) n c] 43 (0,0)))/\Hid (zbF S up step n (up (nd S p)) st=zbF S up step (n-k) x s))
  case atStart=>exact⟨0,up (nd S p),st,by omega,by omega,rfl,rfl,I2,O2,a8,b1,b3,rfl⟩
  case round =>
   obtain⟨k,x,s,hk,hg,rfl,rfl,I3,O3,J,e0,b4,E3⟩:=hrel;clear I2 O2 a8 b1 a9 b3;by_cases d9:k<n
   ·obtain⟨f,hf⟩:∃ f,n-k=f+1:=⟨n-k-1,by omega⟩;have F:=E3.out;rw[hf] at F;simp only[zbF,HN.out] at F;have U:=fun W=>zgp (some ⟨b,o,none⟩) c n x W hN
    cases hq:zie n x with
    | false =>
     rw[hq] at U F;simp only[Bool.false_eq_true,if_false] at F;have Z:Hid (zbF S up step n (up (nd S p)) st=s):=F;clear F
     go_wp2_with (go_at_call 84;refine(U _).mono ?_;rintro e w3 ⟨rfl,D⟩)
     refine yv (v:=.tuple #[]) (by simp[results,Tryz.results150,go_sem]) rfl ⟨rfl,?_,?_⟩
     ·rw[Z.out];exact HI.out _ _ _ I3.out D
     ·exact O3.out.trans (Off.of_below D)
    | true =>
     rw[hq] at U F;simp only[if_true] at F;have b0:0<=x/\x<=(n:Int)-1:=of_decide_eq_true hq;obtain⟨j,rfl⟩:∃ j:Nat,x=(j:Int):=⟨x.toNat,by omega⟩;have c9:j<n:=(by omega);have d7:(j:Int)<(n:Int):=(by omega);clear b0;simp only[yi] at F;have hv:=fun W (hW:I s W) (hz:w.heap.size<W.heap.size)=>HV.out s (j:Int) W hW hz hq;clear hq;generalize d6:step s (j:Int)=sr at *;obtain⟨s', r⟩:=sr;dsimp only at hv F;have b2:Hid _:=F;clear F d6
     cases r with
     | false =>
      have Z:zbF S up step n (up (nd S p)) st=s' := by simpa using b2.out
      have E5:Hid _:=Z;clear Z
      go_wp2_with (first
       |(go_at_call 84;refine(U _).mono ?_;rintro e w3 ⟨rfl,D⟩)
       |(go_at_fn KV;refine(hv _ (HI.out _ _ _ I3.out D) (yx J D.size)).mono ?_;rintro e w4 ⟨rfl,I4,O4,_⟩))
      refine yv (v:=.tuple #[]) (by simp[results,Tryz.results150,go_sem]) rfl ⟨rfl,?_,?_⟩
      ·rw[E5.out];exact I4
      ·exact(O3.out.trans (Off.of_below D)).trans O4
     | true =>
      have Z:zbF S up step n (up (nd S p)) st=zbF S up step f (up (nd S j)) s' := by simpa using b2.out
      have E5:Hid _:=Z;clear Z
      have fr:∀ w3 w4:World,Below wr.heap.size wr w3->(∀ k:Nat,w3.heap[k]?=some (.cells #[.slice (some ⟨b,o,none⟩) n c] 43 (0,0))->w4.heap[k]?=w3.heap[k]?)->w4.heap[w.heap.size]?=some (.cells #[.slice (some ⟨b,o,none⟩) n c] 43 (0,0)):=fun w3 w4 h3 h4 =>
       (h4 _ ((h3.block _ J).trans b4.out)).trans ((h3.block _ J).trans b4.out)
      have FR:Hid _:=fr;clear fr
      go_wp2_with (first
       |(go_at_call 84;refine(U _).mono ?_;rintro e w3 ⟨rfl,D⟩)
       |(go_at_fn KV;refine(hv _ (HI.out _ _ _ I3.out D) (yx J D.size)).mono ?_;rintro e w4 ⟨rfl,I4,O4,T4⟩;have b5:Hid (w4.heap[w.heap.size]?=some (.cells #[.slice (some ⟨b,o,none⟩) n c] 43 (0,0))):=FR.out w3 w4 D T4;have a7:=zaI b5.out;clear T4;have b6:Hid (I s' w4):=I4;clear I4;obtain⟨b', o', e', c0,c1,c2,c3,c4,⟨ka,kc,c5,_⟩,c6,c7⟩:=IS.out _ _ b6.out j (by rw[HN.out];exact c9);cases e')
       |(go_at_fn KU;refine(hU (nd S j) _ _).mono ?_;rintro e w5 ⟨rfl,T⟩))
      go_roundg (n-(k+1))
      case measure=>omega
      case rel =>
       refine⟨k+1,up (nd S j),s', by omega,by omega,by go_num,rfl,HI.out _ _ _ b6.out T,(O3.out.trans (Off.of_below D)).trans (O4.trans (Off.of_below T)),?_,(T.cell (yd _ _ a7)).trans a7,(T.block _ (yd _ _ a7)).trans b5.out,?_⟩
       ·have:=yd _ _ a7;have h5:=T.size;have:w.heap.size<w4.heap.size:=this;omega
       ·rw[show n-(k+1)=f by omega];exact E5
   ·have d4:k=n:=(by omega);subst d4;have F:=E3.out;rw[Nat.sub_self] at F;have Z:Hid (zbF S up step k (up (nd S p)) st=s):=F;clear F E3
    go_wp2
    refine bodyPost_end (v:=.tuple #[]) (by simp[results,Tryz.results150,go_sem]) rfl ⟨rfl,?_,O3.out⟩;rw[Z.out];exact I3.out
def zak(x:Nd):Int:=if x.h = -1 then x.p else x.h
def zeq(D:Int):Bool->Int->Bool × Bool:=fun _ x=>(decide (x=D),!decide (x=D))
def zbv(S:List Nd)(place D:Int):Bool:=if zie S.length place then zbF S zak (zeq D) S.length (zak (nd S place.toNat)) false else false
theorem zko(x D:Int)(F E:Nat)(st:Value)(w:World)(h1:w.cell? ⟨F,0,none⟩=some (.int .i64 D))(J:w.cell? ⟨E,0,none⟩=some st)(O:w.frozen? ⟨E,0,none⟩=false) :
  yL 152 #[.int .i64 x,.pointer (some ⟨F,0,none⟩),.pointer (some ⟨E,0,none⟩)] w fun e w' => e=.returned (.bool (!decide (x=D)))/\w' = w.setCell ⟨E,0,none⟩ (.bool (decide (x=D))):=by
 have M:∀ v,(w.setCell ⟨E,0,none⟩ v).cell? ⟨E,0,none⟩=some v:=fun v=>World.cell?_setCell_same _ _ _ J;by_cases h:x=D
 ·subst h
  go_enter Tryz.func152,Tryz.ntmps152
  go_wp2
  go_ret;exact⟨rfl,rfl⟩
 ·have hd:decide (x=D)=false:=yE h;rw[hd];have I:(x == D)=false:=by simp[h]
  go_enter Tryz.func152,Tryz.ntmps152
  go_wp2
  go_ret;refine⟨?_,?_⟩
  ·first|rfl|(simp[I])
  ·first|rfl|(rw[I])
def zkq(w:World)(a:Option Addr)(S:List Nd)(D:Int)(st:Bool)(w1:World):Prop :=
 Below w.heap.size w w1/\zah w a S/\w1.cell? ⟨w.heap.size+1,0,none⟩=some (.int .i64 D)/\w1.cell? ⟨w.heap.size+1+1,0,none⟩=some (.bool st)/\w1.frozen? ⟨w.heap.size+1+1,0,none⟩=false
theorem zkq.below{w w1 M:World}{a:Option Addr}{S:List Nd}{D:Int}{st:Bool}(h:zkq w a S D st w1)(E:Below w1.heap.size w1 M):zkq w a S D st M:=by
 obtain⟨h1,O,F,I,h5⟩:=h;have hs:=h1.size;have J:=yd _ _ I;exact⟨h1.trans (E.mono hs),O,(E.cell (yd _ _ F)).trans F,(E.cell J).trans I,(E.frozen J).trans h5⟩
theorem znu(a:Option Addr)(c:Nat)(S:List Nd)(place D:Int)(w:World)(hN:S.length<=9223372036854775807)(J:zah w a S) :
  yL 128 #[.agg #[.slice a S.length c],.int .i64 place,.int .i64 D] w fun e w' => e=.returned (.bool (zbv S place D))/\Below w.heap.size w w' := by
 have E:∀ W,zkq w a S D false W->W.heap.size=w.heap.size+1+1+1->yL 150 #[.agg #[.slice a S.length c],.int .i64 place,.func (.func 151) #[] #[],.func (.func 152) #[] #[.pointer (some ⟨w.heap.size+1,0,none⟩),.pointer (some ⟨w.heap.size+1+1,0,none⟩)]] W fun e w' => e=.returned (.tuple #[])/\zkq w a S D (zbv S place D) w' := fun W hW a5 =>
  (zmt a c S W place 151 152 #[.pointer (some ⟨w.heap.size+1,0,none⟩),.pointer (some ⟨w.heap.size+1+1,0,none⟩)] zak (zeq D) (zkq w a S D) (fun k=>k=w.heap.size+1+1) false hN
   (fun st w1 h=>h.2.1.below h.1)
   (fun st w1 w2 h F=>h.below F)
   (yJ Tryz.func151 (by kernel_rfl) rfl) (yJ Tryz.func152 (by kernel_rfl) rfl)
   (fun x k w1=>zdR x k w1)
   (fun st x w1 h _ _=>(zko x D (w.heap.size+1) (w.heap.size+1+1) (.bool st) w1 h.2.2.1 h.2.2.2.1 h.2.2.2.2).mono (by
    rintro e w2 ⟨rfl,rfl⟩;obtain⟨h1,Z,h3,I,h5⟩:=h;have hs:=h1.size;refine⟨rfl,⟨h1.setCell (by show w.heap.size<=w.heap.size+1+1;omega) _,Z,?_,World.cell?_setCell_same _ _ _ I,?_⟩,?_,fun k M=>ys _ _ _ _ (fun e=>?_)⟩
    ·exact(((yk (w.heap.size+1+1) w1).setCell (yj _) _).cell (by show w.heap.size+1 < _;omega)).trans h3
    ·rw[World.frozen?_setCell];exact h5
    ·exact⟨rfl,rfl,rfl,by simp[World.setCell],fun k _ hx=>ys _ _ _ _ (by exact hx)⟩
    ·have U:k=w.heap.size+1+1:=e;rw[U] at M;have:=zaI M;rw[I] at this
     cases this))
   hW).mono (fun e w' h=>⟨h.1,by have:=h.2.1;exact this⟩)
 have O:Hid _:=E;have T:Hid (zah w a S):=J;clear E J;generalize S.length=n at *;generalize zbv S place D=r at *
 go_enter Tryz.func128,Tryz.ntmps128
 go_wp2_with (go_at_call 150;refine(O.out _ ⟨(((yk _ _).alloc (yj _) _).alloc (by simp) _).alloc (by simp;omega) _,T.out,by go_simp,by go_simp,by go_simp⟩ (by simp)).mono ?_;rintro e w1 ⟨rfl,F,_,l1,l2,_⟩)
 go_ret;exact⟨rfl,F⟩
theorem zgB(a:Option Addr)(c:Nat)(S:List Nd)(w:World)(hN:S.length<=9223372036854775807)(O:zah w a S) :
  yL 83 #[.agg #[.slice a S.length c]] w fun e w' => e=.returned (.bool ((List.range S.length).any fun i=>zbv S i i))/\Below w.heap.size w w' := by
 have HT:Hid (∀ i,i<S.length->zbv S i i=true->((List.range S.length).any fun i=>zbv S i i)=true):=fun i hi h=>List.any_eq_true.2 ⟨i,List.mem_range.2 hi,h⟩;have U:Hid ((∀ i,i<S.length->zbv S i i=false)->((List.range S.length).any fun i=>zbv S i i)=false):=fun h=>List.any_eq_false.2 fun i hi=>by rw[h i (List.mem_range.1 hi)];simp
 generalize ((List.range S.length).any fun i=>zbv S i i)=R at *;have M:=fun(i:Nat) (W:World) (hW:zah W a S)=>znu a c S i i W hN hW;have HS:Hid (zah w a S):=O;clear O;generalize hn:S.length=n at *;have HN:Hid (S.length=n):=hn;clear hn
 go_enter Tryz.func83,Tryz.ntmps83
 go_wp2
 go_loopg [7] n (fun g s7 wr=>∃ k:Nat,k<=n/\n-k<=g/\s7=.int .i64 k/\Below w.heap.size w wr/\wr.cell? ⟨w.heap.size,0,none⟩=some (.slice a n c)/\Hid (∀ i,i<k->zbv S i i=false))
 case atStart=>exact⟨0,by omega,by omega,rfl,(yk _ _).alloc (yj _) _,by go_simp,(show Hid _ from fun i hi=>absurd hi (yw _))⟩
 case round =>
  obtain⟨k,hk,hg,rfl,F,T,A⟩:=hrel;have I:=yd _ _ T;by_cases J:k<n
  ·have E:=M k wr (HS.out.below F);clear M
   cases hr:zbv S k k with
   | true =>
    rw[hr] at E;have Z:Hid _:=HT.out k J hr;clear hr
    go_wp2_with (go_at_call 128;refine E.mono ?_;rintro e w1 ⟨rfl,D⟩)
    go_ret;exact⟨by rw[Z.out];rfl,F.trans (D.mono F.size)⟩
   | false =>
    rw[hr] at E;have Z:Hid _:=hr;clear hr
    go_wp2_with (go_at_call 128;refine E.mono ?_;rintro e w1 ⟨rfl,D⟩)
    go_roundg (n-(k+1))
    case measure=>omega
    case rel =>
     refine⟨k+1,by omega,by omega,by go_num,F.trans (D.mono F.size),(D.cell I).trans T,(show Hid _ from fun i hi=>?_)⟩;by_cases e:i=k
     ·rw[e];exact Z.out
     ·exact A.out i (by omega)
  ·have:k=n:=(by omega);subst this;have Z:Hid _:=U.out A.out;clear M
   go_wp2
   go_ret;exact⟨by rw[Z.out];rfl,F⟩
def zcb(N:Int):List Nd->Int
 | []=>0
 | x :: r=>if zfp N x=0 then zcb N r else zfp N x
def zur(S:List Nd):Bool:=(List.range S.length).any fun i=>zbv S i i
def zuJ(S:List Nd):Int:=if decide (zeS S) then (if decide (zga S S.length) then (if zur S then 6 else 0) else 6) else 6
def zbr(S:List Nd):Int:=if 24<S.length then 1 else if zcb S.length S=0 then zuJ S else zcb S.length S
theorem zya{S:List Nd}{k:Nat}(h:k<S.length):S.drop k=nd S k :: S.drop (k+1):=by
 rw[zbq h];exact List.drop_eq_getElem_cons h
theorem zhb{N:Int}{x:Nd}(h:zfp N x=0):zeg N x=true:=by
 unfold zfp at h
 split at h
 ·split at h
  ·assumption
  ·omega
 ·omega
theorem zha{N:Int}{x:Nd}(h:zeg N x=true):(∀ y ∈ x.ks,-1<=y/\y<N)/\(-1<=x.h/\x.h<N)/\(-1<=x.p/\x.p<N):=by
 unfold zeg zlJ at h;simp only[Bool.and_eq_true,decide_eq_true_eq,List.any_eq_false,Bool.not_eq_eq_eq_not,Bool.not_true,decide_eq_false_iff_not,Decidable.not_not] at h;refine⟨fun y D=>?_,⟨h.2.1.1,by omega⟩,⟨h.1.1,by omega⟩⟩;have:=h.2.2 y D;omega
theorem znq{w w1:World}{v:Value}(D:Below (w.heap.size+1) (w.alloc (.cells #[v] 43)) w1):w1.cell? ⟨w.heap.size,0,none⟩=some v :=
 (D.cell (by simp)).trans (by go_simp)
theorem zdW(a:Option Addr)(c:Nat)(S:List Nd)(w:World)(hN:S.length<=9223372036854775807)(hB:Big S)(hS:zah w a S) :
  yL 42 #[.agg #[.slice a S.length c]] w fun e w' => e=.returned (.int .i64 (zbr S))/\Below w.heap.size w w' := by
 unfold zbr;by_cases O:24<S.length
 ·rw[yb O];generalize S.length=n at *;clear hS hB;have a6:(24:Int)<(n:Int):=by omega
  go_enter Tryz.func42,Tryz.ntmps42
  go_wp2
  go_ret;exact⟨rfl,(yk _ _).alloc (yj _) _⟩
 ·rw[ya O];have HS:Hid (zah w a S):=hS;have HB:Hid (Big S):=hB;have a8:=fun(i:Nat) (hi:i<S.length) (ka:Option Addr) (kc:Nat) (W:World) (hW:zal W ka (nd S i).ks)=>zlm (nd S i) ka kc S.length W ⟨by omega,by omega⟩ (hB i hi) hW;have b7:Hid _:=a8
  have J:(∀ i,i<S.length->zfp S.length (nd S i)=0)->∀ W,zah W a S->yL 81 #[.slice a S.length c] W (fun e w' => e=.returned (.bool (decide (zeS S)))/\Below W.heap.size W w')/\yL 82 #[.slice a S.length c] W (fun e w' => e=.returned (.bool (decide (zga S S.length)))/\Below W.heap.size W w')/\yL 83 #[.agg #[.slice a S.length c]] W (fun e w' => e=.returned (.bool (zur S))/\Below W.heap.size W w'):=fun h W hW =>
   ⟨ztk a c S W (by omega) hB (fun i hi x hx=>(zha (zhb (h i hi))).1 x hx) hW,zmM a c S W (by omega) (fun i hi=>(zha (zhb (h i hi))).2.1) hW,zgB a c S W hN hW⟩
  have a5:Hid _:=J;clear hS hB a8 J;have R0:Hid (zcb S.length S=0->(if zcb S.length S=0 then zuJ S else zcb S.length S)=if decide (zeS S) then (if decide (zga S S.length) then (if zur S then 6 else 0) else 6) else 6):=fun h=>by rw[yb h];rfl
  have R1:Hid (zcb S.length S≠0->(if zcb S.length S=0 then zuJ S else zcb S.length S)=zcb S.length S):=fun h=>ya h;generalize (if zcb S.length S=0 then zuJ S else zcb S.length S)=b9 at *;have E0:Hid (zcb S.length S=zcb S.length (S.drop 0)):=rfl;have DR:Hid (∀ k,k<S.length->S.drop k=nd S k :: S.drop (k+1)):=fun k hk=>zya hk;have DN:Hid (S.drop S.length=[]):=List.drop_length;generalize decide (zeS S)=b1 at *;generalize decide (zga S S.length)=b2 at *;generalize zur S=b3 at *;generalize hn:S.length=n at *;have HN:Hid (S.length=n):=hn;clear hn;have a6:¬ (24:Int)<(n:Int):=by omega
  go_enter Tryz.func42,Tryz.ntmps42
  go_wp2
  go_loopg [13] n (fun g s13 wr=>∃ k:Nat,k<=n/\n-k<=g/\s13=.int .i64 k/\Below w.heap.size w wr/\wr.cell? ⟨w.heap.size,0,none⟩=some (.slice a n c)/\Hid (zcb n S=zcb n (S.drop k))/\Hid (∀ i,i<k->zfp n (nd S i)=0))
  case atStart=>exact⟨0,by omega,by omega,rfl,(yk _ _).alloc (yj _) _,by go_simp,E0,(show Hid _ from fun i hi=>absurd hi (yw _))⟩
  case round =>
   obtain⟨k,hk,hg,rfl,M,lb,A,U⟩:=hrel;have b4:=yd _ _ lb;by_cases a7:k<n
   ·obtain⟨b,o,rfl,c0,c1,c2,c3,c4,⟨ka,kc,c5,b0⟩,c6,c7⟩:=(HS.out.below M) k (by rw[HN.out];exact a7);have c8:b<wr.heap.size:=yd wr ⟨b,o+k*8,none⟩ c0;have b5:=fun W hW=>b7.out k a7 ka kc W hW;have Z:∀ o1,zal (wr.alloc o1) ka (nd S k).ks:=fun o1=>b0.below ((yk _ _).alloc (yj _) _);have KS:Hid _:=Z;have E:=A.out;rw[DR.out k a7] at E;simp only[zcb] at E;clear b0 Z;generalize hE:zfp n (nd S k)=ev at *;by_cases hz:ev=0
    ·subst hz;rw[yb rfl] at E;have F:Hid _:=E;have NE:Hid _:=hE;clear E hE;generalize hx:nd S k=x at *;have HX:Hid _:=hx;clear hx
     go_wp2_with (go_at_call 80;refine(b5 _ (KS.out _)).mono ?_;rintro e w1 ⟨rfl,I⟩)
     go_roundg (n-(k+1))
     case measure=>omega
     case rel =>
      have D:Below wr.heap.size wr w1:=((yk _ _).alloc (yj _) _).trans (I.mono (by simp));refine⟨k+1,by omega,by omega,by go_num,M.trans (D.mono M.size),(D.cell b4).trans lb,F,(show Hid _ from fun i hi=>?_)⟩;by_cases e:i=k
      ·rw[e,HX.out];exact NE.out
      ·exact U.out i (by omega)
    ·rw[ya hz] at E;have c9:(ev == 0)=false:=(by simp[hz]);have F:Hid _:=E;clear E hE;generalize hx:nd S k=x at *;have HX:Hid _:=hx;clear hx
     go_wp2_with (go_at_call 80;refine(b5 _ (KS.out _)).mono ?_;rintro e w1 ⟨rfl,I⟩)
     go_ret;have D:Below wr.heap.size wr w1:=((yk _ _).alloc (yj _) _).trans (I.mono (by simp));refine⟨?_,M.trans (D.mono M.size)⟩;rw[R1.out (by rw[F.out];exact hz),F.out];rfl
   ·have:k=n:=(by omega);subst this;have E:=A.out;have a9:S.drop k=[]:=(by have:=DN.out;exact this);rw[a9] at E;simp only[zcb] at E;have F:Hid _:=E;have T:Hid _:=a5.out U.out;clear E a9;have R2:=R0.out F.out;clear R0 R1;cases b1;rotate_left;cases b2;rotate_left;cases b3
    all_goals
     simp only[if_true,Bool.false_eq_true,if_false] at R2;subst R2
     go_wp2_with (first
      |(go_at_call 81;refine((T.out _ (HS.out.below M)).1).mono ?_;rintro e w1 ⟨rfl,I⟩;have B1:=M.trans (I.mono M.size);have b6:=(I.cell b4).trans lb)
      |(go_at_call 82;refine((T.out _ (HS.out.below B1)).2.1).mono ?_;rintro e w2 ⟨rfl,D⟩;have B2:=B1.trans (D.mono B1.size);have d4:=(D.cell (yd _ _ b6)).trans b6)
      |(go_at_call 83;refine((T.out _ (HS.out.below B2)).2.2).mono ?_;rintro e w3 ⟨rfl,b8⟩;have B3:=B2.trans (b8.mono B2.size)))
    all_goals go_ret
    all_goals first
     | exact⟨rfl,B3⟩
     | exact⟨rfl,B2⟩
     | exact⟨rfl,B1⟩
def ztc(x:Nd)(u:Int):Int:=if decide (1<=u/\u<=x.n) then (if x.u then (if x.n=u then 0 else 5) else 5) else 4
def zda(S:List Nd)(p u:Int):Int:=if zie S.length p then ztc (nd S p.toNat) u else 4
theorem zfi{w w1:World}{v:Value}{p u:Int}(D:Below (w.heap.size+1+1) ((w.alloc (.cells #[v] 43)).alloc (.cells #[.int .i64 p,.int .i64 u] 61)) w1) :
  w1.cell? ⟨w.heap.size,0,none⟩=some v/\w1.cell? ⟨w.heap.size+1,0,none⟩=some (.int .i64 p)/\w1.cell? ⟨w.heap.size+1,1,none⟩=some (.int .i64 u)/\Below w.heap.size w w1 :=
 ⟨(D.cell (by simp;omega)).trans (by go_simp),(D.cell (by simp)).trans (by go_simp),(D.cell (by simp)).trans (by go_simp),(((yk _ _).alloc (yj _) _).alloc (by simp) _).trans (D.mono (by omega))⟩
theorem ziW(a:Option Addr)(c:Nat)(S:List Nd)(p u:Int)(w:World)(hN:S.length<=9223372036854775807)(hS:zah w a S) :
  yL 43 #[.agg #[.slice a S.length c],.agg #[.int .i64 p,.int .i64 u]] w fun e w' => e=.returned (.int .i64 (zda S p u))/\Below w.heap.size w w' := by
 unfold zda;have d1:=fun W=>zgp a c S.length p W hN
 cases hq:zie S.length p with
 | false =>
  rw[hq] at d1;simp only[Bool.false_eq_true,if_false];generalize S.length=n at *;clear hS
  go_enter Tryz.func43,Tryz.ntmps43
  go_wp2_with (go_at_call 84;refine(d1 _).mono ?_;rintro e w' ⟨rfl,D⟩)
  go_ret;simp only[yr] at D;exact⟨rfl,(zfi D).2.2.2⟩
 | true =>
  rw[hq] at d1;simp only[if_true];have a6:0<=p/\p<=(S.length:Int)-1:=of_decide_eq_true hq;clear hq;obtain⟨k,rfl⟩:∃ k:Nat,p=(k:Int):=⟨p.toNat,by omega⟩;have hk:k<S.length:=by omega
  have a9:(k:Int)<(S.length:Int):=by omega
  simp only[yi];obtain⟨b,o,rfl,a5⟩:=hS k hk;have U:Hid (∀ w1,Below w.heap.size w w1->zuS w1 b (o+k*8) (nd S k)):=fun w1 h1=>a5.below h1;clear hS a6 a5;generalize nd S k=x at *;unfold ztc;obtain⟨xu,xn,xt,xm,xp,a7,xh,xc⟩:=x;unfold zuS at U;dsimp only at *;generalize a7.length=kl at *;generalize S.length=n at *;have d2:=zaR u 1 xn;generalize Z:decide (1<=u/\u<=xn)=b1 at *;have B1:Hid (decide (1<=u/\u<=xn)=b1):=Z;clear Z
  cases b1 with
  | false =>
   simp only[Bool.false_eq_true,if_false]
   go_enter Tryz.func43,Tryz.ntmps43
   go_wp2_with (first|(go_at_call 84;refine(d1 _).mono ?_;rintro e w1 ⟨rfl,D⟩;simp only[yr] at D;obtain⟨O,T,l2,E⟩:=zfi D;obtain⟨c0,c1,c2,c3,c4,⟨ka,kc,c5,_⟩,c6,c7⟩:=U.out _ E;have M:=yd w1 _ c0;have I:=yd w1 _ T;have J:=yd w1 _ O;have F:Hid _:=E;clear D E)|(go_at_call 66;refine(d2 _).mono ?_;rintro e w' ⟨rfl,rfl⟩))
   go_ret;exact⟨rfl,F.out.alloc F.out.size _⟩
  | true =>
   simp only[if_true]
   cases xu with
   | false =>
    simp only[Bool.false_eq_true,if_false]
    go_enter Tryz.func43,Tryz.ntmps43
    go_wp2_with (first|(go_at_call 84;refine(d1 _).mono ?_;rintro e w1 ⟨rfl,D⟩;simp only[yr] at D;obtain⟨O,T,l2,E⟩:=zfi D;obtain⟨c0,c1,c2,c3,c4,⟨ka,kc,c5,_⟩,c6,c7⟩:=U.out _ E;have M:=yd w1 _ c0;have I:=yd w1 _ T;have J:=yd w1 _ O;have F:Hid _:=E;clear D E)|(go_at_call 66;refine(d2 _).mono ?_;rintro e w' ⟨rfl,rfl⟩))
    go_ret;exact⟨rfl,F.out.alloc F.out.size _⟩
   | true =>
    simp only[if_true];by_cases he:xn=u
    ·subst he;simp only[if_true]
     go_enter Tryz.func43,Tryz.ntmps43
     go_wp2_with (first|(go_at_call 84;refine(d1 _).mono ?_;rintro e w1 ⟨rfl,D⟩;simp only[yr] at D;obtain⟨O,T,l2,E⟩:=zfi D;obtain⟨c0,c1,c2,c3,c4,⟨ka,kc,c5,_⟩,c6,c7⟩:=U.out _ E;have M:=yd w1 _ c0;have I:=yd w1 _ T;have J:=yd w1 _ O;have F:Hid _:=E;clear D E)|(go_at_call 66;refine(d2 _).mono ?_;rintro e w' ⟨rfl,rfl⟩))
     go_ret;exact⟨rfl,F.out.alloc F.out.size _⟩
    ·simp only[ya he];have a8:(xn == u)=false:=by simp[he]
     go_enter Tryz.func43,Tryz.ntmps43
     go_wp2_with (first|(go_at_call 84;refine(d1 _).mono ?_;rintro e w1 ⟨rfl,D⟩;simp only[yr] at D;obtain⟨O,T,l2,E⟩:=zfi D;obtain⟨c0,c1,c2,c3,c4,⟨ka,kc,c5,_⟩,c6,c7⟩:=U.out _ E;have M:=yd w1 _ c0;have I:=yd w1 _ T;have J:=yd w1 _ O;have F:Hid _:=E;clear D E)|(go_at_call 66;refine(d2 _).mono ?_;rintro e w' ⟨rfl,rfl⟩))
     go_ret;exact⟨rfl,F.out.alloc F.out.size _⟩
def zaw(w:World)(a:Option Addr)(hs:List (Int × Int)):Prop :=
 ∀ i,i<hs.length->∃ b o,a=some ⟨b,o,none⟩/\w.cell? ⟨b,o+i*2,none⟩=some (.int .i64 (hs.getD i (0,0)).1)/\w.cell? ⟨b,o+i*2+1,none⟩=some (.int .i64 (hs.getD i (0,0)).2)
theorem zaw.below{w w' : World}{a:Option Addr}{hs:List (Int × Int)}(h:zaw w a hs)(E:Below w.heap.size w w'):zaw w' a hs:=fun i hi=>by
 obtain⟨b,o,e,h1,D⟩:=h i hi;exact⟨b,o,e,(E.cell (yd w ⟨b,o+i*2,none⟩ h1)).trans h1,(E.cell (yd w ⟨b,o+i*2+1,none⟩ D)).trans D⟩
def zfd(S:List Nd):List (Int × Int)->Int
 | []=>0
 | h :: r=>if zda S h.1 h.2=0 then zfd S r else zda S h.1 h.2
def zbd(S:List Nd)(hs:List (Int × Int)):Int:=if zbr S=0 then zfd S hs else zbr S
theorem zmB{α:Type}{l:List α}{d:α}{k:Nat}(h:k<l.length):l.drop k=l.getD k d :: l.drop (k+1):=by
 rw[zae l d h];exact List.drop_eq_getElem_cons h
theorem zdq(a:Option Addr)(c:Nat)(S:List Nd)(ha:Option Addr)(hc:Nat)(hs:List (Int × Int))(w:World)(hN:S.length<=9223372036854775807)(hB:Big S)(hS:zah w a S)(hL:hs.length<=9223372036854775807)(hH:zaw w ha hs) :
  yL 185 #[.agg #[.slice a S.length c],.slice ha hs.length hc] w fun e w' => e=.returned (.int .i64 (zbd S hs))/\Below w.heap.size w w' := by
 have R0:Hid (zbr S=0->zbd S hs=zfd S (hs.drop 0)):=fun h=>by unfold zbd;rw[yb h];rfl
 have R1:Hid (zbr S≠0->zbd S hs=zbr S):=fun h=>by unfold zbd;rw[ya h]
 have dc:=fun(W:World) (U:zah W a S)=>zdW a c S W hN hB U;have dh:=fun(p u:Int) (W:World) (U:zah W a S)=>ziW a c S p u W hN U;have DH:Hid _:=dh;have HS:Hid (zah w a S):=hS;have HH:Hid (zaw w ha hs):=hH;clear hS hH dh hB;generalize zbd S hs=a6 at *;generalize hn:S.length=n at *;generalize hm:hs.length=m at *;have HM:Hid (hs.length=m):=hm;clear hm hn;by_cases I:zbr S=0
 ·rw[I] at dc;have R2:Hid _:=R0.out I;clear R0 R1 I
  go_enter Tryz.func185,Tryz.ntmps185
  go_wp2_with (go_at_call 42;refine(dc _ (HS.out.below ((yk _ _).alloc (yj _) _))).mono ?_;rintro e w1 ⟨rfl,E⟩)
  have lb:w1.cell? ⟨w.heap.size,0,none⟩=some (.slice a n c):=znq (by simpa using E);have T:Below w.heap.size w w1:=((yk _ _).alloc (yj _) _).trans (E.mono (by simp));clear E dc
  go_loopg [16] m (fun g s16 wr=>∃ k:Nat,k<=m/\m-k<=g/\s16=.int .i64 k/\Below w.heap.size w wr/\wr.cell? ⟨w.heap.size,0,none⟩=some (.slice a n c)/\Hid (a6=zfd S (hs.drop k)))
  case atStart=>exact⟨0,by omega,by omega,rfl,T,lb,R2⟩
  case round =>
   obtain⟨k,hk,hg,rfl,J,a5,A⟩:=hrel;have a7:=yd _ _ a5;clear lb T R2;by_cases Z:k<m
   ·obtain⟨b,o,rfl,c0,c1⟩:=(HH.out.below J) k (by rw[HM.out];exact Z);have a9:=yd _ _ c0;have D:=A.out;rw[zmB (d:=(0,0)) (by rw[HM.out];exact Z)] at D;simp only[zfd] at D;generalize (hs.getD k (0,0)).1=p at *;generalize (hs.getD k (0,0)).2=u at *;have d1:=fun W U=>DH.out p u W U;have HB:Hid (∀ o1,zah (wr.alloc o1) a S):=fun o1=>(HS.out.below J).below ((yk _ _).alloc (yj _) _);generalize zda S p u=ev at *;by_cases I:ev=0
    ·subst I;rw[yb rfl] at D;have O:Hid _:=D;clear D
     go_wp2_with (go_at_call 43;refine(d1 _ (HB.out _)).mono ?_;rintro e w2 ⟨rfl,M⟩)
     go_roundg (m-(k+1))
     case measure=>omega
     case rel =>
      have F:Below wr.heap.size wr w2:=((yk _ _).alloc (yj _) _).trans (M.mono (by simp));exact⟨k+1,by omega,by omega,by go_num,J.trans (F.mono J.size),(F.cell a7).trans a5,O⟩
    ·rw[ya I] at D;have a8:(ev == 0)=false:=(by simp[I]);have O:Hid _:=D;clear D
     go_wp2_with (go_at_call 43;refine(d1 _ (HB.out _)).mono ?_;rintro e w2 ⟨rfl,M⟩)
     go_ret;have F:Below wr.heap.size wr w2:=((yk _ _).alloc (yj _) _).trans (M.mono (by simp));exact⟨by rw[O.out];rfl,J.trans (F.mono J.size)⟩
   ·have:k=m:=(by omega);subst this;have D:=A.out;rw[<- HM.out,List.drop_length] at D;have O:Hid _:=D;clear D
    go_wp2
    go_ret;exact⟨by rw[O.out];rfl,J⟩
 ·have R2:Hid _:=R1.out I;clear R0 R1;generalize zbr S=ev at *;have a8:(ev == 0)=false:=by simp[I]
  go_enter Tryz.func185,Tryz.ntmps185
  go_wp2_with (go_at_call 42;refine(dc _ (HS.out.below ((yk _ _).alloc (yj _) _))).mono ?_;rintro e w1 ⟨rfl,E⟩)
  go_ret;exact⟨by rw[R2.out];rfl,((yk _ _).alloc (yj _) _).trans (E.mono (by simp))⟩
def zbi(S:List Nd):Nat->Nat->List Int
 | 0,p=>[(p:Int)]
 | f+1,p=>(p:Int) ::(nd S p).ks.flatMap fun k=>zbi S f k.toNat
def Deep(S:List Nd):Nat->Nat->Prop
 | 0,p=>(nd S p).ks=[]
 | f+1,p=>∀ k ∈ (nd S p).ks,(0<=k/\k<S.length)/\Deep S f k.toNat
def zbV(ks:Nat->List Int):Nat->Nat->List Int
 | 0,p=>[(p:Int)]
 | f+1,p=>(p:Int) ::(ks p).flatMap fun k=>zbV ks f k.toNat
def zpZ(ks:Nat->List Int)(n:Nat):Nat->Nat->Prop
 | 0,p=>ks p=[]
 | f+1,p=>∀ k ∈ ks p,(0<=k/\k<n)/\zpZ ks n f k.toNat
theorem zjm(S:List Nd):∀ f p,zbV (fun p=>(nd S p).ks) f p=zbi S f p
 | 0,_=>rfl
 | f+1,p=>by
  simp only[zbV,zbi]
  congr 1
  congr 1
  funext k
  exact zjm S f k.toNat
theorem zpd{S:List Nd}:∀ {f p:Nat},Deep S f p->zpZ (fun p=>(nd S p).ks) S.length f p
 | 0,_,h=>h
 | _+1,_,h=>fun k D=>⟨(h k D).1,zpd (h k D).2⟩
def zmf(W:World)(D:Nat)(l:List Int)(w1:World):Prop :=
 Off (fun k=>k=D) W w1/\∃ v,w1.cell? ⟨D,0,none⟩=some v/\w1.frozen? ⟨D,0,none⟩=false/\w1.ownsRow W.heap.size 3 1 v l.length (l.map (Value.int .i64))
theorem grownBy_setCell(w:World)(a:Addr)(v:Value):w.grownBy (w.setCell a v) (some a.block) :=
 ⟨rfl,rfl,rfl,by simp[World.setCell],fun k _ D=>ys _ _ _ _ (fun e=>D (by rw[e]))⟩
theorem zmf.step{W w1 M:World}{D:Nat}{l:List Int}{p:Int}{v v' : Value}(I:D<W.heap.size)(J:Off (fun k=>k=D) W w1)(hc:w1.cell? ⟨D,0,none⟩=some v)(hf:w1.frozen? ⟨D,0,none⟩=false)
  (U:w1.ownsRow W.heap.size 3 1 v l.length (l.map (Value.int .i64))) (o1:Obj)
  (F:M.ownsRow W.heap.size 3 1 v' (l.length+1) (l.map (Value.int .i64)++[.int .i64 p])) (hg:(w1.alloc o1).grownBy M v.ownBlock) :
  M.cell? ⟨D,0,none⟩=some v/\M.frozen? ⟨D,0,none⟩=false/\zmf W D (l++[p]) (M.setCell ⟨D,0,none⟩ v'):=by
 have Z:∀ k,v.ownBlock=some k->W.heap.size<=k:=fun k T=>(U.lt k T).1;have a5:D<w1.heap.size:=yx I J.size
 have E:∀ k,k<W.heap.size->M.heap[k]?=w1.heap[k]?:=fun k T =>
  (hg.block k (by have:=J.size;simp;omega) (fun e=>by have:=Z k e.symm;omega)).trans (Below.heap_alloc _ _ _ (by have:=J.size;omega))
 have O:M.cell? ⟨D,0,none⟩=some v:=(yB (E D I)).trans hc;refine⟨O,(yC (E D I)).trans hf,?_,v', World.cell?_setCell_same _ _ _ O,?_,?_⟩
 ·refine⟨?_,?_,?_,?_,fun k T hx=>?_⟩
  ·exact hg.os.trans J.os
  ·exact hg.tape.trans J.tape
  ·exact hg.output.trans J.output
  ·have:=hg.size;have h2:=J.size;simp[World.setCell] at *;omega
  ·rw[ys _ _ _ _ (by exact hx),E k T];exact J.block k T hx
 ·rw[World.frozen?_setCell];exact(yC (E D I)).trans hf
 ·have h3:=F.kept (grownBy_setCell M ⟨D,0,none⟩ v') (by
   cases hb:v'.ownBlock with
   | none=>exact Or.inl rfl
   | some k=>right;intro e;have:=(F.lt k hb).1;simp at e;omega)
  simpa using h3
theorem zmf.below{W w1 O:World}{I:Nat}{l:List Int}(h:zmf W I l w1)(J:I<W.heap.size)(D:Below w1.heap.size w1 O):zmf W I l O:=by
 obtain⟨M,v,hc,T,F⟩:=h;have E:I<w1.heap.size:=yx J M.size
 exact⟨M.trans (Off.of_below D),v,(D.cell (by exact E)).trans hc,(D.frozen (by exact E)).trans T,F.kept (row:=none) ⟨D.os,D.tape,D.output,D.size,fun k U _=>D.block k U⟩ (by
  cases hv:v.ownBlock with
  | none=>exact Or.inl rfl
  | some k=>exact Or.inr (fun e=>by cases e))⟩
theorem zsJ(ks:List Int)(sub:Int->List Int)(q:Nat)(D:q<ks.length):(ks.take (q+1)).flatMap sub=(ks.take q).flatMap sub++sub (ks.getD q 0):=by
 rw[List.take_succ_eq_append_getElem D,List.flatMap_append,zae ks 0 D];simp
theorem zmG(ks:List Int)(sub:Int->List Int)(q:Nat):((ks.take q).flatMap sub).length<=(ks.flatMap sub).length:=by
 have h:=List.take_append_drop q ks
 have:(ks.flatMap sub).length=((ks.take q).flatMap sub).length+((ks.drop q).flatMap sub).length:=by
  rw[<- List.length_append,<- List.flatMap_append,h]
 omega
theorem znv(ks:Nat->List Int)(n:Nat)(K:Nat)(T:Array Value)(W:World)(D bb bw:Nat)(c7:D<W.heap.size)(d5:bb<W.heap.size)(d6:bw<W.heap.size)(e1:bb≠D)(how:bw≠D)
  (eg:∀ args w,(callFunc K args).run Tryz.prog w=.ok (.enter K args) w)
  (M:W.cell? ⟨bb,0,none⟩=some (.func (.func K) #[] T)) (Z:W.cell? ⟨bw,0,none⟩=some (.func (.func 215) #[] #[.pointer (some ⟨D,0,none⟩),.pointer (some ⟨bb,0,none⟩),.pointer (some ⟨bw,0,none⟩)]))
  (b1:∀ p,p<n->∃ ka kc,(ks p).length<=9223372036854775807/\(∀ w1,Off (fun k=>k=D) W w1->zal w1 ka (ks p))/\∀ w1,Off (fun k=>k=D) W w1->yL K (#[.int .i64 p] ++ T) w1 fun e w2=>e=.returned (.slice ka (ks p).length kc)/\Below w1.heap.size w1 w2) (p:Nat) (hp:p<n) (sub:Int->List Int)
  (b2:∀ k ∈ ks p,∀ l w1,l.length+(sub k).length<=1000000->zmf W D l w1 ->
   yL 215 #[.int .i64 k,.pointer (some ⟨D,0,none⟩),.pointer (some ⟨bb,0,none⟩),.pointer (some ⟨bw,0,none⟩)] w1 fun e w2=>e=.returned (.tuple #[])/\zmf W D (l++sub k) w2)
  (l:List Int) (w1:World) (hlen:l.length+1+((ks p).flatMap sub).length<=1000000) (hI:zmf W D l w1) :
  yL 215 #[.int .i64 p,.pointer (some ⟨D,0,none⟩),.pointer (some ⟨bb,0,none⟩),.pointer (some ⟨bw,0,none⟩)] w1 fun e w2=>e=.returned (.tuple #[])/\zmf W D (l++(p:Int) ::(ks p).flatMap sub) w2:=by
 obtain⟨i0,d9,e2,e3,e4⟩:=info_parts info3;obtain⟨hO,v,hc,hf,b0⟩:=hI;obtain⟨ka,kc,e5,a6,J⟩:=b1 p hp;have e0:l.length+1<=1000000:=by omega
 have e8:=hO.size
 have U:∀ w2,Off (fun k=>k=D) W w2->w2.cell? ⟨bb,0,none⟩=some (.func (.func K) #[] T)/\w2.cell? ⟨bw,0,none⟩=some (.func (.func 215) #[] #[.pointer (some ⟨D,0,none⟩),.pointer (some ⟨bb,0,none⟩),.pointer (some ⟨bw,0,none⟩)]):=fun w2 h2 =>
  ⟨(h2.cell (by exact d5) (by exact e1)).trans M,(h2.cell (by exact d6) (by exact how)).trans Z⟩
 have a7:Hid _:=U;have d4:Hid _:=b2;have HL:Hid _:=hlen;have HO:Hid (Off (fun k=>k=D) W w1):=hO;have a8:Hid (w1.ownsRow W.heap.size 3 1 v l.length (l.map (Value.int .i64))):=b0;have HC:Hid _:=hc;have HF:Hid _:=hf;have b4:Hid _:=a6;have O:Hid _:=J;clear U b2 hlen hO b0 M Z b1 a6 J hp;generalize ks p=ks at *
 go_enter Tryz.func215,Tryz.ntmps215
 go_wp2_with (at_builtin;refine wpList_append_own _ rfl _ _ 48 rfl W.heap.size 3 i0 (.int .i64 0) 1 8 Tryz.underlying48 d9 e2 e3 e4 rfl (by decide) _ _ _ rfl (a8.out.alloc _) ⟨w1.heap.size,0,none⟩ 1 1 [.int .i64 (p:Int)] rfl rfl ?c1 ?c2 ?c3 ?c4 ?c5 ?_)
 case c1 =>
  intro j u hj
  match j,hj with
  | 0,hj=>simp at hj;subst hj;simp[Addr.add]
 case c2=>intro u hu;simp at hu;subst hu;rfl
 case c3=>unfold maxLen;omega
 case c4=>omega
 case c5=>simp;omega
 intro v' w2 F a5 _
 obtain⟨g', I,rfl⟩:∃ g' I,v' = .slice (some ⟨g', 0,none⟩) (l.length+1) I:=by
  rcases F.2 with ⟨_,h⟩ |⟨g', I,e6,h,_⟩
  ·omega
  ·exact⟨g', I,h⟩
 obtain⟨d7,d8,b5⟩:=zmf.step c7 HO.out HC.out HF.out a8.out _ F a5;obtain⟨M,Z⟩:=a7.out _ b5.1;have b3:Hid (zmf W D (l++(p:Int) ::(ks.take 0).flatMap sub) _):=(show zmf W D (l++(p:Int) :: []) _ from b5);clear F a5 b5 hc hf Z;generalize c8:ks.length=L at *;have KL:Hid (ks.length=L):=c8;clear c8
 go_wp2_with (go_at_fn K;refine(O.out _ b3.out.1).mono ?_;rintro e w4 ⟨rfl,c6⟩)
 have c9:Hid (zmf W D (l++(p:Int) ::(ks.take 0).flatMap sub) w4):=b3.out.below c7 c6;clear b3 c6 d7 d8 M O
 go_wp2
 go_loopg [15] L (fun g s18 wr=>∃ q:Nat,q<=L/\L-q<=g/\s18=.int .i64 q/\Hid (zmf W D (l++(p:Int) ::(ks.take q).flatMap sub) wr))
 case atStart=>exact⟨0,by omega,by omega,rfl,c9⟩
 case round =>
  obtain⟨q,hq,hg,rfl,I3⟩:=hrel;by_cases b9:q<L
  ·obtain⟨M,Z⟩:=a7.out _ I3.out.1;obtain⟨kb,ko,rfl,e7⟩:=(b4.out _ I3.out.1) q (by rw[KL.out];exact b9);have a9:ks.getD q 0 ∈ ks:=(by rw[zae ks 0 (by rw[KL.out];exact b9)];exact List.getElem_mem _);have b8:=zsJ ks sub q (by rw[KL.out];exact b9);have b7:=zmG ks sub (q+1);rw[b8] at b7;have b6:=d4.out (ks.getD q 0) a9 _ wr (by have:=HL.out;simp only[List.length_append,List.length_cons] at b7 this |-;omega) I3.out;have FT:Hid _:=b8;clear a9 b8 b7 I3 M;generalize ks.getD q 0=y at *
   go_wp2_with (go_at_call 215;refine b6.mono ?_;rintro e w3 ⟨rfl,I4⟩)
   go_roundg (L-(q+1))
   case measure=>omega
   case rel =>
    refine⟨q+1,by omega,by omega,by go_num,?_⟩
    have I5:zmf W D (l++(p:Int) ::(ks.take (q+1)).flatMap sub) w3:=by
     rw[FT.out];simpa using I4
    exact I5
  ·have:q=L:=(by omega);subst this;have E:(ks.take q)=ks:=(by rw[<- KL.out];exact List.take_length);have I4:=I3.out;rw[E] at I4;have I5:Hid _:=I4;clear I4 E
   go_wp2
   exact bodyPost_end (v:=.tuple #[]) (by simp[results,Tryz.results215,go_sem]) rfl ⟨rfl,I5.out⟩
theorem zuN(ks:Nat->List Int)(n:Nat)(K:Nat)(D:Array Value)(W:World)(E I J:Nat)(O:E<W.heap.size)(M:I<W.heap.size)(T:J<W.heap.size)(a6:I≠E)(how:J≠E)
  (eg:∀ args w,(callFunc K args).run Tryz.prog w=.ok (.enter K args) w)
  (U:W.cell? ⟨I,0,none⟩=some (.func (.func K) #[] D)) (Z:W.cell? ⟨J,0,none⟩=some (.func (.func 215) #[] #[.pointer (some ⟨E,0,none⟩),.pointer (some ⟨I,0,none⟩),.pointer (some ⟨J,0,none⟩)]))
  (F:∀ p,p<n->∃ ka kc,(ks p).length<=9223372036854775807/\(∀ w1,Off (fun k=>k=E) W w1->zal w1 ka (ks p))/\∀ w1,Off (fun k=>k=E) W w1->yL K (#[.int .i64 p] ++ D) w1 fun e w2=>e=.returned (.slice ka (ks p).length kc)/\Below w1.heap.size w1 w2) :
  ∀ (f p:Nat) (l:List Int) (w1:World),p<n->zpZ ks n f p->l.length+(zbV ks f p).length<=1000000->zmf W E l w1 ->
  yL 215 #[.int .i64 p,.pointer (some ⟨E,0,none⟩),.pointer (some ⟨I,0,none⟩),.pointer (some ⟨J,0,none⟩)] w1 fun e w2=>e=.returned (.tuple #[])/\zmf W E (l++zbV ks f p) w2:=by
 intro f
 induction f with
 | zero =>
  intro p l w1 hp hD hlen hI;have hk:ks p=[]:=hD;have h:=znv ks n K D W E I J O M T a6 how eg U Z F p hp (fun _=>[]) (fun k a5=>by rw[hk] at a5;cases a5) l w1 (by simp only[zbV] at hlen;rw[hk];simpa using hlen) hI;rw[hk] at h;exact h
 | succ f ih =>
  intro p l w1 hp hD hlen hI
  exact znv ks n K D W E I J O M T a6 how eg U Z F p hp (fun k=>zbV ks f k.toNat) (fun k hk l w1 hl a7=>by
   obtain⟨⟨h1,h2⟩,h3⟩:=hD k hk;have:=ih k.toNat l w1 (by omega) h3 hl a7
   rwa [Int.toNat_of_nonneg h1] at this) l w1 (by simp only[zbV,List.length_cons] at hlen;omega) hI
end Go.Proofs.YtcbcpomacdngmaaGreat
