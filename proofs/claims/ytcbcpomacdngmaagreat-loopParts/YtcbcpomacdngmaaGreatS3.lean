/-
  x
-/
import Derived.Test.YtcbcpomacdngmaaGreatS2
namespace Go.Proofs.YtcbcpomacdngmaaGreat
set_option maxRecDepth 100000
set_option maxHeartbeats 4000000
set_option linter.unusedVariables false
open Go.RowKit
structure Off (X:Nat->Prop) (w w' : World):Prop where
 os:w'.os=w.os
 tape:w'.tape=w.tape
 output:w'.output=w.output
 size:w.heap.size<=w'.heap.size
 block:∀ k,k<w.heap.size->¬ X k->w'.heap[k]?=w.heap[k]?
theorem Off.refl(X:Nat->Prop)(w:World):Off X w w:=⟨rfl,rfl,rfl,yj _,fun _ _ _=>rfl⟩
theorem Off.trans{X:Nat->Prop}{a b c:World}(h:Off X a b)(k:Off X b c):Off X a c :=
 ⟨k.os.trans h.os,k.tape.trans h.tape,k.output.trans h.output,yH h.size k.size,fun i hi D=>(k.block i (yz hi h.size) D).trans (h.block i hi D)⟩
theorem Off.of_below{X:Nat->Prop}{w w' : World}(h:Below w.heap.size w w'):Off X w w' :=⟨h.os,h.tape,h.output,h.size,fun k D _=>h.block k D⟩
theorem Off.below{X:Nat->Prop}{w w' : World}(h:Off X w w'){B:Nat}(F:B<=w.heap.size)(D:∀ k,X k->B<=k):Below B w w' :=
 ⟨h.os,h.tape,h.output,h.size,fun k I=>h.block k (by omega) (fun E=>by have:=D k E;omega)⟩
theorem Off.cell{X:Nat->Prop}{w w' : World}(h:Off X w w'){p:Addr}(D:p.block<w.heap.size)(E:¬ X p.block):w'.cell? p=w.cell? p:=by
 unfold World.cell?;rw[h.block _ D E]
theorem zdQ(x:Nd)(k:Value)(w:World) :
  yM 151 #[.agg #[.bool x.u,.int .i64 x.n,.int .i64 x.t,.int .i64 x.m,.int .i64 x.p,k,.int .i64 x.h,.bool x.c]] w fun e w' => e=.returned (.int .i64 (if x.h = -1 then x.p else x.h))/\Below w.heap.size w w' := by
 by_cases h:x.h = -1
 ·rw[yb h,h]
  go_enter Tryz.func151,Tryz.ntmps151
  go_wp2
  go_ret;exact⟨rfl,(yk _ _).alloc (yj _) _⟩
 ·rw[ya h];have h1:(x.h == -1)=false:=by simp[h]
  go_enter Tryz.func151,Tryz.ntmps151
  go_wp2
  go_ret;exact⟨rfl,(yk _ _).alloc (yj _) _⟩
def zij(N:Nat)(x:Int):Bool:=decide (0<=x/\x<=(N:Int)-1)
theorem zgt(a:Option Addr)(c N:Nat)(x:Int)(w:World)(E:N<=9223372036854775807) :
  yM 84 #[.agg #[.slice a N c],.int .i64 x] w fun e w' => e=.returned (.bool (zij N x))/\Below w.heap.size w w' := by
 have D:=zaR x 0 ((N:Int)-1);rw[show decide (0<=x/\x<=(N:Int)-1)=zij N x from rfl] at D;generalize zij N x=r at D
 go_enter Tryz.func84,Tryz.ntmps84
 go_wp2_with (go_at_call 66;refine(D _).mono ?_;rintro e w' ⟨rfl,rfl⟩)
 go_ret;exact⟨rfl,(yk _ _).alloc (yj _) _⟩
def zbA{σ:Type}(S:List Nd)(up:Nd->Int)(step:σ->Int->σ × Bool):Nat->Int->σ->σ
 | 0,_,st=>st
 | f+1,x,st=>if zij S.length x then (if (step st x).2 then zbA S up step f (up (nd S x.toNat)) (step st x).1 else (step st x).1) else st
theorem zmt{σ:Type}(a:Option Addr)(c:Nat)(S:List Nd)(w:World)(place:Int)(KU KV:Nat)(O:Array Value)(up:Nd->Int)(step:σ->Int->σ × Bool)(I:σ->World->Prop)(X:Nat->Prop)(st:σ)
  (hN:S.length<=9223372036854775807)
  (b7:∀ st D,I st D->zai D a S)
  (hI:∀ st D F,I st D->Below D.heap.size D F->I st F)
  (eU:∀ args w,(callFunc KU args).run Tryz.prog w=.ok (.enter KU args) w) (eV:∀ args w,(callFunc KV args).run Tryz.prog w=.ok (.enter KV args) w)
  (hU:∀ (x:Nd) (k:Value) (D:World),yM KU #[.agg #[.bool x.u,.int .i64 x.n,.int .i64 x.t,.int .i64 x.m,.int .i64 x.p,k,.int .i64 x.h,.bool x.c]] D fun e F=>e=.returned (.int .i64 (up x))/\Below D.heap.size D F)
  (hV:∀ st x D,I st D->w.heap.size<D.heap.size->zij S.length x=true->yM KV (#[.int .i64 x] ++ O) D fun e F=>e=.returned (.bool (step st x).2)/\I (step st x).1 F/\Off X D F/\∀ k:Nat,D.heap[k]?=some (.cells #[.slice a S.length c] 43 (0,0))->F.heap[k]?=D.heap[k]?)
  (h0:I st w) :
  yM 150 #[.agg #[.slice a S.length c],.int .i64 place,.func (.func KU) #[] #[],.func (.func KV) #[] O] w fun e w' => e=.returned (.tuple #[])/\I (if zij S.length place then zbA S up step S.length (up (nd S place.toNat)) st else st) w' /\ Off X w w' := by
 have c8:Hid (S.length=S.length):=rfl;have IS:Hid (∀ st D,I st D->zai D a S):=b7;have HI:Hid (∀ st D F,I st D->Below D.heap.size D F->I st F):=hI;have HV:Hid (∀ st x D,I st D->w.heap.size<D.heap.size->zij S.length x=true->yM KV (#[.int .i64 x] ++ O) D fun e F=>e=.returned (.bool (step st x).2)/\I (step st x).1 F/\Off X D F/\∀ k:Nat,D.heap[k]?=some (.cells #[.slice a S.length c] 43 (0,0))->F.heap[k]?=D.heap[k]?):=hV;have H0:Hid (I st w):=h0;clear b7 hI hV h0;have Z:=fun W=>zgt a c S.length place W hN;generalize hn:S.length=n at *;have HN:Hid (S.length=n):=hn;clear hn c8
 cases hq:zij n place with
 | false =>
  rw[hq] at Z;simp only[Bool.false_eq_true,if_false]
  go_enter Tryz.func150,Tryz.ntmps150
  go_wp2_with (go_at_call 84;refine(Z _).mono ?_;rintro e w' ⟨rfl,hb⟩)
  refine yw (v:=.tuple #[]) (by simp[results,Tryz.results150,go_sem]) rfl ⟨rfl,?_,?_⟩
  ·exact HI.out _ _ _ H0.out (((yk _ _).alloc (yj _) _).trans (hb.mono (by simp)))
  ·exact Off.of_below (((yk _ _).alloc (yj _) _).trans (hb.mono (by simp)))
 | true =>
  rw[hq] at Z;simp only[if_true];have b0:0<=place/\place<=(n:Int)-1:=of_decide_eq_true hq;clear hq;obtain⟨p,rfl⟩:∃ p:Nat,place=(p:Int):=⟨place.toNat,by omega⟩;have d5:p<n:=by omega
  have d8:(p:Int)<(n:Int):=by omega
  clear b0;simp only[yi]
  go_enter Tryz.func150,Tryz.ntmps150
  go_wp2_with (first
   |(go_at_call 84;refine(Z _).mono ?_;rintro e D ⟨rfl,T⟩;simp only[yr] at T;have a5:Below w.heap.size w D:=((yk _ _).alloc (yj _) _).trans (T.mono (by simp));have lb:D.cell? ⟨w.heap.size,0,none⟩=some (.slice a n c):=(T.cell (by simp)).trans (by go_simp);have b9:Hid (D.heap[w.heap.size]?=some (.cells #[.slice a n c] 43 (0,0))):=(T.block _ (by simp)).trans (yL _ _);obtain⟨b,o,rfl,c0,c1,c2,c3,c4,⟨ka,kc,c5,_⟩,c6,c7⟩:=IS.out _ _ (HI.out _ _ _ H0.out a5) p (by rw[HN.out];exact d5))
   |(go_at_fn KU;refine(hU (nd S p) _ _).mono ?_;rintro e F ⟨rfl,a6⟩;have b1:F.cell? ⟨w.heap.size,0,none⟩=some (.slice (some ⟨b,o,none⟩) n c):=(a6.cell (yd _ _ lb)).trans lb))
  have b3:Hid (F.heap[w.heap.size]?=some (.cells #[.slice (some ⟨b,o,none⟩) n c] 43 (0,0))):=(a6.block _ (yd _ _ lb)).trans b9.out;clear b9;have a9:Below w.heap.size w F:=a5.trans (a6.mono a5.size);have b8:w.heap.size<D.heap.size:=yd _ _ lb;have a8:w.heap.size<F.heap.size:=yd _ _ b1;have I2:Hid (I st F):=HI.out _ _ _ H0.out a9;have O2:Hid (Off X w F):=Off.of_below a9;clear c0 c1 c2 c3 c4 c5 c6 c7 T a6 lb a5 b8 Z
  go_loopg [8,23] n (fun g s8 s23 wr=>∃ (k:Nat) (x:Int) (s:σ),k<=n/\n-k<=g/\s23=.int .i64 k/\s8=.int .i64 x/\Hid (I s wr)/\Hid (Off X w wr)/\w.heap.size<wr.heap.size/\wr.cell? ⟨w.heap.size,0,none⟩=some (.slice (some ⟨b,o,none⟩) n c)/\Hid (wr.heap[w.heap.size]?=some (.cells #[.slice (some ⟨b,o,none⟩) n c] 43 (0,0)))/\Hid (zbA S up step n (up (nd S p)) st=zbA S up step (n-k) x s))
  case atStart=>exact⟨0,up (nd S p),st,by omega,by omega,rfl,rfl,I2,O2,a8,b1,b3,rfl⟩
  case round =>
   obtain⟨k,x,s,hk,hg,rfl,rfl,I3,O3,M,e0,b4,E3⟩:=hrel;clear I2 O2 a8 b1 a9 b3;by_cases d9:k<n
   ·obtain⟨f,hf⟩:∃ f,n-k=f+1:=⟨n-k-1,by omega⟩;have J:=E3.out;rw[hf] at J;simp only[zbA,HN.out] at J;have Z:=fun W=>zgt (some ⟨b,o,none⟩) c n x W hN
    cases hq:zij n x with
    | false =>
     rw[hq] at Z J;simp only[Bool.false_eq_true,if_false] at J;have E4:Hid (zbA S up step n (up (nd S p)) st=s):=J;clear J
     go_wp2_with (go_at_call 84;refine(Z _).mono ?_;rintro e w3 ⟨rfl,E⟩)
     refine yw (v:=.tuple #[]) (by simp[results,Tryz.results150,go_sem]) rfl ⟨rfl,?_,?_⟩
     ·rw[E4.out];exact HI.out _ _ _ I3.out E
     ·exact O3.out.trans (Off.of_below E)
    | true =>
     rw[hq] at Z J;simp only[if_true] at J;have b0:0<=x/\x<=(n:Int)-1:=of_decide_eq_true hq;obtain⟨j,rfl⟩:∃ j:Nat,x=(j:Int):=⟨x.toNat,by omega⟩;have c9:j<n:=(by omega);have d7:(j:Int)<(n:Int):=(by omega);clear b0;simp only[yi] at J;have hv:=fun W (hW:I s W) (hz:w.heap.size<W.heap.size)=>HV.out s (j:Int) W hW hz hq;clear hq;generalize d6:step s (j:Int)=sr at *;obtain⟨s', r⟩:=sr;dsimp only at hv J;have b2:Hid _:=J;clear J d6
     cases r with
     | false =>
      have E4:zbA S up step n (up (nd S p)) st=s' := by simpa using b2.out
      have E5:Hid _:=E4;clear E4
      go_wp2_with (first
       |(go_at_call 84;refine(Z _).mono ?_;rintro e w3 ⟨rfl,E⟩)
       |(go_at_fn KV;refine(hv _ (HI.out _ _ _ I3.out E) (yz M E.size)).mono ?_;rintro e w4 ⟨rfl,I4,O4,_⟩))
      refine yw (v:=.tuple #[]) (by simp[results,Tryz.results150,go_sem]) rfl ⟨rfl,?_,?_⟩
      ·rw[E5.out];exact I4
      ·exact(O3.out.trans (Off.of_below E)).trans O4
     | true =>
      have E4:zbA S up step n (up (nd S p)) st=zbA S up step f (up (nd S j)) s' := by simpa using b2.out
      have E5:Hid _:=E4;clear E4
      have fr:∀ w3 w4:World,Below wr.heap.size wr w3->(∀ k:Nat,w3.heap[k]?=some (.cells #[.slice (some ⟨b,o,none⟩) n c] 43 (0,0))->w4.heap[k]?=w3.heap[k]?)->w4.heap[w.heap.size]?=some (.cells #[.slice (some ⟨b,o,none⟩) n c] 43 (0,0)):=fun w3 w4 h3 h4 =>
       (h4 _ ((h3.block _ M).trans b4.out)).trans ((h3.block _ M).trans b4.out)
      have FR:Hid _:=fr;clear fr
      go_wp2_with (first
       |(go_at_call 84;refine(Z _).mono ?_;rintro e w3 ⟨rfl,E⟩)
       |(go_at_fn KV;refine(hv _ (HI.out _ _ _ I3.out E) (yz M E.size)).mono ?_;rintro e w4 ⟨rfl,I4,O4,T4⟩;have b5:Hid (w4.heap[w.heap.size]?=some (.cells #[.slice (some ⟨b,o,none⟩) n c] 43 (0,0))):=FR.out w3 w4 E T4;have a7:=zaJ b5.out;clear T4;have b6:Hid (I s' w4):=I4;clear I4;obtain⟨b', o', e', c0,c1,c2,c3,c4,⟨ka,kc,c5,_⟩,c6,c7⟩:=IS.out _ _ b6.out j (by rw[HN.out];exact c9);cases e')
       |(go_at_fn KU;refine(hU (nd S j) _ _).mono ?_;rintro e w5 ⟨rfl,U⟩))
      go_roundg (n-(k+1))
      case measure=>omega
      case rel =>
       refine⟨k+1,up (nd S j),s', by omega,by omega,by go_num,rfl,HI.out _ _ _ b6.out U,(O3.out.trans (Off.of_below E)).trans (O4.trans (Off.of_below U)),?_,(U.cell (yd _ _ a7)).trans a7,(U.block _ (yd _ _ a7)).trans b5.out,?_⟩
       ·have:=yd _ _ a7;have h5:=U.size;have:w.heap.size<w4.heap.size:=this;omega
       ·rw[show n-(k+1)=f by omega];exact E5
   ·have d4:k=n:=(by omega);subst d4;have J:=E3.out;rw[Nat.sub_self] at J;have E4:Hid (zbA S up step k (up (nd S p)) st=s):=J;clear J E3
    go_wp2
    refine bodyPost_end (v:=.tuple #[]) (by simp[results,Tryz.results150,go_sem]) rfl ⟨rfl,?_,O3.out⟩;rw[E4.out];exact I3.out
def zam(x:Nd):Int:=if x.h = -1 then x.p else x.h
def zet(D:Int):Bool->Int->Bool × Bool:=fun _ x=>(decide (x=D),!decide (x=D))
def zbs(S:List Nd)(place D:Int):Bool:=if zij S.length place then zbA S zam (zet D) S.length (zam (nd S place.toNat)) false else false
theorem zkt(x D:Int)(F E:Nat)(st:Value)(w:World)(h1:w.cell? ⟨F,0,none⟩=some (.int .i64 D))(J:w.cell? ⟨E,0,none⟩=some st)(O:w.frozen? ⟨E,0,none⟩=false) :
  yM 152 #[.int .i64 x,.pointer (some ⟨F,0,none⟩),.pointer (some ⟨E,0,none⟩)] w fun e w' => e=.returned (.bool (!decide (x=D)))/\w' = w.setCell ⟨E,0,none⟩ (.bool (decide (x=D))):=by
 have M:∀ v,(w.setCell ⟨E,0,none⟩ v).cell? ⟨E,0,none⟩=some v:=fun v=>World.cell?_setCell_same _ _ _ J;by_cases h:x=D
 ·subst h
  go_enter Tryz.func152,Tryz.ntmps152
  go_wp2
  go_ret;exact⟨rfl,rfl⟩
 ·have hd:decide (x=D)=false:=yF h;rw[hd];have I:(x == D)=false:=by simp[h]
  go_enter Tryz.func152,Tryz.ntmps152
  go_wp2
  go_ret;refine⟨?_,?_⟩
  ·first|rfl|(simp[I])
  ·first|rfl|(rw[I])
def zkv(w:World)(a:Option Addr)(S:List Nd)(D:Int)(st:Bool)(E:World):Prop :=
 Below w.heap.size w E/\zai w a S/\E.cell? ⟨w.heap.size+1,0,none⟩=some (.int .i64 D)/\E.cell? ⟨w.heap.size+1+1,0,none⟩=some (.bool st)/\E.frozen? ⟨w.heap.size+1+1,0,none⟩=false
theorem zkv.below{w F O:World}{a:Option Addr}{S:List Nd}{D:Int}{st:Bool}(h:zkv w a S D st F)(E:Below F.heap.size F O):zkv w a S D st O:=by
 obtain⟨h1,T,I,J,h5⟩:=h;have hs:=h1.size;have M:=yd _ _ J;exact⟨h1.trans (E.mono hs),T,(E.cell (yd _ _ I)).trans I,(E.cell M).trans J,(E.frozen M).trans h5⟩
theorem znz(a:Option Addr)(c:Nat)(S:List Nd)(place D:Int)(w:World)(hN:S.length<=9223372036854775807)(M:zai w a S) :
  yM 128 #[.agg #[.slice a S.length c],.int .i64 place,.int .i64 D] w fun e w' => e=.returned (.bool (zbs S place D))/\Below w.heap.size w w' := by
 have F:∀ W,zkv w a S D false W->W.heap.size=w.heap.size+1+1+1->yM 150 #[.agg #[.slice a S.length c],.int .i64 place,.func (.func 151) #[] #[],.func (.func 152) #[] #[.pointer (some ⟨w.heap.size+1,0,none⟩),.pointer (some ⟨w.heap.size+1+1,0,none⟩)]] W fun e w' => e=.returned (.tuple #[])/\zkv w a S D (zbs S place D) w' := fun W hW a5 =>
  (zmt a c S W place 151 152 #[.pointer (some ⟨w.heap.size+1,0,none⟩),.pointer (some ⟨w.heap.size+1+1,0,none⟩)] zam (zet D) (zkv w a S D) (fun k=>k=w.heap.size+1+1) false hN
   (fun st E h=>h.2.1.below h.1)
   (fun st E w2 h I=>h.below I)
   (yK Tryz.func151 (by kernel_rfl) rfl) (yK Tryz.func152 (by kernel_rfl) rfl)
   (fun x k E=>zdQ x k E)
   (fun st x E h _ _=>(zkt x D (w.heap.size+1) (w.heap.size+1+1) (.bool st) E h.2.2.1 h.2.2.2.1 h.2.2.2.2).mono (by
    rintro e w2 ⟨rfl,rfl⟩;obtain⟨h1,h2,h3,J,h5⟩:=h;have hs:=h1.size;refine⟨rfl,⟨h1.setCell (by show w.heap.size<=w.heap.size+1+1;omega) _,h2,?_,World.cell?_setCell_same _ _ _ J,?_⟩,?_,fun k O=>yv _ _ _ _ (fun e=>?_)⟩
    ·exact(((yk (w.heap.size+1+1) E).setCell (yj _) _).cell (by show w.heap.size+1 < _;omega)).trans h3
    ·rw[World.frozen?_setCell];exact h5
    ·exact⟨rfl,rfl,rfl,by simp[World.setCell],fun k _ hx=>yv _ _ _ _ (by exact hx)⟩
    ·have Z:k=w.heap.size+1+1:=e;rw[Z] at O;have:=zaJ O;rw[J] at this
     cases this))
   hW).mono (fun e w' h=>⟨h.1,by have:=h.2.1;exact this⟩)
 have T:Hid _:=F;have U:Hid (zai w a S):=M;clear F M;generalize S.length=n at *;generalize zbs S place D=r at *
 go_enter Tryz.func128,Tryz.ntmps128
 go_wp2_with (go_at_call 150;refine(T.out _ ⟨(((yk _ _).alloc (yj _) _).alloc (by simp) _).alloc (by simp;omega) _,U.out,by go_simp,by go_simp,by go_simp⟩ (by simp)).mono ?_;rintro e E ⟨rfl,I,_,l1,l2,_⟩)
 go_ret;exact⟨rfl,I⟩
theorem zgE(a:Option Addr)(c:Nat)(S:List Nd)(w:World)(hN:S.length<=9223372036854775807)(O:zai w a S) :
  yM 83 #[.agg #[.slice a S.length c]] w fun e w' => e=.returned (.bool ((List.range S.length).any fun i=>zbs S i i))/\Below w.heap.size w w' := by
 have HT:Hid (∀ i,i<S.length->zbs S i i=true->((List.range S.length).any fun i=>zbs S i i)=true):=fun i hi h=>List.any_eq_true.2 ⟨i,List.mem_range.2 hi,h⟩;have U:Hid ((∀ i,i<S.length->zbs S i i=false)->((List.range S.length).any fun i=>zbs S i i)=false):=fun h=>List.any_eq_false.2 fun i hi=>by rw[h i (List.mem_range.1 hi)];simp
 generalize ((List.range S.length).any fun i=>zbs S i i)=R at *;have M:=fun(i:Nat) (W:World) (hW:zai W a S)=>znz a c S i i W hN hW;have HS:Hid (zai w a S):=O;clear O;generalize hn:S.length=n at *;have HN:Hid (S.length=n):=hn;clear hn
 go_enter Tryz.func83,Tryz.ntmps83
 go_wp2
 go_loopg [7] n (fun g s7 wr=>∃ k:Nat,k<=n/\n-k<=g/\s7=.int .i64 k/\Below w.heap.size w wr/\wr.cell? ⟨w.heap.size,0,none⟩=some (.slice a n c)/\Hid (∀ i,i<k->zbs S i i=false))
 case atStart=>exact⟨0,by omega,by omega,rfl,(yk _ _).alloc (yj _) _,by go_simp,(show Hid _ from fun i hi=>absurd hi (yx _))⟩
 case round =>
  obtain⟨k,hk,hg,rfl,F,T,A⟩:=hrel;have I:=yd _ _ T;by_cases J:k<n
  ·have E:=M k wr (HS.out.below F);clear M
   cases hr:zbs S k k with
   | true =>
    rw[hr] at E;have Z:Hid _:=HT.out k J hr;clear hr
    go_wp2_with (go_at_call 128;refine E.mono ?_;rintro e w1 ⟨rfl,D⟩)
    go_ret;exact⟨by rw[Z.out];rfl,F.trans (D.mono F.size)⟩
   | false =>
    rw[hr] at E;have Z:Hid _:=hr;clear hr
    go_wp2_with (go_at_call 128;refine E.mono ?_;rintro e w1 ⟨rfl,D⟩)
    go_roundg (n-(k+1))
    case measure=>omega
    case rel =>
     refine⟨k+1,by omega,by omega,by go_num,F.trans (D.mono F.size),(D.cell I).trans T,(show Hid _ from fun i hi=>?_)⟩;by_cases e:i=k
     ·rw[e];exact Z.out
     ·exact A.out i (by omega)
  ·have:k=n:=(by omega);subst this;have Z:Hid _:=U.out A.out;clear M
   go_wp2
   go_ret;exact⟨by rw[Z.out];rfl,F⟩
def zbZ(N:Int):List Nd->Int
 | []=>0
 | x :: r=>if zfv N x=0 then zbZ N r else zfv N x
def zuF(S:List Nd):Bool:=(List.range S.length).any fun i=>zbs S i i
def zuX(S:List Nd):Int:=if decide (zeS S) then (if decide (zgh S S.length) then (if zuF S then 6 else 0) else 6) else 6
def zbo(S:List Nd):Int:=if 24<S.length then 1 else if zbZ S.length S=0 then zuX S else zbZ S.length S
theorem zyr{S:List Nd}{k:Nat}(h:k<S.length):S.drop k=nd S k :: S.drop (k+1):=by
 rw[zbf h];exact List.drop_eq_getElem_cons h
theorem zhb{N:Int}{x:Nd}(h:zfv N x=0):zeg N x=true:=by
 unfold zfv at h
 split at h
 ·split at h
  ·assumption
  ·omega
 ·omega
theorem zha{N:Int}{x:Nd}(h:zeg N x=true):(∀ y ∈ x.ks,-1<=y/\y<N)/\(-1<=x.h/\x.h<N)/\(-1<=x.p/\x.p<N):=by
 unfold zeg zlN at h;simp only[Bool.and_eq_true,decide_eq_true_eq,List.any_eq_false,Bool.not_eq_eq_eq_not,Bool.not_true,decide_eq_false_iff_not,Decidable.not_not] at h;refine⟨fun y D=>?_,⟨h.2.1.1,by omega⟩,⟨h.1.1,by omega⟩⟩;have:=h.2.2 y D;omega
theorem znu{w D:World}{v:Value}(E:Below (w.heap.size+1) (w.alloc (.cells #[v] 43)) D):D.cell? ⟨w.heap.size,0,none⟩=some v :=
 (E.cell (by simp)).trans (by go_simp)
theorem zdW(a:Option Addr)(c:Nat)(S:List Nd)(w:World)(hN:S.length<=9223372036854775807)(hB:Big S)(hS:zai w a S) :
  yM 42 #[.agg #[.slice a S.length c]] w fun e w' => e=.returned (.int .i64 (zbo S))/\Below w.heap.size w w' := by
 unfold zbo;by_cases O:24<S.length
 ·rw[yb O];generalize S.length=n at *;clear hS hB;have a6:(24:Int)<(n:Int):=by omega
  go_enter Tryz.func42,Tryz.ntmps42
  go_wp2
  go_ret;exact⟨rfl,(yk _ _).alloc (yj _) _⟩
 ·rw[ya O];have HS:Hid (zai w a S):=hS;have HB:Hid (Big S):=hB;have a8:=fun(i:Nat) (hi:i<S.length) (ka:Option Addr) (kc:Nat) (W:World) (hW:zaj W ka (nd S i).ks)=>zlq (nd S i) ka kc S.length W ⟨by omega,by omega⟩ (hB i hi) hW;have b7:Hid _:=a8
  have J:(∀ i,i<S.length->zfv S.length (nd S i)=0)->∀ W,zai W a S->yM 81 #[.slice a S.length c] W (fun e w' => e=.returned (.bool (decide (zeS S)))/\Below W.heap.size W w')/\yM 82 #[.slice a S.length c] W (fun e w' => e=.returned (.bool (decide (zgh S S.length)))/\Below W.heap.size W w')/\yM 83 #[.agg #[.slice a S.length c]] W (fun e w' => e=.returned (.bool (zuF S))/\Below W.heap.size W w'):=fun h W hW =>
   ⟨zty a c S W (by omega) hB (fun i hi x hx=>(zha (zhb (h i hi))).1 x hx) hW,zmR a c S W (by omega) (fun i hi=>(zha (zhb (h i hi))).2.1) hW,zgE a c S W hN hW⟩
  have a5:Hid _:=J;clear hS hB a8 J;have R0:Hid (zbZ S.length S=0->(if zbZ S.length S=0 then zuX S else zbZ S.length S)=if decide (zeS S) then (if decide (zgh S S.length) then (if zuF S then 6 else 0) else 6) else 6):=fun h=>by rw[yb h];rfl
  have R1:Hid (zbZ S.length S≠0->(if zbZ S.length S=0 then zuX S else zbZ S.length S)=zbZ S.length S):=fun h=>ya h;generalize (if zbZ S.length S=0 then zuX S else zbZ S.length S)=b9 at *;have E0:Hid (zbZ S.length S=zbZ S.length (S.drop 0)):=rfl;have DR:Hid (∀ k,k<S.length->S.drop k=nd S k :: S.drop (k+1)):=fun k hk=>zyr hk;have DN:Hid (S.drop S.length=[]):=List.drop_length;generalize decide (zeS S)=b1 at *;generalize decide (zgh S S.length)=b2 at *;generalize zuF S=b3 at *;generalize hn:S.length=n at *;have HN:Hid (S.length=n):=hn;clear hn;have a6:¬ (24:Int)<(n:Int):=by omega
  go_enter Tryz.func42,Tryz.ntmps42
  go_wp2
  go_loopg [13] n (fun g s13 wr=>∃ k:Nat,k<=n/\n-k<=g/\s13=.int .i64 k/\Below w.heap.size w wr/\wr.cell? ⟨w.heap.size,0,none⟩=some (.slice a n c)/\Hid (zbZ n S=zbZ n (S.drop k))/\Hid (∀ i,i<k->zfv n (nd S i)=0))
  case atStart=>exact⟨0,by omega,by omega,rfl,(yk _ _).alloc (yj _) _,by go_simp,E0,(show Hid _ from fun i hi=>absurd hi (yx _))⟩
  case round =>
   obtain⟨k,hk,hg,rfl,M,lb,A,U⟩:=hrel;have b4:=yd _ _ lb;by_cases a7:k<n
   ·obtain⟨b,o,rfl,c0,c1,c2,c3,c4,⟨ka,kc,c5,b0⟩,c6,c7⟩:=(HS.out.below M) k (by rw[HN.out];exact a7);have c8:b<wr.heap.size:=yd wr ⟨b,o+k*8,none⟩ c0;have b5:=fun W hW=>b7.out k a7 ka kc W hW;have Z:∀ o1,zaj (wr.alloc o1) ka (nd S k).ks:=fun o1=>b0.below ((yk _ _).alloc (yj _) _);have KS:Hid _:=Z;have E:=A.out;rw[DR.out k a7] at E;simp only[zbZ] at E;clear b0 Z;generalize hE:zfv n (nd S k)=ev at *;by_cases hz:ev=0
    ·subst hz;rw[yb rfl] at E;have F:Hid _:=E;have NE:Hid _:=hE;clear E hE;generalize hx:nd S k=x at *;have HX:Hid _:=hx;clear hx
     go_wp2_with (go_at_call 80;refine(b5 _ (KS.out _)).mono ?_;rintro e w1 ⟨rfl,I⟩)
     go_roundg (n-(k+1))
     case measure=>omega
     case rel =>
      have D:Below wr.heap.size wr w1:=((yk _ _).alloc (yj _) _).trans (I.mono (by simp));refine⟨k+1,by omega,by omega,by go_num,M.trans (D.mono M.size),(D.cell b4).trans lb,F,(show Hid _ from fun i hi=>?_)⟩;by_cases e:i=k
      ·rw[e,HX.out];exact NE.out
      ·exact U.out i (by omega)
    ·rw[ya hz] at E;have c9:(ev == 0)=false:=(by simp[hz]);have F:Hid _:=E;clear E hE;generalize hx:nd S k=x at *;have HX:Hid _:=hx;clear hx
     go_wp2_with (go_at_call 80;refine(b5 _ (KS.out _)).mono ?_;rintro e w1 ⟨rfl,I⟩)
     go_ret;have D:Below wr.heap.size wr w1:=((yk _ _).alloc (yj _) _).trans (I.mono (by simp));refine⟨?_,M.trans (D.mono M.size)⟩;rw[R1.out (by rw[F.out];exact hz),F.out];rfl
   ·have:k=n:=(by omega);subst this;have E:=A.out;have a9:S.drop k=[]:=(by have:=DN.out;exact this);rw[a9] at E;simp only[zbZ] at E;have F:Hid _:=E;have T:Hid _:=a5.out U.out;clear E a9;have R2:=R0.out F.out;clear R0 R1;cases b1;rotate_left;cases b2;rotate_left;cases b3
    all_goals
     simp only[if_true,Bool.false_eq_true,if_false] at R2;subst R2
     go_wp2_with (first
      |(go_at_call 81;refine((T.out _ (HS.out.below M)).1).mono ?_;rintro e w1 ⟨rfl,I⟩;have B1:=M.trans (I.mono M.size);have b6:=(I.cell b4).trans lb)
      |(go_at_call 82;refine((T.out _ (HS.out.below B1)).2.1).mono ?_;rintro e w2 ⟨rfl,D⟩;have B2:=B1.trans (D.mono B1.size);have d4:=(D.cell (yd _ _ b6)).trans b6)
      |(go_at_call 83;refine((T.out _ (HS.out.below B2)).2.2).mono ?_;rintro e w3 ⟨rfl,b8⟩;have B3:=B2.trans (b8.mono B2.size)))
    all_goals go_ret
    all_goals first
     | exact⟨rfl,B3⟩
     | exact⟨rfl,B2⟩
     | exact⟨rfl,B1⟩
def ztq(x:Nd)(u:Int):Int:=if decide (1<=u/\u<=x.n) then (if x.u then (if x.n=u then 0 else 5) else 5) else 4
def zda(S:List Nd)(p u:Int):Int:=if zij S.length p then ztq (nd S p.toNat) u else 4
theorem zfo{w D:World}{v:Value}{p u:Int}(E:Below (w.heap.size+1+1) ((w.alloc (.cells #[v] 43)).alloc (.cells #[.int .i64 p,.int .i64 u] 61)) D) :
  D.cell? ⟨w.heap.size,0,none⟩=some v/\D.cell? ⟨w.heap.size+1,0,none⟩=some (.int .i64 p)/\D.cell? ⟨w.heap.size+1,1,none⟩=some (.int .i64 u)/\Below w.heap.size w D :=
 ⟨(E.cell (by simp;omega)).trans (by go_simp),(E.cell (by simp)).trans (by go_simp),(E.cell (by simp)).trans (by go_simp),(((yk _ _).alloc (yj _) _).alloc (by simp) _).trans (E.mono (by omega))⟩
theorem zjd(a:Option Addr)(c:Nat)(S:List Nd)(p u:Int)(w:World)(hN:S.length<=9223372036854775807)(hS:zai w a S) :
  yM 43 #[.agg #[.slice a S.length c],.agg #[.int .i64 p,.int .i64 u]] w fun e w' => e=.returned (.int .i64 (zda S p u))/\Below w.heap.size w w' := by
 unfold zda;have d1:=fun W=>zgt a c S.length p W hN
 cases hq:zij S.length p with
 | false =>
  rw[hq] at d1;simp only[Bool.false_eq_true,if_false];generalize S.length=n at *;clear hS
  go_enter Tryz.func43,Tryz.ntmps43
  go_wp2_with (go_at_call 84;refine(d1 _).mono ?_;rintro e w' ⟨rfl,E⟩)
  go_ret;simp only[yr] at E;exact⟨rfl,(zfo E).2.2.2⟩
 | true =>
  rw[hq] at d1;simp only[if_true];have a7:0<=p/\p<=(S.length:Int)-1:=of_decide_eq_true hq;clear hq;obtain⟨k,rfl⟩:∃ k:Nat,p=(k:Int):=⟨p.toNat,by omega⟩;have hk:k<S.length:=by omega
  have b0:(k:Int)<(S.length:Int):=by omega
  simp only[yi];obtain⟨b,o,rfl,a6⟩:=hS k hk;have Z:Hid (∀ D,Below w.heap.size w D->zvh D b (o+k*8) (nd S k)):=fun D h1=>a6.below h1;clear hS a7 a6;generalize nd S k=x at *;unfold ztq;obtain⟨xu,xn,xt,xm,xp,a8,xh,xc⟩:=x;unfold zvh at Z;dsimp only at *;generalize a8.length=kl at *;generalize S.length=n at *;have d2:=zaR u 1 xn;generalize a5:decide (1<=u/\u<=xn)=b1 at *;have B1:Hid (decide (1<=u/\u<=xn)=b1):=a5;clear a5
  cases b1 with
  | false =>
   simp only[Bool.false_eq_true,if_false]
   go_enter Tryz.func43,Tryz.ntmps43
   go_wp2_with (first|(go_at_call 84;refine(d1 _).mono ?_;rintro e D ⟨rfl,E⟩;simp only[yr] at E;obtain⟨T,U,l2,F⟩:=zfo E;obtain⟨c0,c1,c2,c3,c4,⟨ka,kc,c5,_⟩,c6,c7⟩:=Z.out _ F;have O:=yd D _ c0;have J:=yd D _ U;have M:=yd D _ T;have I:Hid _:=F;clear E F)|(go_at_call 66;refine(d2 _).mono ?_;rintro e w' ⟨rfl,rfl⟩))
   go_ret;exact⟨rfl,I.out.alloc I.out.size _⟩
  | true =>
   simp only[if_true]
   cases xu with
   | false =>
    simp only[Bool.false_eq_true,if_false]
    go_enter Tryz.func43,Tryz.ntmps43
    go_wp2_with (first|(go_at_call 84;refine(d1 _).mono ?_;rintro e D ⟨rfl,E⟩;simp only[yr] at E;obtain⟨T,U,l2,F⟩:=zfo E;obtain⟨c0,c1,c2,c3,c4,⟨ka,kc,c5,_⟩,c6,c7⟩:=Z.out _ F;have O:=yd D _ c0;have J:=yd D _ U;have M:=yd D _ T;have I:Hid _:=F;clear E F)|(go_at_call 66;refine(d2 _).mono ?_;rintro e w' ⟨rfl,rfl⟩))
    go_ret;exact⟨rfl,I.out.alloc I.out.size _⟩
   | true =>
    simp only[if_true];by_cases he:xn=u
    ·subst he;simp only[if_true]
     go_enter Tryz.func43,Tryz.ntmps43
     go_wp2_with (first|(go_at_call 84;refine(d1 _).mono ?_;rintro e D ⟨rfl,E⟩;simp only[yr] at E;obtain⟨T,U,l2,F⟩:=zfo E;obtain⟨c0,c1,c2,c3,c4,⟨ka,kc,c5,_⟩,c6,c7⟩:=Z.out _ F;have O:=yd D _ c0;have J:=yd D _ U;have M:=yd D _ T;have I:Hid _:=F;clear E F)|(go_at_call 66;refine(d2 _).mono ?_;rintro e w' ⟨rfl,rfl⟩))
     go_ret;exact⟨rfl,I.out.alloc I.out.size _⟩
    ·simp only[ya he];have a9:(xn == u)=false:=by simp[he]
     go_enter Tryz.func43,Tryz.ntmps43
     go_wp2_with (first|(go_at_call 84;refine(d1 _).mono ?_;rintro e D ⟨rfl,E⟩;simp only[yr] at E;obtain⟨T,U,l2,F⟩:=zfo E;obtain⟨c0,c1,c2,c3,c4,⟨ka,kc,c5,_⟩,c6,c7⟩:=Z.out _ F;have O:=yd D _ c0;have J:=yd D _ U;have M:=yd D _ T;have I:Hid _:=F;clear E F)|(go_at_call 66;refine(d2 _).mono ?_;rintro e w' ⟨rfl,rfl⟩))
     go_ret;exact⟨rfl,I.out.alloc I.out.size _⟩
def zas(w:World)(a:Option Addr)(hs:List (Int × Int)):Prop :=
 ∀ i,i<hs.length->∃ b o,a=some ⟨b,o,none⟩/\w.cell? ⟨b,o+i*2,none⟩=some (.int .i64 (hs.getD i (0,0)).1)/\w.cell? ⟨b,o+i*2+1,none⟩=some (.int .i64 (hs.getD i (0,0)).2)
theorem zas.below{w w' : World}{a:Option Addr}{hs:List (Int × Int)}(h:zas w a hs)(E:Below w.heap.size w w'):zas w' a hs:=fun i hi=>by
 obtain⟨b,o,e,h1,D⟩:=h i hi;exact⟨b,o,e,(E.cell (yd w ⟨b,o+i*2,none⟩ h1)).trans h1,(E.cell (yd w ⟨b,o+i*2+1,none⟩ D)).trans D⟩
def zfj(S:List Nd):List (Int × Int)->Int
 | []=>0
 | h :: r=>if zda S h.1 h.2=0 then zfj S r else zda S h.1 h.2
def zaY(S:List Nd)(hs:List (Int × Int)):Int:=if zbo S=0 then zfj S hs else zbo S
theorem zmB{α:Type}{l:List α}{d:α}{k:Nat}(h:k<l.length):l.drop k=l.getD k d :: l.drop (k+1):=by
 rw[zae l d h];exact List.drop_eq_getElem_cons h
theorem zdo(a:Option Addr)(c:Nat)(S:List Nd)(ha:Option Addr)(hc:Nat)(hs:List (Int × Int))(w:World)(hN:S.length<=9223372036854775807)(hB:Big S)(hS:zai w a S)(hL:hs.length<=9223372036854775807)(hH:zas w ha hs) :
  yM 185 #[.agg #[.slice a S.length c],.slice ha hs.length hc] w fun e w' => e=.returned (.int .i64 (zaY S hs))/\Below w.heap.size w w' := by
 have R0:Hid (zbo S=0->zaY S hs=zfj S (hs.drop 0)):=fun h=>by unfold zaY;rw[yb h];rfl
 have R1:Hid (zbo S≠0->zaY S hs=zbo S):=fun h=>by unfold zaY;rw[ya h]
 have dc:=fun(W:World) (U:zai W a S)=>zdW a c S W hN hB U;have dh:=fun(p u:Int) (W:World) (U:zai W a S)=>zjd a c S p u W hN U;have DH:Hid _:=dh;have HS:Hid (zai w a S):=hS;have HH:Hid (zas w ha hs):=hH;clear hS hH dh hB;generalize zaY S hs=a6 at *;generalize hn:S.length=n at *;generalize hm:hs.length=m at *;have HM:Hid (hs.length=m):=hm;clear hm hn;by_cases I:zbo S=0
 ·rw[I] at dc;have R2:Hid _:=R0.out I;clear R0 R1 I
  go_enter Tryz.func185,Tryz.ntmps185
  go_wp2_with (go_at_call 42;refine(dc _ (HS.out.below ((yk _ _).alloc (yj _) _))).mono ?_;rintro e w1 ⟨rfl,E⟩)
  have lb:w1.cell? ⟨w.heap.size,0,none⟩=some (.slice a n c):=znu (by simpa using E);have T:Below w.heap.size w w1:=((yk _ _).alloc (yj _) _).trans (E.mono (by simp));clear E dc
  go_loopg [16] m (fun g s16 wr=>∃ k:Nat,k<=m/\m-k<=g/\s16=.int .i64 k/\Below w.heap.size w wr/\wr.cell? ⟨w.heap.size,0,none⟩=some (.slice a n c)/\Hid (a6=zfj S (hs.drop k)))
  case atStart=>exact⟨0,by omega,by omega,rfl,T,lb,R2⟩
  case round =>
   obtain⟨k,hk,hg,rfl,J,a5,A⟩:=hrel;have a7:=yd _ _ a5;clear lb T R2;by_cases Z:k<m
   ·obtain⟨b,o,rfl,c0,c1⟩:=(HH.out.below J) k (by rw[HM.out];exact Z);have a9:=yd _ _ c0;have D:=A.out;rw[zmB (d:=(0,0)) (by rw[HM.out];exact Z)] at D;simp only[zfj] at D;generalize (hs.getD k (0,0)).1=p at *;generalize (hs.getD k (0,0)).2=u at *;have d1:=fun W U=>DH.out p u W U;have HB:Hid (∀ o1,zai (wr.alloc o1) a S):=fun o1=>(HS.out.below J).below ((yk _ _).alloc (yj _) _);generalize zda S p u=ev at *;by_cases I:ev=0
    ·subst I;rw[yb rfl] at D;have O:Hid _:=D;clear D
     go_wp2_with (go_at_call 43;refine(d1 _ (HB.out _)).mono ?_;rintro e w2 ⟨rfl,M⟩)
     go_roundg (m-(k+1))
     case measure=>omega
     case rel =>
      have F:Below wr.heap.size wr w2:=((yk _ _).alloc (yj _) _).trans (M.mono (by simp));exact⟨k+1,by omega,by omega,by go_num,J.trans (F.mono J.size),(F.cell a7).trans a5,O⟩
    ·rw[ya I] at D;have a8:(ev == 0)=false:=(by simp[I]);have O:Hid _:=D;clear D
     go_wp2_with (go_at_call 43;refine(d1 _ (HB.out _)).mono ?_;rintro e w2 ⟨rfl,M⟩)
     go_ret;have F:Below wr.heap.size wr w2:=((yk _ _).alloc (yj _) _).trans (M.mono (by simp));exact⟨by rw[O.out];rfl,J.trans (F.mono J.size)⟩
   ·have:k=m:=(by omega);subst this;have D:=A.out;rw[<- HM.out,List.drop_length] at D;have O:Hid _:=D;clear D
    go_wp2
    go_ret;exact⟨by rw[O.out];rfl,J⟩
 ·have R2:Hid _:=R1.out I;clear R0 R1;generalize zbo S=ev at *;have a8:(ev == 0)=false:=by simp[I]
  go_enter Tryz.func185,Tryz.ntmps185
  go_wp2_with (go_at_call 42;refine(dc _ (HS.out.below ((yk _ _).alloc (yj _) _))).mono ?_;rintro e w1 ⟨rfl,E⟩)
  go_ret;exact⟨by rw[R2.out];rfl,((yk _ _).alloc (yj _) _).trans (E.mono (by simp))⟩
def zbc(S:List Nd):Nat->Nat->List Int
 | 0,p=>[(p:Int)]
 | f+1,p=>(p:Int) ::(nd S p).ks.flatMap fun k=>zbc S f k.toNat
def Deep(S:List Nd):Nat->Nat->Prop
 | 0,p=>(nd S p).ks=[]
 | f+1,p=>∀ k ∈ (nd S p).ks,(0<=k/\k<S.length)/\Deep S f k.toNat
def zbS(ks:Nat->List Int):Nat->Nat->List Int
 | 0,p=>[(p:Int)]
 | f+1,p=>(p:Int) ::(ks p).flatMap fun k=>zbS ks f k.toNat
def zqn(ks:Nat->List Int)(n:Nat):Nat->Nat->Prop
 | 0,p=>ks p=[]
 | f+1,p=>∀ k ∈ ks p,(0<=k/\k<n)/\zqn ks n f k.toNat
theorem zjw(S:List Nd):∀ f p,zbS (fun p=>(nd S p).ks) f p=zbc S f p
 | 0,_=>rfl
 | f+1,p=>by
  simp only[zbS,zbc]
  congr 1
  congr 1
  funext k
  exact zjw S f k.toNat
theorem zpu{S:List Nd}:∀ {f p:Nat},Deep S f p->zqn (fun p=>(nd S p).ks) S.length f p
 | 0,_,h=>h
 | _+1,_,h=>fun k D=>⟨(h k D).1,zpu (h k D).2⟩
def zmi(W:World)(E:Nat)(l:List Int)(D:World):Prop :=
 Off (fun k=>k=E) W D/\∃ v,D.cell? ⟨E,0,none⟩=some v/\D.frozen? ⟨E,0,none⟩=false/\D.ownsRow W.heap.size 3 1 v l.length (l.map (Value.int .i64))
theorem grownBy_setCell(w:World)(a:Addr)(v:Value):w.grownBy (w.setCell a v) (some a.block) :=
 ⟨rfl,rfl,rfl,by simp[World.setCell],fun k _ D=>yv _ _ _ _ (fun e=>D (by rw[e]))⟩
theorem zmi.step{W O M:World}{D:Nat}{l:List Int}{p:Int}{v v' : Value}(I:D<W.heap.size)(J:Off (fun k=>k=D) W O)(hc:O.cell? ⟨D,0,none⟩=some v)(hf:O.frozen? ⟨D,0,none⟩=false)
  (Z:O.ownsRow W.heap.size 3 1 v l.length (l.map (Value.int .i64))) (o1:Obj)
  (F:M.ownsRow W.heap.size 3 1 v' (l.length+1) (l.map (Value.int .i64)++[.int .i64 p])) (hg:(O.alloc o1).grownBy M v.ownBlock) :
  M.cell? ⟨D,0,none⟩=some v/\M.frozen? ⟨D,0,none⟩=false/\zmi W D (l++[p]) (M.setCell ⟨D,0,none⟩ v'):=by
 have a5:∀ k,v.ownBlock=some k->W.heap.size<=k:=fun k U=>(Z.lt k U).1;have a6:D<O.heap.size:=yz I J.size
 have E:∀ k,k<W.heap.size->M.heap[k]?=O.heap[k]?:=fun k U =>
  (hg.block k (by have:=J.size;simp;omega) (fun e=>by have:=a5 k e.symm;omega)).trans (Below.heap_alloc _ _ _ (by have:=J.size;omega))
 have T:M.cell? ⟨D,0,none⟩=some v:=(yC (E D I)).trans hc;refine⟨T,(yD (E D I)).trans hf,?_,v', World.cell?_setCell_same _ _ _ T,?_,?_⟩
 ·refine⟨?_,?_,?_,?_,fun k U hx=>?_⟩
  ·exact hg.os.trans J.os
  ·exact hg.tape.trans J.tape
  ·exact hg.output.trans J.output
  ·have:=hg.size;have h2:=J.size;simp[World.setCell] at *;omega
  ·rw[yv _ _ _ _ (by exact hx),E k U];exact J.block k U hx
 ·rw[World.frozen?_setCell];exact(yD (E D I)).trans hf
 ·have h3:=F.kept (grownBy_setCell M ⟨D,0,none⟩ v') (by
   cases hb:v'.ownBlock with
   | none=>exact Or.inl rfl
   | some k=>right;intro e;have:=(F.lt k hb).1;simp at e;omega)
  simpa using h3
theorem zmi.below{W J T:World}{I:Nat}{l:List Int}(h:zmi W I l J)(M:I<W.heap.size)(D:Below J.heap.size J T):zmi W I l T:=by
 obtain⟨O,v,hc,U,F⟩:=h;have E:I<J.heap.size:=yz M O.size
 exact⟨O.trans (Off.of_below D),v,(D.cell (by exact E)).trans hc,(D.frozen (by exact E)).trans U,F.kept (row:=none) ⟨D.os,D.tape,D.output,D.size,fun k Z _=>D.block k Z⟩ (by
  cases hv:v.ownBlock with
  | none=>exact Or.inl rfl
  | some k=>exact Or.inr (fun e=>by cases e))⟩
theorem zsY(ks:List Int)(sub:Int->List Int)(q:Nat)(D:q<ks.length):(ks.take (q+1)).flatMap sub=(ks.take q).flatMap sub++sub (ks.getD q 0):=by
 rw[List.take_succ_eq_append_getElem D,List.flatMap_append,zae ks 0 D];simp
theorem zmL(ks:List Int)(sub:Int->List Int)(q:Nat):((ks.take q).flatMap sub).length<=(ks.flatMap sub).length:=by
 have h:=List.take_append_drop q ks
 have:(ks.flatMap sub).length=((ks.take q).flatMap sub).length+((ks.drop q).flatMap sub).length:=by
  rw[<- List.length_append,<- List.flatMap_append,h]
 omega
theorem znA(ks:Nat->List Int)(n:Nat)(K:Nat)(U:Array Value)(W:World)(D bb bw:Nat)(c8:D<W.heap.size)(d6:bb<W.heap.size)(d7:bw<W.heap.size)(e2:bb≠D)(how:bw≠D)
  (eg:∀ args w,(callFunc K args).run Tryz.prog w=.ok (.enter K args) w)
  (O:W.cell? ⟨bb,0,none⟩=some (.func (.func K) #[] U)) (a5:W.cell? ⟨bw,0,none⟩=some (.func (.func 215) #[] #[.pointer (some ⟨D,0,none⟩),.pointer (some ⟨bb,0,none⟩),.pointer (some ⟨bw,0,none⟩)]))
  (b2:∀ p,p<n->∃ ka kc,(ks p).length<=9223372036854775807/\(∀ F,Off (fun k=>k=D) W F->zaj F ka (ks p))/\∀ F,Off (fun k=>k=D) W F->yM K (#[.int .i64 p] ++ U) F fun e w2=>e=.returned (.slice ka (ks p).length kc)/\Below F.heap.size F w2) (p:Nat) (hp:p<n) (sub:Int->List Int)
  (b3:∀ k ∈ ks p,∀ l F,l.length+(sub k).length<=1000000->zmi W D l F ->
   yM 215 #[.int .i64 k,.pointer (some ⟨D,0,none⟩),.pointer (some ⟨bb,0,none⟩),.pointer (some ⟨bw,0,none⟩)] F fun e w2=>e=.returned (.tuple #[])/\zmi W D (l++sub k) w2)
  (l:List Int) (F:World) (hlen:l.length+1+((ks p).flatMap sub).length<=1000000) (hI:zmi W D l F) :
  yM 215 #[.int .i64 p,.pointer (some ⟨D,0,none⟩),.pointer (some ⟨bb,0,none⟩),.pointer (some ⟨bw,0,none⟩)] F fun e w2=>e=.returned (.tuple #[])/\zmi W D (l++(p:Int) ::(ks p).flatMap sub) w2:=by
 obtain⟨i0,e0,e3,e4,e5⟩:=info_parts info3;obtain⟨hO,v,hc,hf,b1⟩:=hI;obtain⟨ka,kc,e6,a7,M⟩:=b2 p hp;have e1:l.length+1<=1000000:=by omega
 have e9:=hO.size
 have Z:∀ w2,Off (fun k=>k=D) W w2->w2.cell? ⟨bb,0,none⟩=some (.func (.func K) #[] U)/\w2.cell? ⟨bw,0,none⟩=some (.func (.func 215) #[] #[.pointer (some ⟨D,0,none⟩),.pointer (some ⟨bb,0,none⟩),.pointer (some ⟨bw,0,none⟩)]):=fun w2 h2 =>
  ⟨(h2.cell (by exact d6) (by exact e2)).trans O,(h2.cell (by exact d7) (by exact how)).trans a5⟩
 have a8:Hid _:=Z;have d5:Hid _:=b3;have HL:Hid _:=hlen;have HO:Hid (Off (fun k=>k=D) W F):=hO;have a9:Hid (F.ownsRow W.heap.size 3 1 v l.length (l.map (Value.int .i64))):=b1;have HC:Hid _:=hc;have HF:Hid _:=hf;have b5:Hid _:=a7;have T:Hid _:=M;clear Z b3 hlen hO b1 O a5 b2 a7 M hp;generalize ks p=ks at *
 go_enter Tryz.func215,Tryz.ntmps215
 go_wp2_with (at_builtin;refine wpList_append_own _ rfl _ _ 48 rfl W.heap.size 3 i0 (.int .i64 0) 1 8 Tryz.underlying48 e0 e3 e4 e5 rfl (by decide) _ _ _ rfl (a9.out.alloc _) ⟨F.heap.size,0,none⟩ 1 1 [.int .i64 (p:Int)] rfl rfl ?c1 ?c2 ?c3 ?c4 ?c5 ?_)
 case c1 =>
  intro j u hj
  match j,hj with
  | 0,hj=>simp at hj;subst hj;simp[Addr.add]
 case c2=>intro u hu;simp at hu;subst hu;rfl
 case c3=>unfold maxLen;omega
 case c4=>omega
 case c5=>simp;omega
 intro v' w2 I a6 _
 obtain⟨g', J,rfl⟩:∃ g' J,v' = .slice (some ⟨g', 0,none⟩) (l.length+1) J:=by
  rcases I.2 with ⟨_,h⟩ |⟨g', J,e7,h,_⟩
  ·omega
  ·exact⟨g', J,h⟩
 obtain⟨d8,d9,b6⟩:=zmi.step c8 HO.out HC.out HF.out a9.out _ I a6;obtain⟨O,a5⟩:=a8.out _ b6.1;have b4:Hid (zmi W D (l++(p:Int) ::(ks.take 0).flatMap sub) _):=(show zmi W D (l++(p:Int) :: []) _ from b6);clear I a6 b6 hc hf a5;generalize c9:ks.length=L at *;have KL:Hid (ks.length=L):=c9;clear c9
 go_wp2_with (go_at_fn K;refine(T.out _ b4.out.1).mono ?_;rintro e w4 ⟨rfl,c7⟩)
 have d4:Hid (zmi W D (l++(p:Int) ::(ks.take 0).flatMap sub) w4):=b4.out.below c8 c7;clear b4 c7 d8 d9 O T
 go_wp2
 go_loopg [15] L (fun g s18 wr=>∃ q:Nat,q<=L/\L-q<=g/\s18=.int .i64 q/\Hid (zmi W D (l++(p:Int) ::(ks.take q).flatMap sub) wr))
 case atStart=>exact⟨0,by omega,by omega,rfl,d4⟩
 case round =>
  obtain⟨q,hq,hg,rfl,I3⟩:=hrel;by_cases c6:q<L
  ·obtain⟨O,a5⟩:=a8.out _ I3.out.1;obtain⟨kb,ko,rfl,e8⟩:=(b5.out _ I3.out.1) q (by rw[KL.out];exact c6);have b0:ks.getD q 0 ∈ ks:=(by rw[zae ks 0 (by rw[KL.out];exact c6)];exact List.getElem_mem _);have b9:=zsY ks sub q (by rw[KL.out];exact c6);have b8:=zmL ks sub (q+1);rw[b9] at b8;have b7:=d5.out (ks.getD q 0) b0 _ wr (by have:=HL.out;simp only[List.length_append,List.length_cons] at b8 this |-;omega) I3.out;have FT:Hid _:=b9;clear b0 b9 b8 I3 O;generalize ks.getD q 0=y at *
   go_wp2_with (go_at_call 215;refine b7.mono ?_;rintro e w3 ⟨rfl,I4⟩)
   go_roundg (L-(q+1))
   case measure=>omega
   case rel =>
    refine⟨q+1,by omega,by omega,by go_num,?_⟩
    have I5:zmi W D (l++(p:Int) ::(ks.take (q+1)).flatMap sub) w3:=by
     rw[FT.out];simpa using I4
    exact I5
  ·have:q=L:=(by omega);subst this;have E:(ks.take q)=ks:=(by rw[<- KL.out];exact List.take_length);have I4:=I3.out;rw[E] at I4;have I5:Hid _:=I4;clear I4 E
   go_wp2
   exact bodyPost_end (v:=.tuple #[]) (by simp[results,Tryz.results215,go_sem]) rfl ⟨rfl,I5.out⟩
theorem zvb(ks:Nat->List Int)(n:Nat)(K:Nat)(E:Array Value)(W:World)(F J M:Nat)(T:F<W.heap.size)(O:J<W.heap.size)(U:M<W.heap.size)(a7:J≠F)(how:M≠F)
  (eg:∀ args w,(callFunc K args).run Tryz.prog w=.ok (.enter K args) w)
  (Z:W.cell? ⟨J,0,none⟩=some (.func (.func K) #[] E)) (a5:W.cell? ⟨M,0,none⟩=some (.func (.func 215) #[] #[.pointer (some ⟨F,0,none⟩),.pointer (some ⟨J,0,none⟩),.pointer (some ⟨M,0,none⟩)]))
  (I:∀ p,p<n->∃ ka kc,(ks p).length<=9223372036854775807/\(∀ D,Off (fun k=>k=F) W D->zaj D ka (ks p))/\∀ D,Off (fun k=>k=F) W D->yM K (#[.int .i64 p] ++ E) D fun e w2=>e=.returned (.slice ka (ks p).length kc)/\Below D.heap.size D w2) :
  ∀ (f p:Nat) (l:List Int) (D:World),p<n->zqn ks n f p->l.length+(zbS ks f p).length<=1000000->zmi W F l D ->
  yM 215 #[.int .i64 p,.pointer (some ⟨F,0,none⟩),.pointer (some ⟨J,0,none⟩),.pointer (some ⟨M,0,none⟩)] D fun e w2=>e=.returned (.tuple #[])/\zmi W F (l++zbS ks f p) w2:=by
 intro f
 induction f with
 | zero =>
  intro p l D hp hD hlen hI;have hk:ks p=[]:=hD;have h:=znA ks n K E W F J M T O U a7 how eg Z a5 I p hp (fun _=>[]) (fun k a6=>by rw[hk] at a6;cases a6) l D (by simp only[zbS] at hlen;rw[hk];simpa using hlen) hI;rw[hk] at h;exact h
 | succ f ih =>
  intro p l D hp hD hlen hI
  exact znA ks n K E W F J M T O U a7 how eg Z a5 I p hp (fun k=>zbS ks f k.toNat) (fun k hk l D hl a8=>by
   obtain⟨⟨h1,h2⟩,h3⟩:=hD k hk;have:=ih k.toNat l D (by omega) h3 hl a8
   rwa [Int.toNat_of_nonneg h1] at this) l D (by simp only[zbS,List.length_cons] at hlen;omega) hI
end Go.Proofs.YtcbcpomacdngmaaGreat
