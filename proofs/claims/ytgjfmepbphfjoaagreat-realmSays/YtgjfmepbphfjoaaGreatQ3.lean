/-
  x
-/
import Derived.Test.YtgjfmepbphfjoaaGreatQ2
namespace Go.Proofs.YtgjfmepbphfjoaaGreat
set_option maxRecDepth 100000
set_option maxHeartbeats 4000000
set_option linter.unusedVariables false
open Go.RowKit
structure Off (X:Nat->Prop) (w w' : World):Prop where
 os:w'.os=w.os
 tape:w'.tape=w.tape
 output:w'.output=w.output
 size:w.heap.size<=w'.heap.size
 block:∀ k,k<w.heap.size->¬ X k->w'.heap[k]?=w.heap[k]?
theorem Off.refl(X:Nat->Prop)(w:World):Off X w w:=⟨rfl,rfl,rfl,yi _,fun _ _ _=>rfl⟩
theorem Off.trans{X:Nat->Prop}{a b c:World}(h:Off X a b)(k:Off X b c):Off X a c :=
 ⟨k.os.trans h.os,k.tape.trans h.tape,k.output.trans h.output,yx h.size k.size,fun i w hx=>(k.block i (ys w h.size) hx).trans (h.block i w hx)⟩
theorem Off.of_below{X:Nat->Prop}{w w' : World}(h:Below w.heap.size w w'):Off X w w' :=⟨h.os,h.tape,h.output,h.size,fun k A _=>h.block k A⟩
theorem Off.below{X:Nat->Prop}{w w' : World}(h:Off X w w'){B:Nat}(D:B<=w.heap.size)(A:∀ k,X k->B<=k):Below B w w' :=
 ⟨h.os,h.tape,h.output,h.size,fun k F=>h.block k (by omega) (fun hx=>by have:=A k hx;omega)⟩
theorem Off.cell{X:Nat->Prop}{w w' : World}(h:Off X w w'){p:Addr}(A:p.block<w.heap.size)(hx:¬ X p.block):w'.cell? p=w.cell? p:=by
 unfold World.cell?;rw[h.block _ A hx]
theorem zdj(x:Nd)(k:Value)(w:World) :
  Calls Tryz.prog 103 #[.agg #[.bool x.u,.int .i64 x.n,.int .i64 x.t,.int .i64 x.m,.int .i64 x.p,k,.int .i64 x.h,.bool x.c]] w fun e w' => e=.returned (.int .i64 (if x.h = -1 then x.p else x.h))/\Below w.heap.size w w' := by
 by_cases h:x.h = -1
 ·rw[yd h,h]
  go_enter Tryz.func103,Tryz.ntmps103
  go_wp2
  go_ret;exact⟨rfl,(yj _ _).alloc (yi _) _⟩
 ·rw[ya h];have h1:(x.h == -1)=false:=by simp[h]
  go_enter Tryz.func103,Tryz.ntmps103
  go_wp2
  go_ret;exact⟨rfl,(yj _ _).alloc (yi _) _⟩
def zeY(N:Nat)(x:Int):Bool:=decide (0<=x/\x<=(N:Int)-1)
theorem zeV(a:Option Addr)(c N:Nat)(x:Int)(w:World)(D:N<=9223372036854775807) :
  Calls Tryz.prog 74 #[.agg #[.slice a N c],.int .i64 x] w fun e w' => e=.returned (.bool (zeY N x))/\Below w.heap.size w w' := by
 have A:=zbf x 0 ((N:Int)-1);rw[show decide (0<=x/\x<=(N:Int)-1)=zeY N x from rfl] at A;generalize zeY N x=r at A
 go_enter Tryz.func74,Tryz.ntmps74
 go_wp2_with (go_at_call 54;refine(A _).mono ?_;rintro e w' ⟨rfl,rfl⟩)
 go_ret;exact⟨rfl,(yj _ _).alloc (yi _) _⟩
def zbs{σ:Type}(S:List Nd)(up:Nd->Int)(step:σ->Int->σ × Bool):Nat->Int->σ->σ
 | 0,_,st=>st
 | f+1,x,st=>if zeY S.length x then (if (step st x).2 then zbs S up step f (up (nd S x.toNat)) (step st x).1 else (step st x).1) else st
theorem ziA{σ:Type}(a:Option Addr)(c:Nat)(S:List Nd)(w:World)(place:Int)(KU KV:Nat)(M:Array Value)(up:Nd->Int)(step:σ->Int->σ × Bool)(I:σ->World->Prop)(X:Nat->Prop)(st:σ)
  (hN:S.length<=9223372036854775807)
  (b9:∀ st A,I st A->zae A a S)
  (hI:∀ st A w2,I st A->Below A.heap.size A w2->I st w2)
  (eU:∀ args w,(callFunc KU args).run Tryz.prog w=.ok (.enter KU args) w) (eV:∀ args w,(callFunc KV args).run Tryz.prog w=.ok (.enter KV args) w)
  (hU:∀ (x:Nd) (k:Value) (A:World),Calls Tryz.prog KU #[.agg #[.bool x.u,.int .i64 x.n,.int .i64 x.t,.int .i64 x.m,.int .i64 x.p,k,.int .i64 x.h,.bool x.c]] A fun e w2=>e=.returned (.int .i64 (up x))/\Below A.heap.size A w2)
  (hV:∀ st x A,I st A->w.heap.size<A.heap.size->zeY S.length x=true->Calls Tryz.prog KV (#[.int .i64 x] ++ M) A fun e w2=>e=.returned (.bool (step st x).2)/\I (step st x).1 w2/\Off X A w2/\∀ k:Nat,A.heap[k]?=some (.cells #[.slice a S.length c] 24 (0,0))->w2.heap[k]?=A.heap[k]?)
  (h0:I st w) :
  Calls Tryz.prog 119 #[.agg #[.slice a S.length c],.int .i64 place,.func (.func KU) #[] #[],.func (.func KV) #[] M] w fun e w' => e=.returned (.tuple #[])/\I (if zeY S.length place then zbs S up step S.length (up (nd S place.toNat)) st else st) w' /\ Off X w w' := by
 have d6:Hid (S.length=S.length):=rfl;have IS:Hid (∀ st A,I st A->zae A a S):=b9;have HI:Hid (∀ st A w2,I st A->Below A.heap.size A w2->I st w2):=hI;have HV:Hid (∀ st x A,I st A->w.heap.size<A.heap.size->zeY S.length x=true->Calls Tryz.prog KV (#[.int .i64 x] ++ M) A fun e w2=>e=.returned (.bool (step st x).2)/\I (step st x).1 w2/\Off X A w2/\∀ k:Nat,A.heap[k]?=some (.cells #[.slice a S.length c] 24 (0,0))->w2.heap[k]?=A.heap[k]?):=hV;have H0:Hid (I st w):=h0;clear b9 hI hV h0;have U:=fun W=>zeV a c S.length place W hN;generalize hn:S.length=n at *;have HN:Hid (S.length=n):=hn;clear hn d6
 cases hq:zeY n place with
 | false =>
  rw[hq] at U;simp only[Bool.false_eq_true,if_false]
  go_enter Tryz.func119,Tryz.ntmps119
  go_wp2_with (go_at_call 74;refine(U _).mono ?_;rintro e w' ⟨rfl,hb⟩)
  refine yq (v:=.tuple #[]) (by simp[results,Tryz.results119,go_sem]) rfl ⟨rfl,?_,?_⟩
  ·exact HI.out _ _ _ H0.out (((yj _ _).alloc (yi _) _).trans (hb.mono (by simp)))
  ·exact Off.of_below (((yj _ _).alloc (yi _) _).trans (hb.mono (by simp)))
 | true =>
  rw[hq] at U;simp only[if_true];have a8:0<=place/\place<=(n:Int)-1:=of_decide_eq_true hq;clear hq;obtain⟨p,rfl⟩:∃ p:Nat,place=(p:Int):=⟨place.toNat,by omega⟩;have d9:p<n:=by omega
  have e6:(p:Int)<(n:Int):=by omega
  clear a8;simp only[yg]
  go_enter Tryz.func119,Tryz.ntmps119
  go_wp2_with (first
   |(go_at_call 74;refine(U _).mono ?_;rintro e A ⟨rfl,O⟩;simp only[yk] at O;have Z:Below w.heap.size w A:=((yj _ _).alloc (yi _) _).trans (O.mono (by simp));have lb:A.cell? ⟨w.heap.size,0,none⟩=some (.slice a n c):=(O.cell (by simp)).trans (by go_simp);have c9:Hid (A.heap[w.heap.size]?=some (.cells #[.slice a n c] 24 (0,0))):=(O.block _ (by simp)).trans (heap_alloc_new _ _);obtain⟨b,o,rfl,c0,c1,c2,c3,c4,⟨ka,kc,c5,_⟩,c6,c7⟩:=IS.out _ _ (HI.out _ _ _ H0.out Z) p (by rw[HN.out];exact d9))
   |(go_at_fn KU;refine(hU (nd S p) _ _).mono ?_;rintro e w2 ⟨rfl,a4⟩;have a9:w2.cell? ⟨w.heap.size,0,none⟩=some (.slice (some ⟨b,o,none⟩) n c):=(a4.cell (ye _ _ lb)).trans lb))
  have b5:Hid (w2.heap[w.heap.size]?=some (.cells #[.slice (some ⟨b,o,none⟩) n c] 24 (0,0))):=(a4.block _ (ye _ _ lb)).trans c9.out;clear c9;have a7:Below w.heap.size w w2:=Z.trans (a4.mono Z.size);have c8:w.heap.size<A.heap.size:=ye _ _ lb;have a6:w.heap.size<w2.heap.size:=ye _ _ a9;have I2:Hid (I st w2):=HI.out _ _ _ H0.out a7;have O2:Hid (Off X w w2):=Off.of_below a7;clear c0 c1 c2 c3 c4 c5 c6 c7 O a4 lb Z c8 U
  go_loopg [8,23] n (fun g s8 s23 wr=>∃ (k:Nat) (x:Int) (s:σ),k<=n/\n-k<=g/\s23=.int .i64 k/\s8=.int .i64 x/\Hid (I s wr)/\Hid (Off X w wr)/\w.heap.size<wr.heap.size/\wr.cell? ⟨w.heap.size,0,none⟩=some (.slice (some ⟨b,o,none⟩) n c)/\Hid (wr.heap[w.heap.size]?=some (.cells #[.slice (some ⟨b,o,none⟩) n c] 24 (0,0)))/\Hid (zbs S up step n (up (nd S p)) st=zbs S up step (n-k) x s))
  case atStart=>exact⟨0,up (nd S p),st,by omega,by omega,rfl,rfl,I2,O2,a6,a9,b5,rfl⟩
  case round =>
   obtain⟨k,x,s,hk,hg,rfl,rfl,I3,O3,J,e8,b6,E3⟩:=hrel;clear I2 O2 a6 a9 a7 b5;by_cases e7:k<n
   ·obtain⟨f,hf⟩:∃ f,n-k=f+1:=⟨n-k-1,by omega⟩;have F:=E3.out;rw[hf] at F;simp only[zbs,HN.out] at F;have U:=fun W=>zeV (some ⟨b,o,none⟩) c n x W hN
    cases hq:zeY n x with
    | false =>
     rw[hq] at U F;simp only[Bool.false_eq_true,if_false] at F;have V:Hid (zbs S up step n (up (nd S p)) st=s):=F;clear F
     go_wp2_with (go_at_call 74;refine(U _).mono ?_;rintro e w3 ⟨rfl,D⟩)
     refine yq (v:=.tuple #[]) (by simp[results,Tryz.results119,go_sem]) rfl ⟨rfl,?_,?_⟩
     ·rw[V.out];exact HI.out _ _ _ I3.out D
     ·exact O3.out.trans (Off.of_below D)
    | true =>
     rw[hq] at U F;simp only[if_true] at F;have a8:0<=x/\x<=(n:Int)-1:=of_decide_eq_true hq;obtain⟨j,rfl⟩:∃ j:Nat,x=(j:Int):=⟨x.toNat,by omega⟩;have d7:j<n:=by omega
     have e0:(j:Int)<(n:Int):=by omega
     clear a8;simp only[yg] at F;have hv:=fun W (hW:I s W) (hz:w.heap.size<W.heap.size)=>HV.out s (j:Int) W hW hz hq;clear hq;generalize hst:step s (j:Int)=sr at *;obtain⟨s', r⟩:=sr;dsimp only at hv F;have b4:Hid _:=F;clear F hst
     cases r with
     | false =>
      have V:zbs S up step n (up (nd S p)) st=s' := by simpa using b4.out
      have E5:Hid _:=V;clear V
      go_wp2_with (first
       |(go_at_call 74;refine(U _).mono ?_;rintro e w3 ⟨rfl,D⟩)
       |(go_at_fn KV;refine(hv _ (HI.out _ _ _ I3.out D) (ys J D.size)).mono ?_;rintro e w4 ⟨rfl,I4,O4,_⟩))
      refine yq (v:=.tuple #[]) (by simp[results,Tryz.results119,go_sem]) rfl ⟨rfl,?_,?_⟩
      ·rw[E5.out];exact I4
      ·exact(O3.out.trans (Off.of_below D)).trans O4
     | true =>
      have V:zbs S up step n (up (nd S p)) st=zbs S up step f (up (nd S j)) s' := by simpa using b4.out
      have E5:Hid _:=V;clear V
      have fr:∀ w3 w4:World,Below wr.heap.size wr w3->(∀ k:Nat,w3.heap[k]?=some (.cells #[.slice (some ⟨b,o,none⟩) n c] 24 (0,0))->w4.heap[k]?=w3.heap[k]?)->w4.heap[w.heap.size]?=some (.cells #[.slice (some ⟨b,o,none⟩) n c] 24 (0,0)):=fun w3 w4 h3 h4 =>
       (h4 _ ((h3.block _ J).trans b6.out)).trans ((h3.block _ J).trans b6.out)
      have FR:Hid _:=fr;clear fr
      go_wp2_with (first
       |(go_at_call 74;refine(U _).mono ?_;rintro e w3 ⟨rfl,D⟩)
       |(go_at_fn KV;refine(hv _ (HI.out _ _ _ I3.out D) (ys J D.size)).mono ?_;rintro e w4 ⟨rfl,I4,O4,T4⟩;have b7:Hid (w4.heap[w.heap.size]?=some (.cells #[.slice (some ⟨b,o,none⟩) n c] 24 (0,0))):=FR.out w3 w4 D T4;have a5:=zbr b7.out;clear T4;have b8:Hid (I s' w4):=I4;clear I4;obtain⟨b', o', e', c0,c1,c2,c3,c4,⟨ka,kc,c5,_⟩,c6,c7⟩:=IS.out _ _ b8.out j (by rw[HN.out];exact d7);cases e')
       |(go_at_fn KU;refine(hU (nd S j) _ _).mono ?_;rintro e w5 ⟨rfl,T⟩))
      go_roundg (n-(k+1))
      case measure=>omega
      case rel =>
       refine⟨k+1,up (nd S j),s', by omega,by omega,by go_num,rfl,HI.out _ _ _ b8.out T,(O3.out.trans (Off.of_below D)).trans (O4.trans (Off.of_below T)),?_,(T.cell (ye _ _ a5)).trans a5,(T.block _ (ye _ _ a5)).trans b7.out,?_⟩
       ·have:=ye _ _ a5;have h5:=T.size;have:w.heap.size<w4.heap.size:=this;omega
       ·rw[show n-(k+1)=f by omega];exact E5
   ·have d8:k=n:=by omega
    subst d8;have F:=E3.out;rw[Nat.sub_self] at F;have V:Hid (zbs S up step k (up (nd S p)) st=s):=F;clear F E3
    go_wp2
    refine bodyPost_end (v:=.tuple #[]) (by simp[results,Tryz.results119,go_sem]) rfl ⟨rfl,?_,O3.out⟩;rw[V.out];exact I3.out
def zah(x:Nd):Int:=if x.h = -1 then x.p else x.h
def zcF(w:Int):Bool->Int->Bool × Bool:=fun _ x=>(decide (x=w),!decide (x=w))
def zbm(S:List Nd)(place w:Int):Bool:=if zeY S.length place then zbs S zah (zcF w) S.length (zah (nd S place.toNat)) false else false
theorem zhc(x A:Int)(b1 b2:Nat)(st:Value)(w:World)(h1:w.cell? ⟨b1,0,none⟩=some (.int .i64 A))(D:w.cell? ⟨b2,0,none⟩=some st)(I:w.frozen? ⟨b2,0,none⟩=false) :
  Calls Tryz.prog 120 #[.int .i64 x,.pointer (some ⟨b1,0,none⟩),.pointer (some ⟨b2,0,none⟩)] w fun e w' => e=.returned (.bool (!decide (x=A)))/\w' = w.setCell ⟨b2,0,none⟩ (.bool (decide (x=A))):=by
 have F:∀ v,(w.setCell ⟨b2,0,none⟩ v).cell? ⟨b2,0,none⟩=some v:=fun v=>World.cell?_setCell_same _ _ _ D;by_cases h:x=A
 ·subst h
  go_enter Tryz.func120,Tryz.ntmps120
  go_wp2
  go_ret;exact⟨rfl,rfl⟩
 ·have hd:decide (x=A)=false:=decide_eq_false h;rw[hd];have hq:(x == A)=false:=by simp[h]
  go_enter Tryz.func120,Tryz.ntmps120
  go_wp2
  go_ret;refine⟨?_,?_⟩
  ·first|rfl|(simp[hq])
  ·first|rfl|(rw[hq])
def zhe(w:World)(a:Option Addr)(S:List Nd)(A:Int)(st:Bool)(D:World):Prop :=
 Below w.heap.size w D/\zae w a S/\D.cell? ⟨w.heap.size+1,0,none⟩=some (.int .i64 A)/\D.cell? ⟨w.heap.size+1+1,0,none⟩=some (.bool st)/\D.frozen? ⟨w.heap.size+1+1,0,none⟩=false
theorem zhe.below{w F w2:World}{a:Option Addr}{S:List Nd}{A:Int}{st:Bool}(h:zhe w a S A st F)(D:Below F.heap.size F w2):zhe w a S A st w2:=by
 obtain⟨h1,O,I,J,T⟩:=h;have hs:=h1.size;have M:=ye _ _ J;exact⟨h1.trans (D.mono hs),O,(D.cell (ye _ _ I)).trans I,(D.cell M).trans J,(D.frozen M).trans T⟩
theorem zjC(a:Option Addr)(c:Nat)(S:List Nd)(place A:Int)(w:World)(hN:S.length<=9223372036854775807)(M:zae w a S) :
  Calls Tryz.prog 98 #[.agg #[.slice a S.length c],.int .i64 place,.int .i64 A] w fun e w' => e=.returned (.bool (zbm S place A))/\Below w.heap.size w w' := by
 have F:∀ W,zhe w a S A false W->W.heap.size=w.heap.size+1+1+1->Calls Tryz.prog 119 #[.agg #[.slice a S.length c],.int .i64 place,.func (.func 103) #[] #[],.func (.func 120) #[] #[.pointer (some ⟨w.heap.size+1,0,none⟩),.pointer (some ⟨w.heap.size+1+1,0,none⟩)]] W fun e w' => e=.returned (.tuple #[])/\zhe w a S A (zbm S place A) w' := fun W hW a4 =>
  (ziA a c S W place 103 120 #[.pointer (some ⟨w.heap.size+1,0,none⟩),.pointer (some ⟨w.heap.size+1+1,0,none⟩)] zah (zcF A) (zhe w a S A) (fun k=>k=w.heap.size+1+1) false hN
   (fun st D h=>h.2.1.below h.1)
   (fun st D w2 h I=>h.below I)
   (enters_of Tryz.func103 (by kernel_rfl) rfl) (enters_of Tryz.func120 (by kernel_rfl) rfl)
   (fun x k D=>zdj x k D)
   (fun st x D h _ _=>(zhc x A (w.heap.size+1) (w.heap.size+1+1) (.bool st) D h.2.2.1 h.2.2.2.1 h.2.2.2.2).mono (by
    rintro e w2 ⟨rfl,rfl⟩;obtain⟨h1,Z,h3,J,h5⟩:=h;have hs:=h1.size;refine⟨rfl,⟨h1.setCell (by show w.heap.size<=w.heap.size+1+1;omega) _,Z,?_,World.cell?_setCell_same _ _ _ J,?_⟩,?_,fun k O=>yo _ _ _ _ (fun e=>?_)⟩
    ·exact(((yj (w.heap.size+1+1) D).setCell (yi _) _).cell (by show w.heap.size+1 < _;omega)).trans h3
    ·rw[World.frozen?_setCell];exact h5
    ·exact⟨rfl,rfl,rfl,by simp[World.setCell],fun k _ hx=>yo _ _ _ _ (by exact hx)⟩
    ·have V:k=w.heap.size+1+1:=e;rw[V] at O;have:=zbr O;rw[J] at this
     cases this))
   hW).mono (fun e w' h=>⟨h.1,by have:=h.2.1;exact this⟩)
 have T:Hid _:=F;have U:Hid (zae w a S):=M;clear F M;generalize S.length=n at *;generalize zbm S place A=r at *
 go_enter Tryz.func98,Tryz.ntmps98
 go_wp2_with (go_at_call 119;refine(T.out _ ⟨(((yj _ _).alloc (yi _) _).alloc (by simp) _).alloc (by simp;omega) _,U.out,by go_simp,by go_simp,by go_simp⟩ (by simp)).mono ?_;rintro e D ⟨rfl,I,_,l1,l2,_⟩)
 go_ret;exact⟨rfl,I⟩
theorem zeX(a:Option Addr)(c:Nat)(S:List Nd)(w:World)(hN:S.length<=9223372036854775807)(U:zae w a S) :
  Calls Tryz.prog 52 #[.agg #[.slice a S.length c]] w fun e w' => e=.returned (.bool ((List.range S.length).any fun i=>zbm S i i))/\Below w.heap.size w w' := by
 have HT:Hid (∀ i,i<S.length->zbm S i i=true->((List.range S.length).any fun i=>zbm S i i)=true):=fun i J h=>List.any_eq_true.2 ⟨i,List.mem_range.2 J,h⟩;have HF:Hid ((∀ i,i<S.length->zbm S i i=false)->((List.range S.length).any fun i=>zbm S i i)=false):=fun h=>List.any_eq_false.2 fun i J=>by rw[h i (List.mem_range.1 J)];simp
 generalize ((List.range S.length).any fun i=>zbm S i i)=R at *;have T:=fun(i:Nat) (W:World) (hW:zae W a S)=>zjC a c S i i W hN hW;have HS:Hid (zae w a S):=U;clear U;generalize hn:S.length=n at *;have HN:Hid (S.length=n):=hn;clear hn
 go_enter Tryz.func52,Tryz.ntmps52
 go_wp2
 go_loopg [7] n (fun g s7 wr=>∃ k:Nat,k<=n/\n-k<=g/\s7=.int .i64 k/\Below w.heap.size w wr/\wr.cell? ⟨w.heap.size,0,none⟩=some (.slice a n c)/\Hid (∀ i,i<k->zbm S i i=false))
 case atStart=>exact⟨0,by omega,by omega,rfl,(yj _ _).alloc (yi _) _,by go_simp,(show Hid _ from fun i J=>absurd J (yr _))⟩
 case round =>
  obtain⟨k,hk,hg,rfl,I,V,A⟩:=hrel;have M:=ye _ _ V;by_cases O:k<n
  ·have F:=T k wr (HS.out.below I);clear T
   cases hr:zbm S k k with
   | true =>
    rw[hr] at F;have Z:Hid _:=HT.out k O hr;clear hr
    go_wp2_with (go_at_call 98;refine F.mono ?_;rintro e w1 ⟨rfl,D⟩)
    go_ret;exact⟨by rw[Z.out];rfl,I.trans (D.mono I.size)⟩
   | false =>
    rw[hr] at F;have Z:Hid _:=hr;clear hr
    go_wp2_with (go_at_call 98;refine F.mono ?_;rintro e w1 ⟨rfl,D⟩)
    go_roundg (n-(k+1))
    case measure=>omega
    case rel =>
     refine⟨k+1,by omega,by omega,by go_num,I.trans (D.mono I.size),(D.cell M).trans V,(show Hid _ from fun i J=>?_)⟩;by_cases e:i=k
     ·rw[e];exact Z.out
     ·exact A.out i (by omega)
  ·have:k=n:=by omega
   subst this;have Z:Hid _:=HF.out A.out;clear T
   go_wp2
   go_ret;exact⟨by rw[Z.out];rfl,I⟩
def zbT(N:Int):List Nd->Int
 | []=>0
 | x :: r=>if zba N x=0 then zbT N r else zba N x
def zkx(S:List Nd):Bool:=(List.range S.length).any fun i=>zbm S i i
def zeQ(S:List Nd):Int:=if decide (zdk S) then (if decide (zdY S S.length) then (if zkx S then 6 else 0) else 6) else 6
def zaD(S:List Nd):Int:=if 24<S.length then 1 else if zbT S.length S=0 then zeQ S else zbT S.length S
theorem zry{S:List Nd}{k:Nat}(h:k<S.length):S.drop k=nd S k :: S.drop (k+1):=by
 rw[zaJ h];exact List.drop_eq_getElem_cons h
theorem zeJ{N:Int}{x:Nd}(h:zba N x=0):zbv N x=true:=by
 unfold zba at h
 split at h
 ·split at h
  ·assumption
  ·omega
 ·omega
theorem zeI{N:Int}{x:Nd}(h:zbv N x=true):(∀ y ∈ x.ks,-1<=y/\y<N)/\(-1<=x.h/\x.h<N)/\(-1<=x.p/\x.p<N):=by
 unfold zbv zdT at h;simp only[Bool.and_eq_true,decide_eq_true_eq,List.any_eq_false,Bool.not_eq_eq_eq_not,Bool.not_true,decide_eq_false_iff_not,Decidable.not_not] at h;refine⟨fun y hy=>?_,⟨h.2.1.1,by omega⟩,⟨h.1.1,by omega⟩⟩;have:=h.2.2 y hy;omega
theorem zgJ{w A:World}{v:Value}(D:Below (w.heap.size+1) (w.alloc (.cells #[v] 24)) A):A.cell? ⟨w.heap.size,0,none⟩=some v :=
 (D.cell (by simp)).trans (by go_simp)
theorem zdn(a:Option Addr)(c:Nat)(S:List Nd)(w:World)(hN:S.length<=9223372036854775807)(hB:Big S)(hS:zae w a S) :
  Calls Tryz.prog 20 #[.agg #[.slice a S.length c]] w fun e w' => e=.returned (.int .i64 (zaD S))/\Below w.heap.size w w' := by
 unfold zaD;by_cases V:24<S.length
 ·rw[yd V];generalize S.length=n at *;clear hS hB;have a6:(24:Int)<(n:Int):=by omega
  go_enter Tryz.func20,Tryz.ntmps20
  go_wp2
  go_ret;exact⟨rfl,(yj _ _).alloc (yi _) _⟩
 ·rw[ya V];have HS:Hid (zae w a S):=hS;have HB:Hid (Big S):=hB;have a8:=fun(i:Nat) (Z:i<S.length) (ka:Option Addr) (kc:Nat) (W:World) (hW:zaj W ka (nd S i).ks)=>zhN (nd S i) ka kc S.length W ⟨by omega,by omega⟩ (hB i Z) hW;have b8:Hid _:=a8
  have M:(∀ i,i<S.length->zba S.length (nd S i)=0)->∀ W,zae W a S->Calls Tryz.prog 50 #[.slice a S.length c] W (fun e w' => e=.returned (.bool (decide (zdk S)))/\Below W.heap.size W w')/\Calls Tryz.prog 51 #[.slice a S.length c] W (fun e w' => e=.returned (.bool (decide (zdY S S.length)))/\Below W.heap.size W w')/\Calls Tryz.prog 52 #[.agg #[.slice a S.length c]] W (fun e w' => e=.returned (.bool (zkx S))/\Below W.heap.size W w'):=fun h W hW =>
   ⟨zom a c S W (by omega) hB (fun i Z x hx=>(zeI (zeJ (h i Z))).1 x hx) hW,ziN a c S W (by omega) (fun i Z=>(zeI (zeJ (h i Z))).2.1) hW,zeX a c S W hN hW⟩
  have a5:Hid _:=M;clear hS hB a8 M;have R0:Hid (zbT S.length S=0->(if zbT S.length S=0 then zeQ S else zbT S.length S)=if decide (zdk S) then (if decide (zdY S S.length) then (if zkx S then 6 else 0) else 6) else 6):=fun h=>by rw[yd h];rfl
  have R1:Hid (zbT S.length S≠0->(if zbT S.length S=0 then zeQ S else zbT S.length S)=zbT S.length S):=fun h=>ya h;generalize (if zbT S.length S=0 then zeQ S else zbT S.length S)=c8 at *;have E0:Hid (zbT S.length S=zbT S.length (S.drop 0)):=rfl;have DR:Hid (∀ k,k<S.length->S.drop k=nd S k :: S.drop (k+1)):=fun k hk=>zry hk;have DN:Hid (S.drop S.length=[]):=List.drop_length;generalize decide (zdk S)=b1 at *;generalize decide (zdY S S.length)=b2 at *;generalize zkx S=b3 at *;generalize hn:S.length=n at *;have HN:Hid (S.length=n):=hn;clear hn;have a6:¬ (24:Int)<(n:Int):=by omega
  go_enter Tryz.func20,Tryz.ntmps20
  go_wp2
  go_loopg [13] n (fun g s13 wr=>∃ k:Nat,k<=n/\n-k<=g/\s13=.int .i64 k/\Below w.heap.size w wr/\wr.cell? ⟨w.heap.size,0,none⟩=some (.slice a n c)/\Hid (zbT n S=zbT n (S.drop k))/\Hid (∀ i,i<k->zba n (nd S i)=0))
  case atStart=>exact⟨0,by omega,by omega,rfl,(yj _ _).alloc (yi _) _,by go_simp,E0,(show Hid _ from fun i Z=>absurd Z (yr _))⟩
  case round =>
   obtain⟨k,hk,hg,rfl,O,lb,A,U⟩:=hrel;have b5:=ye _ _ lb;by_cases a7:k<n
   ·obtain⟨b,o,rfl,c0,c1,c2,c3,c4,⟨ka,kc,c5,b4⟩,c6,c7⟩:=(HS.out.below O) k (by rw[HN.out];exact a7);have c9:b<wr.heap.size:=ye wr ⟨b,o+k*8,none⟩ c0;have b6:=fun W hW=>b8.out k a7 ka kc W hW;have a4:∀ o1,zaj (wr.alloc o1) ka (nd S k).ks:=fun o1=>b4.below ((yj _ _).alloc (yi _) _);have KS:Hid _:=a4;have F:=A.out;rw[DR.out k a7] at F;simp only[zbT] at F;clear b4 a4;generalize hE:zba n (nd S k)=ev at *;by_cases hz:ev=0
    ·subst hz;rw[yd rfl] at F;have I:Hid _:=F;have NE:Hid _:=hE;clear F hE;generalize hx:nd S k=x at *;have HX:Hid _:=hx;clear hx
     go_wp2_with (go_at_call 49;refine(b6 _ (KS.out _)).mono ?_;rintro e w1 ⟨rfl,J⟩)
     go_roundg (n-(k+1))
     case measure=>omega
     case rel =>
      have D:Below wr.heap.size wr w1:=((yj _ _).alloc (yi _) _).trans (J.mono (by simp));refine⟨k+1,by omega,by omega,by go_num,O.trans (D.mono O.size),(D.cell b5).trans lb,I,(show Hid _ from fun i Z=>?_)⟩;by_cases e:i=k
      ·rw[e,HX.out];exact NE.out
      ·exact U.out i (by omega)
    ·rw[ya hz] at F;have d6:(ev == 0)=false:=by simp[hz]
     have I:Hid _:=F;clear F hE;generalize hx:nd S k=x at *;have HX:Hid _:=hx;clear hx
     go_wp2_with (go_at_call 49;refine(b6 _ (KS.out _)).mono ?_;rintro e w1 ⟨rfl,J⟩)
     go_ret;have D:Below wr.heap.size wr w1:=((yj _ _).alloc (yi _) _).trans (J.mono (by simp));refine⟨?_,O.trans (D.mono O.size)⟩;rw[R1.out (by rw[I.out];exact hz),I.out];rfl
   ·have:k=n:=by omega
    subst this;have F:=A.out;have a9:S.drop k=[]:=by have:=DN.out;exact this
    rw[a9] at F;simp only[zbT] at F;have I:Hid _:=F;have T:Hid _:=a5.out U.out;clear F a9;have R2:=R0.out I.out;clear R0 R1;cases b1;rotate_left;cases b2;rotate_left;cases b3
    all_goals
     simp only[if_true,Bool.false_eq_true,if_false] at R2;subst R2
     go_wp2_with (first
      |(go_at_call 50;refine((T.out _ (HS.out.below O)).1).mono ?_;rintro e w1 ⟨rfl,J⟩;have B1:=O.trans (J.mono O.size);have b7:=(J.cell b5).trans lb)
      |(go_at_call 51;refine((T.out _ (HS.out.below B1)).2.1).mono ?_;rintro e w2 ⟨rfl,D⟩;have B2:=B1.trans (D.mono B1.size);have d7:=(D.cell (ye _ _ b7)).trans b7)
      |(go_at_call 52;refine((T.out _ (HS.out.below B2)).2.2).mono ?_;rintro e w3 ⟨rfl,b9⟩;have B3:=B2.trans (b9.mono B2.size)))
    all_goals go_ret
    all_goals first
     | exact⟨rfl,B3⟩
     | exact⟨rfl,B2⟩
     | exact⟨rfl,B1⟩
end Go.Proofs.YtgjfmepbphfjoaaGreat
