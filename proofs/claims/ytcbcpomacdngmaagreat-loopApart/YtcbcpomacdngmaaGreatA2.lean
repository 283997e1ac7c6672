/-
  x
-/
import Derived.Test.YtcbcpomacdngmaaGreatA1
namespace Go.Proofs.YtcbcpomacdngmaaGreat
set_option maxRecDepth 100000
set_option maxHeartbeats 4000000
set_option linter.unusedVariables false
open Go.RowKit Tryz
variable{w1 w2 W:Wd}{X:Nat->Prop}{w w':World}{v:Value}{a:OA}{S:List Nd}{k:Nat}{N p:Int}{x:Nd}{l:List Int}
structure Off (X:Nat->Prop) (w w' : World):Prop where
 os:w'.os=w.os
 tape:w'.tape=w.tape
 output:w'.output=w.output
 size:w.heap.size<=w'.heap.size
 block:∀ k,k<w.heap.size->¬ X k->w'.heap[k]?=w.heap[k]?
theorem Off.refl(X:Nat->Prop)(w:Wd):Off X w w:=⟨rfl,rfl,rfl,yr _,fun _ _ _=>rfl⟩
theorem Off.trans{a b c:Wd}(h:Off X a b)(k:Off X b c):Off X a c :=
 ⟨k.os.trans h.os,k.tape.trans h.tape,k.output.trans h.output,yJ h.size k.size,fun i hi D=>(k.block i (yC hi h.size) D).trans (h.block i hi D)⟩
theorem Off.of_below(h:Bl w w'):Off X w w' :=⟨h.os,h.tape,h.output,h.size,fun k D _=>h.block k D⟩
theorem Off.below(h:Off X w w'){B:Nat}(F:B<=w.heap.size)(D:∀ k,X k->B<=k):Below B w w' :=
 ⟨h.os,h.tape,h.output,h.size,fun k I=>h.block k oaa (fun E=>by have:=D k E;omega)⟩
theorem Off.cell(h:Off X w w'){p:Addr}(D:p.block<w.heap.size)(E:¬ X p.block):w'.cell? p=w.cell? p:=by
 unfold World.cell?;rw[h.block _ D E]
theorem IA(x:Nd)(k:Value)(w:Wd) :
  yO 151 #[.agg #[.bool x.u,.int .i64 x.n,.int .i64 x.t,.int .i64 x.m,.int .i64 x.p,k,.int .i64 x.h,.bool x.c]] w fun e w' => e=.returned (.int .i64 (if x.h = -1 then x.p else x.h))/\Below w.heap.size w w' := by
 by_cases h:x.h = -1
 ·rw[ye h,h]
  go_enter func151,ntmps151
  go_wp2
  go_ret;exact⟨rfl,(yv _ _).alloc (yr _) _⟩
 ·rw[yd h];have h1:(x.h == -1)=false:=by simp[h]
  go_enter func151,ntmps151
  go_wp2
  go_ret;exact⟨rfl,(yv _ _).alloc (yr _) _⟩
def dZ(N:Nat)(x:Int):Bool:=decide (0<=x/\x<=(N:Int)-1)
theorem IB(a:OA)(c N:Nat)(x:Int)(w:Wd)(D:N<=9223372036854775807) :
  yO 84 #[.agg #[.slice a N c],.int .i64 x] w fun e w' => e=.returned (.bool (dZ N x))/\Below w.heap.size w w' := by
 have hw:=gU x 0 ((N:Int)-1);rw[show decide (0<=x/\x<=(N:Int)-1)=dZ N x from rfl] at hw;generalize dZ N x=r at hw
 go_enter func84,ntmps84
 go_wp2_with (go_at_call 66;refine(hw _).mono ?_;rintro e w' ⟨rfl,rfl⟩)
 go_ret;exact⟨rfl,(yv _ _).alloc (yr _) _⟩
def eB{σ:Type}(S:List Nd)(up:Nd->Int)(step:σ->Int->σ × Bool):Nat->Int->σ->σ
 | 0,_,st=>st
 | f+1,x,st=>if dZ S.length x then (if (step st x).2 then eB S up step f (up (nd S x.toNat)) (step st x).1 else (step st x).1) else st
theorem PR{σ:Type}(a:OA)(c:Nat)(S:List Nd)(w:Wd)(place:Int)(KU KV:Nat)(J:Array Value)(up:Nd->Int)(step:σ->Int->σ × Bool)(I:σ->World->Prop)(X:Nat->Prop)(st:σ)
  (hN:S.length<=9223372036854775807)
  (b6:∀ st w1,I st w1->aD w1 a S)
  (hI:∀ st w1 w2,I st w1->Bl w1 w2->I st w2)
  (eU:∀ args w,(callFunc KU args).run prog w=.ok (.enter KU args) w) (eV:∀ args w,(callFunc KV args).run prog w=.ok (.enter KV args) w)
  (hU:∀ (x:Nd) (k:Value) (w1:Wd),yO KU #[.agg #[.bool x.u,.int .i64 x.n,.int .i64 x.t,.int .i64 x.m,.int .i64 x.p,k,.int .i64 x.h,.bool x.c]] w1 fun e w2=>e=.returned (.int .i64 (up x))/\Below w1.heap.size w1 w2)
  (hV:∀ st x w1,I st w1->w.heap.size<w1.heap.size->dZ S.length x=true->yO KV (#[.int .i64 x] ++ J) w1 fun e w2=>e=.returned (.bool (step st x).2)/\I (step st x).1 w2/\Off X w1 w2/\∀ k:Nat,w1.heap[k]?=some (.cells #[.slice a S.length c] 43 (0,0))->w2.heap[k]?=w1.heap[k]?)
  (h0:I st w) :
  yO 150 #[.agg #[.slice a S.length c],.int .i64 place,.func (.func KU) #[] #[],.func (.func KV) #[] J] w fun e w' => e=.returned (.tuple #[])/\I (if dZ S.length place then eB S up step S.length (up (nd S place.toNat)) st else st) w' /\ Off X w w' := by
 have b9:Hid (S.length=S.length):=rfl;have IS:Hid (∀ st w1,I st w1->aD w1 a S):=b6;have HI:Hid (∀ st w1 w2,I st w1->Bl w1 w2->I st w2):=hI;have HV:Hid (∀ st x w1,I st w1->w.heap.size<w1.heap.size->dZ S.length x=true->yO KV (#[.int .i64 x] ++ J) w1 fun e w2=>e=.returned (.bool (step st x).2)/\I (step st x).1 w2/\Off X w1 w2/\∀ k:Nat,w1.heap[k]?=some (.cells #[.slice a S.length c] 43 (0,0))->w2.heap[k]?=w1.heap[k]?):=hV;have H0:Hid (I st w):=h0;clear b6 hI hV h0;have T:=fun W=>IB a c S.length place W hN;generalize hn:S.length=n at *;have HN:Hid (S.length=n):=hn;clear hn b9
 cases hq:dZ n place with
 | false =>
  rw[hq] at T;simp only[Bool.false_eq_true,if_false]
  go_enter func150,ntmps150
  go_wp2_with (go_at_call 84;refine(T _).mono ?_;rintro e w' ⟨rfl,hb⟩)
  refine yz (v:=.tuple #[]) (by simp[results,results150,go_sem]) rfl ⟨rfl,?_,?_⟩
  ·exact HI.out _ _ _ H0.out (((yv _ _).alloc (yr _) _).trans (hb.mono oac))
  ·exact Off.of_below (((yv _ _).alloc (yr _) _).trans (hb.mono oac))
 | true =>
  rw[hq] at T;simp only[if_true];have a9:0<=place/\place<=(n:Int)-1:=of_decide_eq_true hq;clear hq;obtain⟨p,rfl⟩:∃ p:Nat,place=(p:Int):=⟨place.toNat,oaa⟩;have d4:p<n:=oaa
  have d7:(p:Int)<(n:Int):=oaa
  clear a9;simp only[yk]
  go_enter func150,ntmps150
  go_wp2_with (first
   |(go_at_call 84;refine(T _).mono ?_;rintro e w1 ⟨rfl,M⟩;simp only[yw] at M;have Z:Bl w w1:=((yv _ _).alloc (yr _) _).trans (M.mono oac);have lb:w1.cell? ⟨w.heap.size,0,none⟩=some (.slice a n c):=(M.cell oac).trans oaf;have b8:Hid (w1.heap[w.heap.size]?=some (.cells #[.slice a n c] 43 (0,0))):=(M.block _ oac).trans (yN _ _);obtain⟨b,o,rfl,c0,c1,c2,c3,c4,⟨ka,kc,c5,_⟩,c6,c7⟩:=IS.out _ _ (HI _ _ _ H0.out Z) p (by rw[HN.out];exact d4))
   |(go_at_fn KU;refine(hU (nd S p) _ _).mono ?_;rintro e w2 ⟨rfl,a5⟩;have b0:w2.cell? ⟨w.heap.size,0,none⟩=some (.slice (some ⟨b,o,none⟩) n c):=(a5.cell (yi _ _ lb)).trans lb))
  have b2:Hid (w2.heap[w.heap.size]?=some (.cells #[.slice (some ⟨b,o,none⟩) n c] 43 (0,0))):=(a5.block _ (yi _ _ lb)).trans b8;clear b8;have a8:Bl w w2:=Z.trans (a5.mono Z.size);have b7:w.heap.size<w1.heap.size:=yi _ _ lb;have a7:w.heap.size<w2.heap.size:=yi _ _ b0;have I2:Hid (I st w2):=HI.out _ _ _ H0.out a8;have O2:Hid (Off X w w2):=Off.of_below a8;clear c0 c1 c2 c3 c4 c5 c6 c7 M a5 lb Z b7 T
  go_loopg [8,23] n (fun g s8 s23 wr=>∃ (k:Nat) (x:Int) (s:σ),k<=n/\n-k<=g/\s23=.int .i64 k/\s8=.int .i64 x/\Hid (I s wr)/\Hid (Off X w wr)/\w.heap.size<wr.heap.size/\wr.cell? ⟨w.heap.size,0,none⟩=some (.slice (some ⟨b,o,none⟩) n c)/\Hid (wr.heap[w.heap.size]?=some (.cells #[.slice (some ⟨b,o,none⟩) n c] 43 (0,0)))/\Hid (eB S up step n (up (nd S p)) st=eB S up step (n-k) x s))
  case atStart=>exact⟨0,up (nd S p),st,oaa,oaa,rfl,rfl,I2,O2,a7,b0,b2,rfl⟩
  case round =>
   obtain⟨k,x,s,hk,hg,rfl,rfl,I3,O3,F,d9,b3,E3⟩:=hrel;clear I2 O2 a7 b0 a8 b2;by_cases d8:k<n
   ·obtain⟨f,hf⟩:∃ f,n-k=f+1:=⟨n-k-1,oaa⟩;have E:=E3.out;rw[hf] at E;simp only[eB,HN.out] at E;have T:=fun W=>IB (some ⟨b,o,none⟩) c n x W hN
    cases hq:dZ n x with
    | false =>
     rw[hq] at T E;simp only[Bool.false_eq_true,if_false] at E;have U:Hid (eB S up step n (up (nd S p)) st=s):=E;clear E
     go_wp2_with (go_at_call 84;refine(T _).mono ?_;rintro e w3 ⟨rfl,D⟩)
     refine yz (v:=.tuple #[]) (by simp[results,results150,go_sem]) rfl ⟨rfl,?_,?_⟩
     ·rw[U.out];exact HI.out _ _ _ I3.out D
     ·exact O3.trans (Off.of_below D)
    | true =>
     rw[hq] at T E;simp only[if_true] at E;have a9:0<=x/\x<=(n:Int)-1:=of_decide_eq_true hq;obtain⟨j,rfl⟩:∃ j:Nat,x=(j:Int):=⟨x.toNat,oaa⟩;have c8:j<n:=oaa;have d6:(j:Int)<(n:Int):=oaa;clear a9;simp only[yk] at E;have hv:=fun W (hW:I s W) (hz:w.heap.size<W.heap.size)=>HV.out s (j:Int) W hW hz hq;clear hq;generalize d5:step s (j:Int)=sr at *;obtain⟨s', r⟩:=sr;dsimp only at hv E;have b1:Hid _:=E;clear E d5
     cases r with
     | false =>
      have U:eB S up step n (up (nd S p)) st=s' := by simpa using b1.out
      have E5:Hid _:=U;clear U
      go_wp2_with (first
       |(go_at_call 84;refine(T _).mono ?_;rintro e w3 ⟨rfl,D⟩)
       |(go_at_fn KV;refine(hv _ (HI _ _ _ I3.out D) (yC F D.size)).mono ?_;rintro e w4 ⟨rfl,I4,O4,_⟩))
      refine yz (v:=.tuple #[]) (by simp[results,results150,go_sem]) rfl ⟨rfl,?_,?_⟩
      ·rw[E5.out];exact I4
      ·exact(O3.trans (Off.of_below D)).trans O4
     | true =>
      have U:eB S up step n (up (nd S p)) st=eB S up step f (up (nd S j)) s' := by simpa using b1.out
      have E5:Hid _:=U;clear U
      have fr:∀ w3 w4:World,Bl wr w3->(∀ k:Nat,w3.heap[k]?=some (.cells #[.slice (some ⟨b,o,none⟩) n c] 43 (0,0))->w4.heap[k]?=w3.heap[k]?)->w4.heap[w.heap.size]?=some (.cells #[.slice (some ⟨b,o,none⟩) n c] 43 (0,0)):=fun w3 w4 h3 h4 =>
       (h4 _ ((h3.block _ F).trans b3)).trans ((h3.block _ F).trans b3)
      have FR:Hid _:=fr;clear fr
      go_wp2_with (first
       |(go_at_call 84;refine(T _).mono ?_;rintro e w3 ⟨rfl,D⟩)
       |(go_at_fn KV;refine(hv _ (HI _ _ _ I3.out D) (yC F D.size)).mono ?_;rintro e w4 ⟨rfl,I4,O4,T4⟩;have b4:Hid (w4.heap[w.heap.size]?=some (.cells #[.slice (some ⟨b,o,none⟩) n c] 43 (0,0))):=FR.out w3 w4 D T4;have a6:=cZ b4.out;clear T4;have b5:Hid (I s' w4):=I4;clear I4;obtain⟨b', o', e', c0,c1,c2,c3,c4,⟨ka,kc,c5,_⟩,c6,c7⟩:=IS.out _ _ b5.out j (by rw[HN.out];exact c8);cases e')
       |(go_at_fn KU;refine(hU (nd S j) _ _).mono ?_;rintro e w5 ⟨rfl,O⟩))
      go_roundg (n-(k+1))
      case measure=>omega
      case rel =>
       refine⟨k+1,up (nd S j),s', by omega,oaa,by go_num,rfl,HI.out _ _ _ b5.out O,(O3.trans (Off.of_below D)).trans (O4.trans (Off.of_below O)),?_,(O.cell (yi _ _ a6)).trans a6,(O.block _ (yi _ _ a6)).trans b4,?_⟩
       ·have:=yi _ _ a6;have h5:=O.size;have:w.heap.size<w4.heap.size:=this;omega
       ·rw[show n-(k+1)=f by omega];exact E5
   ·have c9:k=n:=oaa;subst c9;have E:=E3.out;rw[Nat.sub_self] at E;have U:Hid (eB S up step k (up (nd S p)) st=s):=E;clear E E3
    go_wp2
    refine bodyPost_end (v:=.tuple #[]) (by simp[results,results150,go_sem]) rfl ⟨rfl,?_,O3.out⟩;rw[U.out];exact I3.out
def bA(x:Nd):Int:=if x.h = -1 then x.p else x.h
def tQ(D:Int):Bool->Int->Bool × Bool:=fun _ x=>(decide (x=D),!decide (x=D))
def dF(S:List Nd)(place D:Int):Bool:=if dZ S.length place then eB S bA (tQ D) S.length (bA (nd S place.toNat)) false else false
theorem Bf(x D:Int)(F E:Nat)(st:Value)(w:Wd)(h1:w.cell? ⟨F,0,none⟩=some (.int .i64 D))(J:w.cell? ⟨E,0,none⟩=some st)(O:w.frozen? ⟨E,0,none⟩=false) :
  yO 152 #[.int .i64 x,.pointer (some ⟨F,0,none⟩),.pointer (some ⟨E,0,none⟩)] w fun e w' => e=.returned (.bool (!decide (x=D)))/\w' = w.setCell ⟨E,0,none⟩ (.bool (decide (x=D))):=by
 have M:∀ v,(w.setCell ⟨E,0,none⟩ v).cell? ⟨E,0,none⟩=some v:=fun v=>World.cell?_setCell_same _ _ _ J;by_cases h:x=D
 ·subst h
  go_enter func152,ntmps152
  go_wp2
  go_ret;exact⟨rfl,rfl⟩
 ·have hd:decide (x=D)=false:=yH h;rw[hd];have I:(x == D)=false:=by simp[h]
  go_enter func152,ntmps152
  go_wp2
  go_ret;refine⟨?_,?_⟩
  ·first|rfl|(simp[I])
  ·first|rfl|(rw[I])
def tT(w:Wd)(a:OA)(S:List Nd)(D:Int)(st:Bool)(w1:Wd):Prop :=
 Bl w w1/\aD w a S/\w1.cell? ⟨w.heap.size+1,0,none⟩=some (.int .i64 D)/\w1.cell? ⟨w.heap.size+1+1,0,none⟩=some (.bool st)/\w1.frozen? ⟨w.heap.size+1+1,0,none⟩=false
theorem tT.below{w:Wd}{D:Int}{st:Bool}(h:tT w a S D st w1)(hb:Bl w1 w2):tT w a S D st w2:=by
 obtain⟨h1,J,E,F,h5⟩:=h;have hs:=h1.size;have I:=yi _ _ F;exact⟨h1.trans (hb.mono hs),J,(hb.cell (yi _ _ E)).trans E,(hb.cell I).trans F,(hb.frozen I).trans h5⟩
theorem PT(a:OA)(c:Nat)(S:List Nd)(place D:Int)(w:Wd)(hN:S.length<=9223372036854775807)(I:aD w a S) :
  yO 128 #[.agg #[.slice a S.length c],.int .i64 place,.int .i64 D] w fun e w' => e=.returned (.bool (dF S place D))/\Below w.heap.size w w' := by
 have E:∀ W,tT w a S D false W->W.heap.size=w.heap.size+1+1+1->yO 150 #[.agg #[.slice a S.length c],.int .i64 place,.func (.func 151) #[] #[],.func (.func 152) #[] #[.pointer (some ⟨w.heap.size+1,0,none⟩),.pointer (some ⟨w.heap.size+1+1,0,none⟩)]] W fun e w' => e=.returned (.tuple #[])/\tT w a S D (dF S place D) w' := fun W hW a5 =>
  (PR a c S W place 151 152 #[.pointer (some ⟨w.heap.size+1,0,none⟩),.pointer (some ⟨w.heap.size+1+1,0,none⟩)] bA (tQ D) (tT w a S D) (fun k=>k=w.heap.size+1+1) false hN
   (fun st w1 h=>h.2.1.below h.1)
   (fun st w1 w2 h hb=>h.below hb)
   (yM func151 oad rfl) (yM func152 oad rfl)
   (fun x k w1=>IA x k w1)
   (fun st x w1 h _ _=>(Bf x D (w.heap.size+1) (w.heap.size+1+1) (.bool st) w1 h.2.2.1 h.2.2.2.1 h.2.2.2.2).mono (by
    rintro e w2 ⟨rfl,rfl⟩;obtain⟨h1,U,Z,F,h5⟩:=h;have hs:=h1.size;refine⟨rfl,⟨h1.setCell (by show w.heap.size<=w.heap.size+1+1;omega) _,U,?_,World.cell?_setCell_same _ _ _ F,?_⟩,?_,fun k J=>yx _ _ _ _ (fun e=>?_)⟩
    ·exact(((yv (w.heap.size+1+1) w1).setCell (yr _) _).cell (by show w.heap.size+1 < _;omega)).trans Z
    ·rw[World.frozen?_setCell];exact h5
    ·exact⟨rfl,rfl,rfl,by simp[World.setCell],fun k _ hx=>yx _ _ _ _ (by exact hx)⟩
    ·have T:k=w.heap.size+1+1:=e;rw[T] at J;have:=cZ J;rw[F] at this
     cases this))
   hW).mono (fun e w' h=>⟨h.1,by have:=h.2.1;exact this⟩)
 have M:Hid _:=E;have O:Hid (aD w a S):=I;clear E I;generalize S.length=n at *;generalize dF S place D=r at *
 go_enter func128,ntmps128
 go_wp2_with (go_at_call 150;refine(M _ ⟨(((yv _ _).alloc (yr _) _).alloc oac _).alloc oab _,O.out,oaf,oaf,oaf⟩ oac).mono ?_;rintro e w1 ⟨rfl,hb,_,l1,l2,_⟩)
 go_ret;exact⟨rfl,hb⟩
theorem Bg(a:OA)(c:Nat)(S:List Nd)(w:Wd)(hN:S.length<=9223372036854775807)(M:aD w a S) :
  yO 83 #[.agg #[.slice a S.length c]] w fun e w' => e=.returned (.bool ((List.range S.length).any fun i=>dF S i i))/\Below w.heap.size w w' := by
 have HT:Hid (∀ i,i<S.length->dF S i i=true->((List.range S.length).any fun i=>dF S i i)=true):=fun i hi h=>List.any_eq_true.2 ⟨i,List.mem_range.2 hi,h⟩;have T:Hid ((∀ i,i<S.length->dF S i i=false)->((List.range S.length).any fun i=>dF S i i)=false):=fun h=>List.any_eq_false.2 fun i hi=>by rw[h i (List.mem_range.1 hi)];simp
 generalize ((List.range S.length).any fun i=>dF S i i)=R at *;have J:=fun(i:Nat) (W:Wd) (hW:aD W a S)=>PT a c S i i W hN hW;have U:Hid (aD w a S):=M;clear M;generalize hn:S.length=n at *;have HN:Hid (S.length=n):=hn;clear hn
 go_enter func83,ntmps83
 go_wp2
 go_loopg [7] n (fun g s7 wr=>∃ k:Nat,k<=n/\n-k<=g/\s7=.int .i64 k/\Below w.heap.size w wr/\wr.cell? ⟨w.heap.size,0,none⟩=some (.slice a n c)/\Hid (∀ i,i<k->dF S i i=false))
 case atStart=>exact⟨0,oaa,oaa,rfl,(yv _ _).alloc (yr _) _,oaf,(show Hid _ from fun i hi=>absurd hi (yB _))⟩
 case round =>
  obtain⟨k,hk,hg,rfl,hb,O,A⟩:=hrel;have F:=yi _ _ O;by_cases I:k<n
  ·have E:=J k wr (U.below hb);clear J
   cases hr:dF S k k with
   | true =>
    rw[hr] at E;have Z:Hid _:=HT.out k I hr;clear hr
    go_wp2_with (go_at_call 128;refine E.mono ?_;rintro e w1 ⟨rfl,D⟩)
    go_ret;exact⟨by rw[Z.out];rfl,hb.trans (D.mono hb.size)⟩
   | false =>
    rw[hr] at E;have Z:Hid _:=hr;clear hr
    go_wp2_with (go_at_call 128;refine E.mono ?_;rintro e w1 ⟨rfl,D⟩)
    go_roundg (n-(k+1))
    case measure=>omega
    case rel =>
     refine⟨k+1,oaa,oaa,by go_num,hb.trans (D.mono hb.size),(D.cell F).trans O,(show Hid _ from fun i hi=>?_)⟩;by_cases e:i=k
     ·rw[e];exact Z.out
     ·exact A.out i oaa
  ·have:k=n:=oaa;subst this;have Z:Hid _:=T.out A.out;clear J
   go_wp2
   go_ret;exact⟨by rw[Z.out];rfl,hb⟩
def gG(N:Int):List Nd->Int
 | []=>0
 | x :: r=>if iP N x=0 then gG N r else iP N x
def wO(S:List Nd):Bool:=(List.range S.length).any fun i=>dF S i i
def wQ(S:List Nd):Int:=if decide (lW S) then (if decide (jI S S.length) then (if wO S then 6 else 0) else 6) else 6
def dG(S:List Nd):Int:=if 24<S.length then 1 else if gG S.length S=0 then wQ S else gG S.length S
theorem Bh(h:k<S.length):S.drop k=nd S k :: S.drop (k+1):=by
 rw[eQ h];exact List.drop_eq_getElem_cons h
theorem wT(h:iP N x=0):kV N x=true:=by
 unfold iP at h
 split at h
 ·split at h
  ·assumption
  ·omega
 ·omega
theorem wU(h:kV N x=true):(∀ y ∈ x.ks,-1<=y/\y<N)/\(-1<=x.h/\x.h<N)/\(-1<=x.p/\x.p<N):=by
 unfold kV fA at h;simp only[Bool.and_eq_true,decide_eq_true_eq,List.any_eq_false,Bool.not_eq_eq_eq_not,Bool.not_true,decide_eq_false_iff_not,Decidable.not_not] at h;refine⟨fun y D=>?_,⟨h.2.1.1,oaa⟩,⟨h.1.1,oaa⟩⟩;have:=h.2.2 y D;omega
theorem PU{w:Wd}(hb:Below (w.heap.size+1) (w.alloc (.cells #[v] 43)) w1):w1.cell? ⟨w.heap.size,0,none⟩=some v :=
 (hb.cell oac).trans oaf
theorem tV(a:OA)(c:Nat)(S:List Nd)(w:Wd)(hN:S.length<=9223372036854775807)(hB:Big S)(hS:aD w a S) :
  yO 42 #[.agg #[.slice a S.length c]] w fun e w' => e=.returned (.int .i64 (dG S))/\Below w.heap.size w w' := by
 unfold dG;by_cases M:24<S.length
 ·rw[ye M];generalize S.length=n at *;clear hS hB;have a5:(24:Int)<(n:Int):=oaa
  go_enter func42,ntmps42
  go_wp2
  go_ret;exact⟨rfl,(yv _ _).alloc (yr _) _⟩
 ·rw[yd M];have HS:Hid (aD w a S):=hS;have HB:Hid (Big S):=hB;have a7:=fun(i:Nat) (hi:i<S.length) (ka:OA) (kc:Nat) (W:Wd) (hW:aG W ka (nd S i).ks)=>Av (nd S i) ka kc S.length W ⟨oaa,oaa⟩ (hB i hi) hW;have b6:Hid _:=a7
  have J:(∀ i,i<S.length->iP S.length (nd S i)=0)->∀ W,aD W a S->yO 81 #[.slice a S.length c] W (fun e w' => e=.returned (.bool (decide (lW S)))/\Below W.heap.size W w')/\yO 82 #[.slice a S.length c] W (fun e w' => e=.returned (.bool (decide (jI S S.length)))/\Below W.heap.size W w')/\yO 83 #[.agg #[.slice a S.length c]] W (fun e w' => e=.returned (.bool (wO S))/\Below W.heap.size W w'):=fun h W hW =>
   ⟨Bd a c S W oaa hB (fun i hi x hx=>(wU (wT (h i hi))).1 x hx) hW,Be a c S W oaa (fun i hi=>(wU (wT (h i hi))).2.1) hW,Bg a c S W hN hW⟩
  have Z:Hid _:=J;clear hS hB a7 J;have R0:Hid (gG S.length S=0->(if gG S.length S=0 then wQ S else gG S.length S)=if decide (lW S) then (if decide (jI S S.length) then (if wO S then 6 else 0) else 6) else 6):=fun h=>by rw[ye h];rfl
  have R1:Hid (gG S.length S≠0->(if gG S.length S=0 then wQ S else gG S.length S)=gG S.length S):=fun h=>yd h;generalize (if gG S.length S=0 then wQ S else gG S.length S)=b8 at *;have E0:Hid (gG S.length S=gG S.length (S.drop 0)):=rfl;have DR:Hid (∀ k,k<S.length->S.drop k=nd S k :: S.drop (k+1)):=fun k hk=>Bh hk;have DN:Hid (S.drop S.length=[]):=List.drop_length;generalize decide (lW S)=b1 at *;generalize decide (jI S S.length)=b2 at *;generalize wO S=b3 at *;generalize hn:S.length=n at *;have HN:Hid (S.length=n):=hn;clear hn;have a5:¬ (24:Int)<(n:Int):=oaa
  go_enter func42,ntmps42
  go_wp2
  go_loopg [13] n (fun g s13 wr=>∃ k:Nat,k<=n/\n-k<=g/\s13=.int .i64 k/\Below w.heap.size w wr/\wr.cell? ⟨w.heap.size,0,none⟩=some (.slice a n c)/\Hid (gG n S=gG n (S.drop k))/\Hid (∀ i,i<k->iP n (nd S i)=0))
  case atStart=>exact⟨0,oaa,oaa,rfl,(yv _ _).alloc (yr _) _,oaf,E0,(show Hid _ from fun i hi=>absurd hi (yB _))⟩
  case round =>
   obtain⟨k,hk,hg,rfl,hb,lb,A,U⟩:=hrel;have b0:=yi _ _ lb;by_cases a6:k<n
   ·obtain⟨b,o,rfl,c0,c1,c2,c3,c4,⟨ka,kc,c5,a9⟩,c6,c7⟩:=(HS.below hb) k (by rw[HN.out];exact a6);have b9:b<wr.heap.size:=yi wr ⟨b,o+k*8,none⟩ c0;have b4:=fun W hW=>b6.out k a6 ka kc W hW;have O:∀ o1,aG (wr.alloc o1) ka (nd S k).ks:=fun o1=>a9.below ((yv _ _).alloc (yr _) _);have KS:Hid _:=O;have E:=A.out;rw[DR.out k a6] at E;simp only[gG] at E;clear a9 O;generalize hE:iP n (nd S k)=ev at *;by_cases hz:ev=0
    ·subst hz;rw[ye rfl] at E;have F:Hid _:=E;have NE:Hid _:=hE;clear E hE;generalize hx:nd S k=x at *;have HX:Hid _:=hx;clear hx
     go_wp2_with (go_at_call 80;refine(b4 _ (KS _)).mono ?_;rintro e w1 ⟨rfl,I⟩)
     go_roundg (n-(k+1))
     case measure=>omega
     case rel =>
      have D:Bl wr w1:=((yv _ _).alloc (yr _) _).trans (I.mono oac);refine⟨k+1,oaa,oaa,by go_num,hb.trans (D.mono hb.size),(D.cell b0).trans lb,F,(show Hid _ from fun i hi=>?_)⟩;by_cases e:i=k
      ·rw[e,HX.out];exact NE.out
      ·exact U.out i oaa
    ·rw[yd hz] at E;have c8:(ev == 0)=false:=(by simp[hz]);have F:Hid _:=E;clear E hE;generalize hx:nd S k=x at *;have HX:Hid _:=hx;clear hx
     go_wp2_with (go_at_call 80;refine(b4 _ (KS _)).mono ?_;rintro e w1 ⟨rfl,I⟩)
     go_ret;have D:Bl wr w1:=((yv _ _).alloc (yr _) _).trans (I.mono oac);refine⟨?_,hb.trans (D.mono hb.size)⟩;rw[R1.out (by rw[F.out];exact hz),F.out];rfl
   ·have:k=n:=oaa;subst this;have E:=A.out;have a8:S.drop k=[]:=(by have:=DN.out;exact this);rw[a8] at E;simp only[gG] at E;have F:Hid _:=E;have T:Hid _:=Z.out U.out;clear E a8;have R2:=R0.out F.out;clear R0 R1;cases b1;rotate_left;cases b2;rotate_left;cases b3
    all_goals
     simp only[if_true,Bool.false_eq_true,if_false] at R2;subst R2
     go_wp2_with (first
      |(go_at_call 81;refine((T _ (HS.below hb)).1).mono ?_;rintro e w1 ⟨rfl,I⟩;have B1:=hb.trans (I.mono hb.size);have b5:=(I.cell b0).trans lb)
      |(go_at_call 82;refine((T _ (HS.below B1)).2.1).mono ?_;rintro e w2 ⟨rfl,D⟩;have B2:=B1.trans (D.mono B1.size);have c9:=(D.cell (yi _ _ b5)).trans b5)
      |(go_at_call 83;refine((T _ (HS.below B2)).2.2).mono ?_;rintro e w3 ⟨rfl,b7⟩;have B3:=B2.trans (b7.mono B2.size)))
    all_goals go_ret
    all_goals first
     | exact⟨rfl,B3⟩
     | exact⟨rfl,B2⟩
     | exact⟨rfl,B1⟩
def wV(x:Nd)(u:Int):Int:=if decide (1<=u/\u<=x.n) then (if x.u then (if x.n=u then 0 else 5) else 5) else 4
def iX(S:List Nd)(p u:Int):Int:=if dZ S.length p then wV (nd S p.toNat) u else 4
theorem wW{w:Wd}{u:Int}(hb:Below (w.heap.size+1+1) ((w.alloc (.cells #[v] 43)).alloc (.cells #[.int .i64 p,.int .i64 u] 61)) w1) :
  w1.cell? ⟨w.heap.size,0,none⟩=some v/\w1.cell? ⟨w.heap.size+1,0,none⟩=some (.int .i64 p)/\w1.cell? ⟨w.heap.size+1,1,none⟩=some (.int .i64 u)/\Below w.heap.size w w1 :=
 ⟨(hb.cell oab).trans oaf,(hb.cell oac).trans oaf,(hb.cell oac).trans oaf,(((yv _ _).alloc (yr _) _).alloc oac _).trans (hb.mono oaa)⟩
theorem IC(a:OA)(c:Nat)(S:List Nd)(p u:Int)(w:Wd)(hN:S.length<=9223372036854775807)(hS:aD w a S) :
  yO 43 #[.agg #[.slice a S.length c],.agg #[.int .i64 p,.int .i64 u]] w fun e w' => e=.returned (.int .i64 (iX S p u))/\Below w.heap.size w w' := by
 unfold iX;have d1:=fun W=>IB a c S.length p W hN
 cases hq:dZ S.length p with
 | false =>
  rw[hq] at d1;simp only[Bool.false_eq_true,if_false];generalize S.length=n at *;clear hS
  go_enter func43,ntmps43
  go_wp2_with (go_at_call 84;refine(d1 _).mono ?_;rintro e w' ⟨rfl,hb⟩)
  go_ret;simp only[yw] at hb;exact⟨rfl,(wW hb).2.2.2⟩
 | true =>
  rw[hq] at d1;simp only[if_true];have a5:0<=p/\p<=(S.length:Int)-1:=of_decide_eq_true hq;clear hq;obtain⟨k,rfl⟩:∃ k:Nat,p=(k:Int):=⟨p.toNat,oaa⟩;have hk:k<S.length:=oaa
  have a8:(k:Int)<(S.length:Int):=oaa
  simp only[yk];obtain⟨b,o,rfl,Z⟩:=hS k hk;have T:Hid (∀ w1,Bl w w1->nM w1 b (o+k*8) (nd S k)):=fun w1 h1=>Z.below h1;clear hS a5 Z;generalize nd S k=x at *;unfold wV;obtain⟨xu,xn,xt,xm,xp,a6,xh,xc⟩:=x;unfold nM at T;dsimp only at *;generalize a6.length=kl at *;generalize S.length=n at *;have d2:=gU u 1 xn;generalize U:decide (1<=u/\u<=xn)=b1 at *;have B1:Hid (decide (1<=u/\u<=xn)=b1):=U;clear U
  cases b1 with
  | false =>
   simp only[Bool.false_eq_true,if_false]
   go_enter func43,ntmps43
   go_wp2_with (first|(go_at_call 84;refine(d1 _).mono ?_;rintro e w1 ⟨rfl,hb⟩;simp only[yw] at hb;obtain⟨M,O,l2,D⟩:=wW hb;obtain⟨c0,c1,c2,c3,c4,⟨ka,kc,c5,_⟩,c6,c7⟩:=T.out _ D;have J:=yi w1 _ c0;have F:=yi w1 _ O;have I:=yi w1 _ M;have E:Hid _:=D;clear hb D)|(go_at_call 66;refine(d2 _).mono ?_;rintro e w' ⟨rfl,rfl⟩))
   go_ret;exact⟨rfl,E.alloc E.size _⟩
  | true =>
   simp only[if_true]
   cases xu with
   | false =>
    simp only[Bool.false_eq_true,if_false]
    go_enter func43,ntmps43
    go_wp2_with (first|(go_at_call 84;refine(d1 _).mono ?_;rintro e w1 ⟨rfl,hb⟩;simp only[yw] at hb;obtain⟨M,O,l2,D⟩:=wW hb;obtain⟨c0,c1,c2,c3,c4,⟨ka,kc,c5,_⟩,c6,c7⟩:=T.out _ D;have J:=yi w1 _ c0;have F:=yi w1 _ O;have I:=yi w1 _ M;have E:Hid _:=D;clear hb D)|(go_at_call 66;refine(d2 _).mono ?_;rintro e w' ⟨rfl,rfl⟩))
    go_ret;exact⟨rfl,E.alloc E.size _⟩
   | true =>
    simp only[if_true];by_cases he:xn=u
    ·subst he;simp only[if_true]
     go_enter func43,ntmps43
     go_wp2_with (first|(go_at_call 84;refine(d1 _).mono ?_;rintro e w1 ⟨rfl,hb⟩;simp only[yw] at hb;obtain⟨M,O,l2,D⟩:=wW hb;obtain⟨c0,c1,c2,c3,c4,⟨ka,kc,c5,_⟩,c6,c7⟩:=T.out _ D;have J:=yi w1 _ c0;have F:=yi w1 _ O;have I:=yi w1 _ M;have E:Hid _:=D;clear hb D)|(go_at_call 66;refine(d2 _).mono ?_;rintro e w' ⟨rfl,rfl⟩))
     go_ret;exact⟨rfl,E.alloc E.size _⟩
    ·simp only[yd he];have a7:(xn == u)=false:=by simp[he]
     go_enter func43,ntmps43
     go_wp2_with (first|(go_at_call 84;refine(d1 _).mono ?_;rintro e w1 ⟨rfl,hb⟩;simp only[yw] at hb;obtain⟨M,O,l2,D⟩:=wW hb;obtain⟨c0,c1,c2,c3,c4,⟨ka,kc,c5,_⟩,c6,c7⟩:=T.out _ D;have J:=yi w1 _ c0;have F:=yi w1 _ O;have I:=yi w1 _ M;have E:Hid _:=D;clear hb D)|(go_at_call 66;refine(d2 _).mono ?_;rintro e w' ⟨rfl,rfl⟩))
     go_ret;exact⟨rfl,E.alloc E.size _⟩
def aZ(w:Wd)(a:OA)(hs:List (Int × Int)):Prop :=
 ∀ i,i<hs.length->∃ b o,a=some ⟨b,o,none⟩/\w.cell? ⟨b,o+i*2,none⟩=some (.int .i64 (hs.getD i (0,0)).1)/\w.cell? ⟨b,o+i*2+1,none⟩=some (.int .i64 (hs.getD i (0,0)).2)
theorem aZ.below{hs:List (Int × Int)}(h:aZ w a hs)(hb:Bl w w'):aZ w' a hs:=fun i hi=>by
 obtain⟨b,o,e,h1,D⟩:=h i hi;exact⟨b,o,e,(hb.cell (yi w ⟨b,o+i*2,none⟩ h1)).trans h1,(hb.cell (yi w ⟨b,o+i*2+1,none⟩ D)).trans D⟩
def mP(S:List Nd):List (Int × Int)->Int
 | []=>0
 | h :: r=>if iX S h.1 h.2=0 then mP S r else iX S h.1 h.2
def dH(S:List Nd)(hs:List (Int × Int)):Int:=if dG S=0 then mP S hs else dG S
theorem PV{α:Type}{l:List α}{d:α}(h:k<l.length):l.drop k=l.getD k d :: l.drop (k+1):=by
 rw[aJ l d h];exact List.drop_eq_getElem_cons h
theorem tX(a:OA)(c:Nat)(S:List Nd)(ha:OA)(hc:Nat)(hs:List (Int × Int))(w:Wd)(hN:S.length<=9223372036854775807)(hB:Big S)(hS:aD w a S)(hL:hs.length<=9223372036854775807)(hH:aZ w ha hs) :
  yO 185 #[.agg #[.slice a S.length c],.slice ha hs.length hc] w fun e w' => e=.returned (.int .i64 (dH S hs))/\Below w.heap.size w w' := by
 have R0:Hid (dG S=0->dH S hs=mP S (hs.drop 0)):=fun h=>by unfold dH;rw[ye h];rfl
 have R1:Hid (dG S≠0->dH S hs=dG S):=fun h=>by unfold dH;rw[yd h]
 have dc:=fun(W:Wd) (T:aD W a S)=>tV a c S W hN hB T;have dh:=fun(p u:Int) (W:Wd) (T:aD W a S)=>IC a c S p u W hN T;have DH:Hid _:=dh;have HS:Hid (aD w a S):=hS;have HH:Hid (aZ w ha hs):=hH;clear hS hH dh hB;generalize dH S hs=a5 at *;generalize hn:S.length=n at *;generalize hm:hs.length=m at *;have HM:Hid (hs.length=m):=hm;clear hm hn;by_cases I:dG S=0
 ·rw[I] at dc;have R2:Hid _:=R0.out I;clear R0 R1 I
  go_enter func185,ntmps185
  go_wp2_with (go_at_call 42;refine(dc _ (HS.below ((yv _ _).alloc (yr _) _))).mono ?_;rintro e w1 ⟨rfl,E⟩)
  have lb:w1.cell? ⟨w.heap.size,0,none⟩=some (.slice a n c):=PU (by simpa using E);have O:Bl w w1:=((yv _ _).alloc (yr _) _).trans (E.mono oac);clear E dc
  go_loopg [16] m (fun g s16 wr=>∃ k:Nat,k<=m/\m-k<=g/\s16=.int .i64 k/\Below w.heap.size w wr/\wr.cell? ⟨w.heap.size,0,none⟩=some (.slice a n c)/\Hid (a5=mP S (hs.drop k)))
  case atStart=>exact⟨0,oaa,oaa,rfl,O,lb,R2⟩
  case round =>
   obtain⟨k,hk,hg,rfl,hb,Z,A⟩:=hrel;have a6:=yi _ _ Z;clear lb O R2;by_cases U:k<m
   ·obtain⟨b,o,rfl,c0,c1⟩:=(HH.below hb) k (by rw[HM.out];exact U);have a8:=yi _ _ c0;have D:=A.out;rw[PV (d:=(0,0)) (by rw[HM.out];exact U)] at D;simp only[mP] at D;generalize (hs.getD k (0,0)).1=p at *;generalize (hs.getD k (0,0)).2=u at *;have d1:=fun W T=>DH.out p u W T;have HB:Hid (∀ o1,aD (wr.alloc o1) a S):=fun o1=>(HS.below hb).below ((yv _ _).alloc (yr _) _);generalize iX S p u=ev at *;by_cases I:ev=0
    ·subst I;rw[ye rfl] at D;have M:Hid _:=D;clear D
     go_wp2_with (go_at_call 43;refine(d1 _ (HB _)).mono ?_;rintro e w2 ⟨rfl,J⟩)
     go_roundg (m-(k+1))
     case measure=>omega
     case rel =>
      have F:Bl wr w2:=((yv _ _).alloc (yr _) _).trans (J.mono oac);exact⟨k+1,oaa,oaa,by go_num,hb.trans (F.mono hb.size),(F.cell a6).trans Z,M⟩
    ·rw[yd I] at D;have a7:(ev == 0)=false:=(by simp[I]);have M:Hid _:=D;clear D
     go_wp2_with (go_at_call 43;refine(d1 _ (HB _)).mono ?_;rintro e w2 ⟨rfl,J⟩)
     go_ret;have F:Bl wr w2:=((yv _ _).alloc (yr _) _).trans (J.mono oac);exact⟨by rw[M.out];rfl,hb.trans (F.mono hb.size)⟩
   ·have:k=m:=oaa;subst this;have D:=A.out;rw[<- HM.out,List.drop_length] at D;have M:Hid _:=D;clear D
    go_wp2
    go_ret;exact⟨by rw[M.out];rfl,hb⟩
 ·have R2:Hid _:=R1.out I;clear R0 R1;generalize dG S=ev at *;have a7:(ev == 0)=false:=by simp[I]
  go_enter func185,ntmps185
  go_wp2_with (go_at_call 42;refine(dc _ (HS.below ((yv _ _).alloc (yr _) _))).mono ?_;rintro e w1 ⟨rfl,E⟩)
  go_ret;exact⟨by rw[R2.out];rfl,((yv _ _).alloc (yr _) _).trans (E.mono oac)⟩
def bZ(S:List Nd):Nat->Nat->List Int
 | 0,p=>[(p:Int)]
 | f+1,p=>(p:Int) ::(nd S p).ks.flatMap fun k=>bZ S f k.toNat
def Deep(S:List Nd):Nat->Nat->Prop
 | 0,p=>(nd S p).ks=[]
 | f+1,p=>∀ k ∈ (nd S p).ks,(0<=k/\k<S.length)/\Deep S f k.toNat
def fQ(ks:Nat->List Int):Nat->Nat->List Int
 | 0,p=>[(p:Int)]
 | f+1,p=>(p:Int) ::(ks p).flatMap fun k=>fQ ks f k.toNat
def tY(ks:Nat->List Int)(n:Nat):Nat->Nat->Prop
 | 0,p=>ks p=[]
 | f+1,p=>∀ k ∈ ks p,(0<=k/\k<n)/\tY ks n f k.toNat
theorem IE(S:List Nd):∀ f p,fQ (fun p=>(nd S p).ks) f p=bZ S f p
 | 0,_=>rfl
 | f+1,p=>by
  simp only[fQ,bZ]
  congr 1
  congr 1
  funext k
  exact IE S f k.toNat
theorem PX{S:List Nd}:∀ {f p:Nat},Deep S f p->tY (fun p=>(nd S p).ks) S.length f p
 | 0,_,h=>h
 | _+1,_,h=>fun k D=>⟨(h k D).1,PX (h k D).2⟩
def iC(W:Wd)(D:Nat)(l:List Int)(w1:Wd):Prop :=
 Off (fun k=>k=D) W w1/\∃ v,w1.cell? ⟨D,0,none⟩=some v/\w1.frozen? ⟨D,0,none⟩=false/\w1.ownsRow W.heap.size 3 1 v l.length (l.map (Value.int .i64))
theorem grownBy_setCell(w:Wd)(a:Addr)(v:Value):w.grownBy (w.setCell a v) (some a.block) :=
 ⟨rfl,rfl,rfl,by simp[World.setCell],fun k _ D=>yx _ _ _ _ (fun e=>D (by rw[e]))⟩
theorem iC.step{D:Nat}{Z:Value}(I:D<W.heap.size)(J:Off (fun k=>k=D) W w1)(hc:w1.cell? ⟨D,0,none⟩=some v)(hf:w1.frozen? ⟨D,0,none⟩=false)
  (T:w1.ownsRow W.heap.size 3 1 v l.length (l.map (Value.int .i64))) (o1:Obj)
  (F:w2.ownsRow W.heap.size 3 1 Z (l.length+1) (l.map (Value.int .i64)++[.int .i64 p])) (hg:(w1.alloc o1).grownBy w2 v.ownBlock) :
  w2.cell? ⟨D,0,none⟩=some v/\w2.frozen? ⟨D,0,none⟩=false/\iC W D (l++[p]) (w2.setCell ⟨D,0,none⟩ Z):=by
 have U:∀ k,v.ownBlock=some k->W.heap.size<=k:=fun k O=>(T.lt k O).1;have a5:D<w1.heap.size:=yC I J.size
 have E:∀ k,k<W.heap.size->w2.heap[k]?=w1.heap[k]?:=fun k O =>
  (hg.block k (by have:=J.size;simp;omega) (fun e=>by have:=U k e.symm;omega)).trans (Below.heap_alloc _ _ _ (by have:=J.size;omega))
 have M:w2.cell? ⟨D,0,none⟩=some v:=(yE (E D I)).trans hc;refine⟨M,(yF (E D I)).trans hf,?_,Z,World.cell?_setCell_same _ _ _ M,?_,?_⟩
 ·refine⟨?_,?_,?_,?_,fun k O hx=>?_⟩
  ·exact hg.os.trans J.os
  ·exact hg.tape.trans J.tape
  ·exact hg.output.trans J.output
  ·have:=hg.size;have h2:=J.size;simp[World.setCell] at *;omega
  ·rw[yx _ _ _ _ (by exact hx),E k O];exact J.block k O hx
 ·rw[World.frozen?_setCell];exact(yF (E D I)).trans hf
 ·have h3:=F.kept (grownBy_setCell w2 ⟨D,0,none⟩ Z) (by
   cases hb:Z.ownBlock with
   | none=>exact Or.inl rfl
   | some k=>right;intro e;have:=(F.lt k hb).1;simp at e;omega)
  simpa using h3
theorem iC.below{F:Nat}(h:iC W F l w1)(I:F<W.heap.size)(hb:Bl w1 w2):iC W F l w2:=by
 obtain⟨J,v,hc,M,E⟩:=h;have D:F<w1.heap.size:=yC I J.size
 exact⟨J.trans (Off.of_below hb),v,(hb.cell (by exact D)).trans hc,(hb.frozen (by exact D)).trans M,E.kept (row:=none) ⟨hb.os,hb.tape,hb.output,hb.size,fun k O _=>hb.block k O⟩ (by
  cases hv:v.ownBlock with
  | none=>exact Or.inl rfl
  | some k=>exact Or.inr (fun e=>by cases e))⟩
theorem Bi(ks:List Int)(sub:Int->List Int)(q:Nat)(D:q<ks.length):(ks.take (q+1)).flatMap sub=(ks.take q).flatMap sub++sub (ks.getD q 0):=by
 rw[List.take_succ_eq_append_getElem D,List.flatMap_append,aJ ks 0 D];simp
theorem Bj(ks:List Int)(sub:Int->List Int)(q:Nat):((ks.take q).flatMap sub).length<=(ks.flatMap sub).length:=by
 have h:=List.take_append_drop q ks
 have:(ks.flatMap sub).length=((ks.take q).flatMap sub).length+((ks.drop q).flatMap sub).length:=by
  rw[<- List.length_append,<- List.flatMap_append,h]
 omega
theorem PY(ks:Nat->List Int)(n:Nat)(K:Nat)(T:Array Value)(W:Wd)(D bb bw:Nat)(c7:D<W.heap.size)(d5:bb<W.heap.size)(d6:bw<W.heap.size)(e1:bb≠D)(how:bw≠D)
  (eg:∀ args w,(callFunc K args).run prog w=.ok (.enter K args) w)
  (M:W.cell? ⟨bb,0,none⟩=some (.func (.func K) #[] T)) (Z:W.cell? ⟨bw,0,none⟩=some (.func (.func 215) #[] #[.pointer (some ⟨D,0,none⟩),.pointer (some ⟨bb,0,none⟩),.pointer (some ⟨bw,0,none⟩)]))
  (b1:∀ p,p<n->∃ ka kc,(ks p).length<=9223372036854775807/\(∀ w1,Off (fun k=>k=D) W w1->aG w1 ka (ks p))/\∀ w1,Off (fun k=>k=D) W w1->yO K (#[.int .i64 p] ++ T) w1 fun e w2=>e=.returned (.slice ka (ks p).length kc)/\Below w1.heap.size w1 w2) (p:Nat) (hp:p<n) (sub:Int->List Int)
  (b2:∀ k ∈ ks p,∀ l w1,l.length+(sub k).length<=1000000->iC W D l w1 ->
   yO 215 #[.int .i64 k,.pointer (some ⟨D,0,none⟩),.pointer (some ⟨bb,0,none⟩),.pointer (some ⟨bw,0,none⟩)] w1 fun e w2=>e=.returned (.tuple #[])/\iC W D (l++sub k) w2)
  (l:List Int) (w1:Wd) (hlen:l.length+1+((ks p).flatMap sub).length<=1000000) (hI:iC W D l w1) :
  yO 215 #[.int .i64 p,.pointer (some ⟨D,0,none⟩),.pointer (some ⟨bb,0,none⟩),.pointer (some ⟨bw,0,none⟩)] w1 fun e w2=>e=.returned (.tuple #[])/\iC W D (l++(p:Int) ::(ks p).flatMap sub) w2:=by
 obtain⟨i0,d9,e2,e3,e4⟩:=info_parts info3;obtain⟨hO,v,hc,hf,b0⟩:=hI;obtain⟨ka,kc,e5,a6,J⟩:=b1 p hp;have e0:l.length+1<=1000000:=oaa
 have e8:=hO.size
 have U:∀ w2,Off (fun k=>k=D) W w2->w2.cell? ⟨bb,0,none⟩=some (.func (.func K) #[] T)/\w2.cell? ⟨bw,0,none⟩=some (.func (.func 215) #[] #[.pointer (some ⟨D,0,none⟩),.pointer (some ⟨bb,0,none⟩),.pointer (some ⟨bw,0,none⟩)]):=fun w2 h2 =>
  ⟨(h2.cell (by exact d5) (by exact e1)).trans M,(h2.cell (by exact d6) (by exact how)).trans Z⟩
 have a7:Hid _:=U;have d4:Hid _:=b2;have HL:Hid _:=hlen;have HO:Hid (Off (fun k=>k=D) W w1):=hO;have a8:Hid (w1.ownsRow W.heap.size 3 1 v l.length (l.map (Value.int .i64))):=b0;have HC:Hid _:=hc;have HF:Hid _:=hf;have b4:Hid _:=a6;have O:Hid _:=J;clear U b2 hlen hO b0 M Z b1 a6 J hp;generalize ks p=ks at *
 go_enter func215,ntmps215
 go_wp2_with (at_builtin;refine wpList_append_own _ rfl _ _ 48 rfl W.heap.size 3 i0 (.int .i64 0) 1 8 underlying48 d9 e2 e3 e4 rfl oae _ _ _ rfl (a8.alloc _) ⟨w1.heap.size,0,none⟩ 1 1 [.int .i64 (p:Int)] rfl rfl ?c1 ?c2 ?c3 ?c4 ?c5 ?_)
 case c1 =>
  intro j u hj
  match j,hj with
  | 0,hj=>simp at hj;subst hj;simp[Addr.add]
 case c2=>intro u hu;simp at hu;subst hu;rfl
 case c3=>unfold maxLen;omega
 case c4=>omega
 case c5=>simp;omega
 intro v' w2 F a5 _
 obtain⟨g', I,rfl⟩:∃ g' I,v' = .slice (some ⟨g', 0,none⟩) (l.length+1) I:=by
  rcases F.2 with ⟨_,h⟩ |⟨g', I,e6,h,_⟩
  ·omega
  ·exact⟨g', I,h⟩
 obtain⟨d7,d8,b5⟩:=iC.step c7 HO.out HC.out HF.out a8.out _ F a5;obtain⟨M,Z⟩:=a7.out _ b5.1;have b3:Hid (iC W D (l++(p:Int) ::(ks.take 0).flatMap sub) _):=(show iC W D (l++(p:Int) :: []) _ from b5);clear F a5 b5 hc hf Z;generalize c8:ks.length=L at *;have KL:Hid (ks.length=L):=c8;clear c8
 go_wp2_with (go_at_fn K;refine(O _ b3.out.1).mono ?_;rintro e w4 ⟨rfl,c6⟩)
 have c9:Hid (iC W D (l++(p:Int) ::(ks.take 0).flatMap sub) w4):=b3.below c7 c6;clear b3 c6 d7 d8 M O
 go_wp2
 go_loopg [15] L (fun g s18 wr=>∃ q:Nat,q<=L/\L-q<=g/\s18=.int .i64 q/\Hid (iC W D (l++(p:Int) ::(ks.take q).flatMap sub) wr))
 case atStart=>exact⟨0,oaa,oaa,rfl,c9⟩
 case round =>
  obtain⟨q,hq,hg,rfl,I3⟩:=hrel;by_cases b9:q<L
  ·obtain⟨M,Z⟩:=a7.out _ I3.out.1;obtain⟨kb,ko,rfl,e7⟩:=(b4 _ I3.out.1) q (by rw[KL.out];exact b9);have a9:ks.getD q 0 ∈ ks:=(by rw[aJ ks 0 (by rw[KL.out];exact b9)];exact List.getElem_mem _);have b8:=Bi ks sub q (by rw[KL.out];exact b9);have b7:=Bj ks sub (q+1);rw[b8] at b7;have b6:=d4.out (ks.getD q 0) a9 _ wr (by have:=HL.out;simp only[List.length_append,List.length_cons] at b7 this |-;omega) I3.out;have FT:Hid _:=b8;clear a9 b8 b7 I3 M;generalize ks.getD q 0=y at *
   go_wp2_with (go_at_call 215;refine b6.mono ?_;rintro e w3 ⟨rfl,I4⟩)
   go_roundg (L-(q+1))
   case measure=>omega
   case rel =>
    refine⟨q+1,oaa,oaa,by go_num,?_⟩
    have I5:iC W D (l++(p:Int) ::(ks.take (q+1)).flatMap sub) w3:=by
     rw[FT.out];simpa using I4
    exact I5
  ·have:q=L:=oaa;subst this;have E:(ks.take q)=ks:=(by rw[<- KL.out];exact List.take_length);have I4:=I3.out;rw[E] at I4;have I5:Hid _:=I4;clear I4 E
   go_wp2
   exact bodyPost_end (v:=.tuple #[]) (by simp[results,results215,go_sem]) rfl ⟨rfl,I5.out⟩
theorem Bn(ks:Nat->List Int)(n:Nat)(K:Nat)(D:Array Value)(W:Wd)(E I J:Nat)(O:E<W.heap.size)(M:I<W.heap.size)(T:J<W.heap.size)(a6:I≠E)(how:J≠E)
  (eg:∀ args w,(callFunc K args).run prog w=.ok (.enter K args) w)
  (U:W.cell? ⟨I,0,none⟩=some (.func (.func K) #[] D)) (Z:W.cell? ⟨J,0,none⟩=some (.func (.func 215) #[] #[.pointer (some ⟨E,0,none⟩),.pointer (some ⟨I,0,none⟩),.pointer (some ⟨J,0,none⟩)]))
  (F:∀ p,p<n->∃ ka kc,(ks p).length<=9223372036854775807/\(∀ w1,Off (fun k=>k=E) W w1->aG w1 ka (ks p))/\∀ w1,Off (fun k=>k=E) W w1->yO K (#[.int .i64 p] ++ D) w1 fun e w2=>e=.returned (.slice ka (ks p).length kc)/\Below w1.heap.size w1 w2) :
  ∀ (f p:Nat) (l:List Int) (w1:Wd),p<n->tY ks n f p->l.length+(fQ ks f p).length<=1000000->iC W E l w1 ->
  yO 215 #[.int .i64 p,.pointer (some ⟨E,0,none⟩),.pointer (some ⟨I,0,none⟩),.pointer (some ⟨J,0,none⟩)] w1 fun e w2=>e=.returned (.tuple #[])/\iC W E (l++fQ ks f p) w2:=by
 intro f
 induction f with
 | zero =>
  intro p l w1 hp hD hlen hI;have hk:ks p=[]:=hD;have h:=PY ks n K D W E I J O M T a6 how eg U Z F p hp (fun _=>[]) (fun k a5=>by rw[hk] at a5;cases a5) l w1 (by simp only[fQ] at hlen;rw[hk];simpa using hlen) hI;rw[hk] at h;exact h
 | succ f ih =>
  intro p l w1 hp hD hlen hI
  exact PY ks n K D W E I J O M T a6 how eg U Z F p hp (fun k=>fQ ks f k.toNat) (fun k hk l w1 hl a7=>by
   obtain⟨⟨h1,h2⟩,h3⟩:=hD k hk;have:=ih k.toNat l w1 oaa h3 hl a7
   rwa [Int.toNat_of_nonneg h1] at this) l w1 (by simp only[fQ,List.length_cons] at hlen;omega) hI
