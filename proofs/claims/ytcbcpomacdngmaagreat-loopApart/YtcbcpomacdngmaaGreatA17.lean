/-
  x
-/
import Derived.Test.YtcbcpomacdngmaaGreatA16
import Derived.Deep.RegionWith
namespace Go.Proofs.YtcbcpomacdngmaaGreat
set_option maxRecDepth 100000
set_option maxHeartbeats 4000000
set_option linter.unusedVariables false
open Go.RowKit Go.ChangeShapes Go.WideShapes Tryz
variable{i k B c:Nat}{F:Int}{a:OA}{w w':World}{w1:Wd}
structure Pt where
 o:Int
 t:Int
 m:Int
 cm:List (List Cl)
 s:Bool
 deriving DecidableEq
def UL:Pt:=⟨0,0,0,[],false⟩
def pt(L:List Pt)(i:Nat):Pt:=L.getD i UL
theorem mG{L:List Pt}(h:i<L.length):pt L i=L[i]:=aJ L UL h
theorem Jq{L M:List Pt}(hl:L.length=M.length)(h:∀ i,i<L.length->pt L i=pt M i):L=M:=by
 apply List.ext_getElem hl;intro i h1 D;have:=h i h1
 rwa [mG h1,mG D] at this
theorem uW{L M:List Pt}(h:i<L.length):pt (L++M) i=pt L i:=by
 rw[mG oab,mG h,List.getElem_append_left h]
theorem UM(L:List Pt)(x:Pt):pt (L++[x]) L.length=x:=by
 rw[mG oac];simp
theorem nT{L:List Pt}{x:Pt}(h:i<L.length):pt (L.set k x) i=if k=i then x else pt L i:=by
 rw[mG (by simpa using h),List.getElem_set];split
 ·rfl
 ·rw[mG h]
def gr(C:List (List Cl))(i:Nat):List Cl:=C.getD i []
theorem qJ{C:List (List Cl)}(h:i<C.length):gr C i=C[i]:=aJ C [] h
theorem Jr{C D:List (List Cl)}(hl:C.length=D.length)(h:∀ i,i<C.length->gr C i=gr D i):C=D:=by
 apply List.ext_getElem hl;intro i h1 E;have:=h i h1
 rwa [qJ h1,qJ E] at this
theorem KC{C D:List (List Cl)}(h:i<C.length):gr (C++D) i=gr C i:=by
 rw[qJ oab,qJ h,List.getElem_append_left h]
theorem KD(C:List (List Cl))(g:List Cl):gr (C++[g]) C.length=g:=by
 rw[qJ oac];simp
theorem KE(C:List (List Cl))(h:i+1<C.length):gr (C.drop 1) i=gr C (i+1):=by
 rw[qJ oab,qJ h];simp
def fM:List (List Cl)->Int
 | []=>0
 | g :: l=>if bF g=0 then fM l else bF g
def fO(L:List Pt)(F:Int)(i:Nat):Int :=
 if ¬ (0<=(pt L i).o/\(pt L i).o<F)\/¬ (0<=(pt L i).m/\(pt L i).m<=(L.length:Int)-1) then 4
 else if (pt L i).m=i\/(pt L (pt L i).m.toNat).m≠i then 3
 else if ¬ (0<=(pt L i).t/\(pt L i).t<=1000) then 2
 else if 16<(pt L i).cm.length\/(0<(pt L i).cm.length/\(pt L i).s=true) then 1
 else fM (pt L i).cm
def rX(L:List Pt)(F:Int):Nat->Nat->Int
 | _,0=>0
 | i,n+1=>if fO L F i=0 then rX L F (i+1) n else fO L F i
def jP(L:List Pt)(F:Int)(i:Nat):Int:=rX L F i (L.length-i)
def dK(L:List Pt)(F:Int):Int:=if 12<L.length then 1 else jP L F 0
theorem Js{L:List Pt}(h:i<L.length):jP L F i=if fO L F i=0 then jP L F (i+1) else fO L F i:=by
 unfold jP;obtain⟨n,hn⟩:∃ n,L.length-i=n+1:=⟨L.length-i-1,oaa⟩;rw[hn,rX,show L.length-(i+1)=n by omega]
theorem Jt{L:List Pt}(h:L.length<=i):jP L F i=0:=by
 unfold jP;rw[show L.length-i=0 by omega,rX]
structure gJ (L:List Pt) (F:Int):Prop where
 few:L.length<=12
 ok:∀ i,i<L.length->fO L F i=0
theorem UN{L:List Pt}{F:Int}:∀ n i,rX L F i n=0↔∀ j,i<=j->j<i+n->fO L F j=0
 | 0,i=>by simp[rX];omega
 | n+1,i=>by
  rw[rX];by_cases h:fO L F i=0
  ·rw[ye h,UN n (i+1)];constructor
   ·intro H j h1 D;by_cases e:j=i
    ·rw[e];exact h
    ·exact H j oaa oaa
   ·intro H j h1 D;exact H j oaa oaa
  ·rw[yd h];constructor
   ·intro H;exact absurd H h
   ·intro H;exact H i (yr _) oaa
theorem qK{L:List Pt}:dK L F=0↔gJ L F:=by
 unfold dK jP;by_cases h:12<L.length
 ·rw[ye h];exact⟨fun e=>oaa,fun R=>absurd R.few oaa⟩
 ·rw[yd h,UN];exact⟨fun H=>⟨oaa,fun i hi=>H i oaa oaa⟩,fun R j _ D=>R.ok j oaa⟩
theorem rY:∀ {C:List (List Cl)},fM C=0↔∀ i,i<C.length->Right (gr C i)
 | []=>by simp[fM]
 | g :: l=>by
  rw[fM];by_cases h:bF g=0
  ·rw[ye h,rY];constructor
   ·intro H i hi
    cases i with
    | zero=>exact pE.1 h
    | succ i=>exact H i (by simpa using hi)
   ·intro H i hi;exact H (i+1) (by simpa using hi)
  ·rw[yd h];constructor
   ·intro H;exact absurd H h
   ·intro H;exact pE.2 (H 0 oac)
theorem kH{L:List Pt}:fO L F i=0↔(0<=(pt L i).o/\(pt L i).o<F)/\(0<=(pt L i).m/\(pt L i).m<=(L.length:Int)-1)/\((pt L i).m≠i/\(pt L (pt L i).m.toNat).m=i)/\(0<=(pt L i).t/\(pt L i).t<=1000)/\((pt L i).cm.length<=16/\((pt L i).s=true->(pt L i).cm.length=0))/\fM (pt L i).cm=0:=by
 unfold fO;by_cases h1:¬ (0<=(pt L i).o/\(pt L i).o<F)\/¬ (0<=(pt L i).m/\(pt L i).m<=(L.length:Int)-1)
 ·rw[ye h1];exact⟨fun e=>oaa,fun⟨a,b,_⟩=>by rcases h1 with h|h;exact absurd a h;exact absurd b h⟩
 ·rw[yd h1];have J:0<=(pt L i).o/\(pt L i).o<F:=Classical.byContradiction fun h=>h1 (Or.inl h);have M:0<=(pt L i).m/\(pt L i).m<=(L.length:Int)-1:=Classical.byContradiction fun h=>h1 (Or.inr h);by_cases D:(pt L i).m=i\/(pt L (pt L i).m.toNat).m≠i
  ·rw[ye D];exact⟨fun e=>oaa,fun⟨_,_,c,_⟩=>by rcases D with h|h;exact absurd h c.1;exact absurd c.2 h⟩
  ·rw[yd D];have O:(pt L i).m≠i:=fun h=>D (Or.inl h);have T:(pt L (pt L i).m.toNat).m=i:=Classical.byContradiction fun h=>D (Or.inr h);by_cases I:0<=(pt L i).t/\(pt L i).t<=1000
   ·rw[yd (yL I)];by_cases E:16<(pt L i).cm.length\/(0<(pt L i).cm.length/\(pt L i).s=true)
    ·rw[ye E];refine⟨fun e=>oaa,fun⟨_,_,_,_,e,_⟩=>?_⟩;rcases E with h|h
     ·omega
     ·have:=e.2 h.2;omega
    ·rw[yd E]
     have U:(pt L i).cm.length<=16:=by
      by_cases h:16<(pt L i).cm.length
      ·exact absurd (Or.inl h) E
      ·omega
     have Z:(pt L i).s=true->(pt L i).cm.length=0:=fun hs=>by
      by_cases h:0<(pt L i).cm.length
      ·exact absurd (Or.inr ⟨h,hs⟩) E
      ·omega
     exact⟨fun e=>⟨J,M,⟨O,T⟩,I,⟨U,Z⟩,e⟩,fun h=>h.2.2.2.2.2⟩
   ·rw[ye I];exact⟨fun e=>oaa,fun⟨_,_,_,d,_⟩=>absurd d I⟩
def fU(L:List Pt)(F o t:Int):Int:=if dK L F≠0 then dK L F else if ¬ (0<=o/\o<F) then 4 else if ¬ (0<=t/\t<=1000) then 2 else if 10<L.length then 1 else 0
def bJ(L:List Pt)(o t:Int):List Pt:=L++[⟨o,t,(L.length:Int)+1,[],false⟩,⟨o,t,(L.length:Int),[],false⟩]
def jB(L:List Pt)(F o t:Int):List Pt:=if fU L F o t=0 then bJ L o t else []
def mX(L:List Pt)(F o t:Int):Int:=if fU L F o t=0 then (L.length:Int) else 0
def aX(L:List Pt)(F k o t:Int):Int:=if dK L F≠0 then dK L F else if ¬ (0<=k/\k<(L.length:Int)) then 4 else if (pt L k.toNat).o≠o\/(pt L k.toNat).t≠t then 7 else if (pt L k.toNat).s=true then 5 else 0
def kI(L:List Pt)(F k o t D th:Int):Int:=if aX L F k o t≠0 then aX L F k o t else if ¬ (0<=D/\D<F) then 4 else if ¬ (0<=th/\th<=1000) then 2 else 0
def kJ(L:List Pt)(k D th:Int):List Pt:=L.set k.toNat { pt L k.toNat with o:=D,t:=th }
def uX(L:List Pt)(F k o t D th:Int):List Pt:=if kI L F k o t D th=0 then kJ L k D th else []
def kK(L:List Pt)(k:Int):Pt:=pt L (pt L k.toNat).m.toNat
def iU(L:List Pt)(F k o t:Int)(g:List Cl):Int:=if aX L F k o t≠0 then aX L F k o t else if bF g≠0 then bF g else if (kK L k).s=true then 5 else if (kK L k).cm.length=16 then 1 else 0
def lD(L:List Pt)(k:Int)(g:List Cl):List Pt:=L.set (pt L k.toNat).m.toNat { kK L k with cm:=(kK L k).cm++[bL g] }
def uY(L:List Pt)(F k o t:Int)(g:List Cl):List Pt:=if iU L F k o t g=0 then lD L k g else []
def gK(L:List Pt)(F k o t:Int):Int:=if aX L F k o t≠0 then aX L F k o t else if (pt L k.toNat).cm.length=0 then 8 else 0
def jQ(L:List Pt)(k:Int):List Pt:=L.set k.toNat { pt L k.toNat with cm:=(pt L k.toNat).cm.drop 1 }
def uZ(L:List Pt)(F k o t:Int):List Pt:=if gK L F k o t=0 then jQ L k else []
def xV(L:List Pt)(F k o t:Int):List Cl:=if gK L F k o t=0 then gr (pt L k.toNat).cm 0 else []
def kL(L:List Pt)(k:Int):List Pt:=L.set k.toNat { pt L k.toNat with s:=true,cm:=[] }
def vB(L:List Pt)(F k o t:Int):List Pt:=if aX L F k o t=0 then kL L k else []
theorem lF{L:List Pt}{k o t:Int}(h:aX L F k o t=0):gJ L F/\∃ q:Nat,k=q/\q<L.length/\(pt L q).o=o/\(pt L q).t=t/\(pt L q).s=false:=by
 unfold aX at h;by_cases h1:dK L F=0
 ·rw[yd (yL h1)] at h;by_cases E:0<=k/\k<(L.length:Int)
  ·rw[yd (yL E)] at h;obtain⟨q,rfl⟩:=Int.eq_ofNat_of_zero_le E.1;rw[yk] at h;by_cases D:(pt L q).o≠o\/(pt L q).t≠t
   ·rw[ye D] at h;cases h
   ·rw[yd D] at h
    cases hs:(pt L q).s with
    | true=>rw[ye hs] at h;cases h
    | false=>exact⟨qK.1 h1,q,rfl,oaa,Classical.byContradiction fun e=>D (Or.inl e),Classical.byContradiction fun e=>D (Or.inr e),hs⟩
  ·rw[ye E] at h;cases h
 ·rw[ye h1] at h;exact absurd h h1
theorem gJ.mate{L:List Pt}(R:gJ L F)(h:i<L.length):∃ q:Nat,(pt L i).m=q/\q<L.length/\q≠i/\(pt L q).m=i:=by
 obtain⟨_,I,D,_⟩:=kH.1 (R.ok i h);obtain⟨q,E⟩:=Int.eq_ofNat_of_zero_le I.1;rw[E,yk] at D;exact⟨q,E,oaa,fun e=>D.1 oaa,D.2⟩
theorem Own.nil8{w:Wd}{g:Nat}{S:List Nd}{kb kc:Nat->Nat}(h:Own w B g S kb kc S.length)(hk:k<S.length)(x:Nd)(U:x.ks=[])(w3:Wd)
  (J:∀ b,g<=b->b<w.heap.size->w3.heap[b]?=((((((((w.setCell ⟨g,k*8,none⟩ (.bool x.u)).setCell ⟨g,k*8+1,none⟩ (.int .i64 x.n)).setCell ⟨g,k*8+2,none⟩ (.int .i64 x.t)).setCell ⟨g,k*8+3,none⟩ (.int .i64 x.m)).setCell ⟨g,k*8+4,none⟩ (.int .i64 x.p)).setCell ⟨g,k*8+5,none⟩ (.slice none 0 0)).setCell ⟨g,k*8+6,none⟩ (.int .i64 x.h)).setCell ⟨g,k*8+7,none⟩ (.bool x.c)).heap[b]?) :
  aD w3 (some ⟨g,0,none⟩) (S.set k x):=fun i hi=>by
 obtain⟨_,F,T,hN,hg,_⟩:=h;rw[List.length_set] at hi;have E:=(QC T (k*8) (.bool x.u) (.int .i64 x.n) (.int .i64 x.t) (.int .i64 x.m) (.int .i64 x.p) (.slice none 0 0) (.int .i64 x.h) (.bool x.c)).of_block (J g (yr _) T.lt);refine⟨g,0,rfl,?_⟩;rw[yD,iQ S k i x hk];by_cases e:i=k
 ·subst e;rw[ye rfl];refine⟨?_,?_,?_,?_,?_,⟨none,0,?_,fun j O=>absurd O (by rw[U];exact yB _)⟩,?_,?_⟩
  ·rw[E.cell oaa];unfold lX;rw[yd oaa,yd oaa,yd oaa,yd oaa,yd oaa,yd oaa,yd oaa,ye rfl]
  ·rw[E.cell oaa];unfold lX;rw[yd oaa,yd oaa,yd oaa,yd oaa,yd oaa,yd oaa,ye rfl]
  ·rw[E.cell oaa];unfold lX;rw[yd oaa,yd oaa,yd oaa,yd oaa,yd oaa,ye rfl]
  ·rw[E.cell oaa];unfold lX;rw[yd oaa,yd oaa,yd oaa,yd oaa,ye rfl]
  ·rw[E.cell oaa];unfold lX;rw[yd oaa,yd oaa,yd oaa,ye rfl]
  ·rw[E.cell oaa,U];unfold lX;rw[yd oaa,yd oaa,ye rfl];rfl
  ·rw[E.cell oaa];unfold lX;rw[yd oaa,ye rfl]
  ·rw[E.cell oaa];unfold lX;rw[ye rfl]
 ·rw[yd e];have M:=hg i hi;obtain⟨Z,e1,e2,e3,e4,e5,e6,e7,e8,a5,G,I,e9⟩:=hN i hi;have D:kb i≠g:=oaa
  have hG:=I.of_block (w' := w3) ((J (kb i) (Nat.le_of_lt M) I.lt).trans (by
   rw[yx _ _ _ _ D,yx _ _ _ _ D,yx _ _ _ _ D,yx _ _ _ _ D,yx _ _ _ _ D,yx _ _ _ _ D,yx _ _ _ _ D,yx _ _ _ _ D]))
  refine⟨?_,?_,?_,?_,?_,⟨some ⟨kb i,0,none⟩,kc i,?_,fun j O=>⟨kb i,0,rfl,?_⟩⟩,?_,?_⟩
  ·rw[E.cell oaa,oL oaa,Z]
  ·rw[E.cell oaa,oL oaa,e1]
  ·rw[E.cell oaa,oL oaa,e2]
  ·rw[E.cell oaa,oL oaa,e3]
  ·rw[E.cell oaa,oL oaa,e4]
  ·rw[E.cell oaa,oL oaa,e5]
  ·rw[yD,hG.cell oaa,e9 j O]
  ·rw[E.cell oaa,oL oaa,e6]
  ·rw[E.cell oaa,oL oaa,e7]
theorem lL{w:Wd}{v:Value}{x y:Int}(hb:Below (w.heap.size+1+1+1) (((w.alloc (.cells #[v] 43)).alloc (.cells #[.int .i64 x,.int .i64 y] 61)).alloc (.cells #[.slice none 0 0] 43)) w1) :
  w1.cell? ⟨w.heap.size,0,none⟩=some v/\w1.cell? ⟨w.heap.size+1,0,none⟩=some (.int .i64 x)/\w1.cell? ⟨w.heap.size+1,1,none⟩=some (.int .i64 y)/\w1.cell? ⟨w.heap.size+1+1,0,none⟩=some (.slice none 0 0)/\w1.frozen? ⟨w.heap.size+1+1,0,none⟩=false :=
 ⟨(hb.cell oab).trans oaf,(hb.cell oac).trans oaf,(hb.cell oac).trans oaf,(hb.cell oac).trans oaf,(hb.frozen oac).trans oaf⟩
theorem sJ{W w2:Wd}{a0 a1 a2 a3 a4 F I J:Value}(E:Below B W w1)(hs:B<=w1.heap.size)(D:Below (w1.heap.size+1) (w1.alloc (.cells #[a0,a1,a2,a3,a4,F,I,J] 57)) w2) :
  Below B W w2/\w2.cell? ⟨w1.heap.size,0,none⟩=some a0/\w2.cell? ⟨w1.heap.size,1,none⟩=some a1/\w2.cell? ⟨w1.heap.size,2,none⟩=some a2/\w2.cell? ⟨w1.heap.size,3,none⟩=some a3/\w2.cell? ⟨w1.heap.size,4,none⟩=some a4/\w2.cell? ⟨w1.heap.size,5,none⟩=some F/\w2.cell? ⟨w1.heap.size,6,none⟩=some I/\w2.cell? ⟨w1.heap.size,7,none⟩=some J :=
 ⟨(E.alloc hs _).trans (D.mono oaa),(D.cell oac).trans oaf,(D.cell oac).trans oaf,(D.cell oac).trans oaf,(D.cell oac).trans oaf,(D.cell oac).trans oaf,(D.cell oac).trans oaf,(D.cell oac).trans oaf,(D.cell oac).trans oaf⟩
theorem Lf(a:OA)(c:Nat)(S:List Nd)(p u E:Int)(w:Wd)(T:S.length<=9223372036854775807)(M:Big S)(U:aD w a S)(O:aP S p u=E)(I:E≠0) :
  yO 167 #[.agg #[.slice a S.length c],.agg #[.int .i64 p,.int .i64 u]] w fun e w' => e=.returned (.tuple #[.agg #[.slice none 0 0],.int .i64 E])/\Below w.heap.size w w' := by
 have Z:Hid (∀ W,aD W a S->Calls _ _ _ _ _):=fun W hW=>AU a c S p u E W T M hW O I;have HS:Hid (aD w a S):=U;have hz:(E == 0)=false:=by simp[I]
 clear U O M T;generalize S.length=n at *
 go_enter func167,ntmps167
 go_wp2_with (go_at_call 14;refine(Z _ (HS.below (dC _ _ _ _))).mono ?_;rintro e w1 ⟨rfl,D⟩;simp only[yw] at D;obtain⟨l0,l1,l2,l3,z3⟩:=lL D;have J:=D.size;simp only[yw] at J;have q0:w.heap.size<w1.heap.size:=oaa;have q1:w.heap.size+1<w1.heap.size:=oaa;have q2:w.heap.size+1+1<w1.heap.size:=oaa)
 refine yz (v:=.tuple #[.agg #[.slice none 0 0],.int .i64 E]) (by simp only[results,results167];go_simp) rfl ⟨rfl,?_⟩;have F:Bl w w1:=(dC _ _ _ _).trans (D.mono oaa)
 first|exact(F.setCell oab _).alloc oab _|exact(F.alloc oaa _).setCell oab _|exact F.setCell oab _
theorem Lg(a:OA)(c:Nat)(S:List Nd)(k:Nat)(u:Int)(w:Wd)(hN:S.length<=9223372036854775807)(hB:Big S)(hS:aD w a S)(hk:k<S.length)(hF:aP S k u=0)(hK:(nd S k).ks.length<=1000000)(hT:¬ nP S k) :
  yO 167 #[.agg #[.slice a S.length c],.agg #[.int .i64 k,.int .i64 u]] w fun e w' => e=.returned (.tuple #[.agg #[.slice none 0 0],.int .i64 6])/\Below w.heap.size w w' := by
 have D1:Hid (∀ W,aD W a S->Calls _ _ _ _ _):=fun W hW=>find_ok a c S k u W oaa hB hW hk hF hK;obtain⟨r,hr⟩:∃ r,bA (nd S k)=r:=⟨_,rfl⟩;obtain⟨b0,a9⟩:∃ b,iD S k=b:=⟨_,rfl⟩;have d2:=fun(v:Value) W=>IA (nd S k) v W;rw[show (if (nd S k).h = -1 then (nd S k).p else (nd S k).h)=r from hr] at d2;have D2:Hid _:=d2;have d3:=fun W hW=>xD a c S (k:Int) W oaa hW oaa;rw[a9] at d3;have D3:Hid _:=d3;have HS:Hid (aD w a S):=hS
 have b1:r≠-1\/(r = -1/\(nd S k).ks.length≠0)\/(r = -1/\(nd S k).ks.length=0/\b0=true):=by
  unfold nP at hT;rw[hr,a9] at hT;by_cases h1:r = -1
  ·by_cases h2:(nd S k).ks=[]
   ·refine Or.inr (Or.inr ⟨h1,by rw[h2];rfl,?_⟩)
    cases b0 with
    | true=>rfl
    | false=>exact absurd ⟨h1,h2,rfl⟩ hT
   ·refine Or.inr (Or.inl ⟨h1,fun h=>h2 (List.length_eq_zero_iff.1 h)⟩)
  ·exact Or.inl h1
 clear hS d2 d3 hF hB hT hr a9;generalize nd S k=x at *;obtain⟨xu,xn,xt,xm,xp,b2,xh,xc⟩:=x;dsimp only at *;generalize b2.length=L at *;generalize S.length=n at *;rcases b1 with h1 |⟨rfl,h2⟩ |⟨rfl,rfl,rfl⟩
 ·have hz:(r == -1)=false:=by simp[h1]
  go_enter func167,ntmps167
  go_wp2_with (go_at_call 14;refine(D1 _ (HS.below (dC _ _ _ _))).mono ?_;rintro e w1 ⟨kg,rfl,D,U⟩;clear U;simp only[yw] at D;obtain⟨Z,l1,l2,l3,z3⟩:=lL D;have J:=D.size;simp only[yw] at J;have q0:w.heap.size<w1.heap.size:=oaa;have q1:w.heap.size+1<w1.heap.size:=oaa;have q2:w.heap.size+1+1<w1.heap.size:=oaa)
  refine(D2 _ _).mono ?_;rintro e w2 ⟨rfl,F⟩;simp only[yw] at F;obtain⟨E,n0,n1,n2,n3,n4,n5,n6,n7⟩:=sJ D J F;have O:=F.size;simp only[yw] at O;clear Z l1 l2 l3 z3;obtain⟨Z,l1,l2,l3,z3⟩:=lL E;have I:Hid (Bl w w2):=(dC _ _ _ _).trans (E.mono oaa);have a8:Hid _:=D;have a5:Hid _:=F;have q3:w1.heap.size<w2.heap.size:=oaa
  clear D F E
  go_wp2
  refine yz (v:=.tuple #[.agg #[.slice none 0 0],.int .i64 6]) (by simp only[results,results167];go_simp) rfl ⟨rfl,?_⟩
  first|exact I.setCell oab _|exact(I.setCell oab _).drew|exact(I.alloc oab _).setCell oab _|exact(I.setCell oab _).alloc oab _
 ·have hz:decide ((0:Int)<(L:Int))=true:=yI oaa;have b5:(0:Int)<(L:Int):=oaa
  go_enter func167,ntmps167
  go_wp2_with (go_at_call 14;refine(D1 _ (HS.below (dC _ _ _ _))).mono ?_;rintro e w1 ⟨kg,rfl,D,U⟩;clear U;simp only[yw] at D;obtain⟨Z,l1,l2,l3,z3⟩:=lL D;have J:=D.size;simp only[yw] at J;have q0:w.heap.size<w1.heap.size:=oaa;have q1:w.heap.size+1<w1.heap.size:=oaa;have q2:w.heap.size+1+1<w1.heap.size:=oaa)
  refine(D2 _ _).mono ?_;rintro e w2 ⟨rfl,F⟩;simp only[yw] at F;obtain⟨E,n0,n1,n2,n3,n4,n5,n6,n7⟩:=sJ D J F;have O:=F.size;simp only[yw] at O;clear Z l1 l2 l3 z3;obtain⟨Z,l1,l2,l3,z3⟩:=lL E;have I:Hid (Bl w w2):=(dC _ _ _ _).trans (E.mono oaa);have a8:Hid _:=D;have a5:Hid _:=F;have q3:w1.heap.size<w2.heap.size:=oaa
  clear D F E
  go_wp2
  refine yz (v:=.tuple #[.agg #[.slice none 0 0],.int .i64 6]) (by simp only[results,results167];go_simp) rfl ⟨rfl,?_⟩
  first|exact I.setCell oab _|exact(I.setCell oab _).drew|exact(I.alloc oab _).setCell oab _|exact(I.setCell oab _).alloc oab _
 ·go_enter func167,ntmps167
  go_wp2_with (go_at_call 14;refine(D1 _ (HS.below (dC _ _ _ _))).mono ?_;rintro e w1 ⟨kg,rfl,D,U⟩;clear U;simp only[yw] at D;obtain⟨Z,l1,l2,l3,z3⟩:=lL D;have J:=D.size;simp only[yw] at J;have q0:w.heap.size<w1.heap.size:=oaa;have q1:w.heap.size+1<w1.heap.size:=oaa;have q2:w.heap.size+1+1<w1.heap.size:=oaa)
  refine(D2 _ _).mono ?_;rintro e w2 ⟨rfl,F⟩;simp only[yw] at F;obtain⟨E,n0,n1,n2,n3,n4,n5,n6,n7⟩:=sJ D J F;have O:=F.size;simp only[yw] at O;clear Z l1 l2 l3 z3;obtain⟨Z,l1,l2,l3,z3⟩:=lL E;have I:Hid (Bl w w2):=(dC _ _ _ _).trans (E.mono oaa);have a8:Hid _:=D;have a5:Hid _:=F;have q3:w1.heap.size<w2.heap.size:=oaa
  clear D F E
  go_wp2_with fail
  refine(D3 _ (HS.below I)).mono ?_;rintro e w3 ⟨rfl,a6⟩;have b4:=a6.size;have M:Hid (Bl w w3):=I.trans (a6.mono (by have:=I.size;omega));have T:=a5.trans (a6.mono O);clear Z l1 l2 l3 z3 n0 n1 n2 n3 n4 n5 n6 n7 a6 a5;obtain⟨a7,n0,n1,n2,n3,n4,n5,n6,n7⟩:=sJ a8.out J T;obtain⟨Z,l1,l2,l3,z3⟩:=lL a7;have r1:w1.heap.size<w3.heap.size:=oaa
  have r2:w.heap.size<w3.heap.size:=oaa
  have r3:w.heap.size+1<w3.heap.size:=oaa
  have r4:w.heap.size+1+1<w3.heap.size:=oaa
  have b3:Hid _:=T;clear a7 T
  go_wp2
  refine yz (v:=.tuple #[.agg #[.slice none 0 0],.int .i64 6]) (by simp only[results,results167];go_simp) rfl ⟨rfl,?_⟩
  first|exact M.setCell oab _|exact(M.setCell oab _).drew|exact(M.alloc oab _).setCell oab _|exact(M.setCell oab _).alloc oab _
theorem pJ{w:Wd}{n:Nat}{p u:Int}(hb:Below (w.heap.size+1+1+1+1) ((((w.alloc (.cells #[.slice a n c] 43)).alloc (.cells #[.int .i64 p,.int .i64 u] 61)).alloc (.cells #[.slice none 0 0] 43)).alloc (.cells #[.int .i64 0,.int .i64 0] 61)) w1) :
  w1.cell? ⟨w.heap.size,0,none⟩=some (.slice a n c)/\w1.cell? ⟨w.heap.size+1,0,none⟩=some (.int .i64 p)/\w1.cell? ⟨w.heap.size+1,1,none⟩=some (.int .i64 u)/\w1.cell? ⟨w.heap.size+1+1,0,none⟩=some (.slice none 0 0)/\w1.cell? ⟨w.heap.size+1+1+1,0,none⟩=some (.int .i64 0)/\w1.cell? ⟨w.heap.size+1+1+1,1,none⟩=some (.int .i64 0)/\(∀ o,w1.frozen? ⟨w.heap.size+1+1,o,none⟩=false)/\(∀ o,w1.frozen? ⟨w.heap.size+1+1+1,o,none⟩=false):=by
 refine⟨?_,?_,?_,?_,?_,?_,fun o=>?_,fun o=>?_⟩
 all_goals first|exact(hb.cell oag).trans oaf|exact(hb.frozen oag).trans oaf
theorem Lj(a:OA)(c:Nat)(S:List Nd)(k f:Nat)(u:Int)(cl:Bool)(w:Wd)(wf:WF S)(hS:aD w a S)(hk:k<S.length)(hE:aP S k u=0)(hH:iD S k=false)(hf:f<S.length)(b2:dI (nd S f)=true)(T:∀ i,i<f->dI (nd S i)=false) :
  yO 193 #[.agg #[.slice a S.length c],.agg #[.int .i64 (k:Int),.int .i64 u],.bool cl] w fun e w' => ∃ g,e=.returned (.tuple #[.agg #[.slice (some ⟨g,0,none⟩) S.length S.length],.agg #[.int .i64 (f:Int),.int .i64 ((nd S f).n+1)],.int .i64 0])/\Below w.heap.size w w' /\ w.heap.size<=g/\iY w' g (S.set f (fJ (nd S f) k cl)):=by
 have hN:=wf.small;have D0:Hid (∀ W,aD W a S->Calls _ _ _ _ _):=fun W hW=>find_ok a c S k u W oaa wf.big hW hk hE (by have:=wf.kids_small hk;omega);have d1:=fun W hW=>xD a c S (k:Int) W oaa hW oaa;rw[hH] at d1;have D1:Hid _:=d1;have D2:Hid (∀ W,aD W a S->Calls _ _ _ _ _):=fun W hW=>RN a c S 0 W hN (fun i hi=>by have:=wf.kids_small hi;omega) hW ((mU _).2 wf) oaa oaa f hf b2 (wf.uses hf).1 T;have HS:Hid (aD w a S):=hS
 have RT:Hid (∀ W g,iY W g (S.set f (fI (nd S f) 0))->iY ((W.setCell ⟨g,f*8+6,none⟩ (.int .i64 (k:Int))).setCell ⟨g,f*8+7,none⟩ (.bool cl)) g (S.set f (fJ (nd S f) k cl))):=fun W g h=>by
  have h2:=h.root (k:=f) (by simpa using hf) (k:Int) cl;rw[iQ S f f _ hf,ye rfl,List.set_set] at h2;exact h2
 have RC:Hid (∀ W g,iY W g (S.set f (fI (nd S f) 0))->g<W.heap.size/\(∀ o,W.frozen? ⟨g,o,none⟩=false)/\(∃ v6 v7,W.cell? ⟨g,f*8+6,none⟩=some v6/\W.cell? ⟨g,f*8+7,none⟩=some v7)):=fun W g ⟨F,hF,_⟩=>by
  rw[List.length_set] at hF;exact⟨hF.lt,hF.frozen,_,_,hF.cell oaa,hF.cell oaa⟩
 have b8:(f:Int)<(S.length:Int):=oaa
 have b9:decide ((f:Int)<0)=false:=yH oaa;clear hS wf hE hH b2 T d1;obtain⟨x0,b3⟩:∃ x,nd S k=x:=⟨_,rfl⟩;rw[b3] at D0;clear b3;obtain⟨S1,b0⟩:∃ S1,S.set f (fI (nd S f) 0)=S1:=⟨_,rfl⟩;obtain⟨S2,b1⟩:∃ S2,S.set f (fJ (nd S f) k cl)=S2:=⟨_,rfl⟩;rw[b0] at D2 RT RC;rw[b1] at RT |-;clear b0 b1;generalize (nd S f).n=nf at *;generalize S.length=n at *
 go_enter func193,ntmps193
 go_wp2_with fail
 refine yj (D0 _ (HS.below (fB _ _ _ _ _))) ?_;rintro e w2 ⟨fg,rfl,J,_⟩;simp only[yw] at J;have a7:Hid (Below (w.heap.size+1+1+1+1) ((((w.alloc (.cells #[.slice a n c] 43)).alloc (.cells #[.int .i64 (k:Int),.int .i64 u] 61)).alloc (.cells #[.slice none 0 0] 43)).alloc (.cells #[.int .i64 0,.int .i64 0] 61)) w2):=J;have b6:=J.size;simp only[yw] at b6;obtain⟨l0,l1,l2,l3,l4,l5,l6,l7⟩:=pJ J;have BW:Hid (∀ W,Below (w.heap.size+1+1+1+1) ((((w.alloc (.cells #[.slice a n c] 43)).alloc (.cells #[.int .i64 (k:Int),.int .i64 u] 61)).alloc (.cells #[.slice none 0 0] 43)).alloc (.cells #[.int .i64 0,.int .i64 0] 61)) W->Bl w W):=fun W h=>(fB _ _ _ _ _).trans (h.mono oaa);clear J;have q0:w.heap.size<w2.heap.size:=oaa
 have q1:w.heap.size+1<w2.heap.size:=oaa
 go_wp2_with fail
 refine yj (D1 _ (HS.below (BW _ (a7.alloc oaa _)))) ?_;rintro e w3 ⟨rfl,M⟩;simp only[yw] at M;have U:Hid (Below (w.heap.size+1+1+1+1) ((((w.alloc (.cells #[.slice a n c] 43)).alloc (.cells #[.int .i64 (k:Int),.int .i64 u] 61)).alloc (.cells #[.slice none 0 0] 43)).alloc (.cells #[.int .i64 0,.int .i64 0] 61)) w3):=(a7.alloc oaa _).trans (M.mono oaa);have b7:=M.size;simp only[yw] at b7;clear M l0 l1 l2 l3 l4 l5 l6 l7;obtain⟨l0,l1,l2,l3,l4,l5,l6,l7⟩:=pJ U.out
 go_wp2_with fail
 refine yj (D2 _ (HS.below (BW _ U.out))) ?_;rintro e I ⟨g,rfl,a6,c6,a5⟩;have Z:Hid (Below (w.heap.size+1+1+1+1) ((((w.alloc (.cells #[.slice a n c] 43)).alloc (.cells #[.int .i64 (k:Int),.int .i64 u] 61)).alloc (.cells #[.slice none 0 0] 43)).alloc (.cells #[.int .i64 0,.int .i64 0] 61)) I):=U.trans (a6.mono oaa);have c8:=a6.size;clear a6 l0 l1 l2 l3 l4 l5 l6 l7;obtain⟨l0,l1,l2,l3,l4,l5,l6,l7⟩:=pJ Z.out;obtain⟨c7,b5,v6,v7,d6,d7⟩:=RC.out _ _ a5;have a9:Hid (iY I g S1):=a5;have e1:¬ g=w.heap.size+1:=oaa
 have e2:¬ w.heap.size+1=g:=oaa
 have e3:¬ g=w.heap.size+1+1:=oaa
 have e4:¬ w.heap.size+1+1=g:=oaa
 have e5:¬ g=w.heap.size+1+1+1:=oaa
 have e6:¬ w.heap.size+1+1+1=g:=oaa
 have q2:w.heap.size+1<I.heap.size:=oaa
 have q3:w.heap.size+1+1<I.heap.size:=oaa
 have q4:w.heap.size+1+1+1<I.heap.size:=oaa
 have q5:w.heap.size<I.heap.size:=oaa
 clear a5 D0 D1 D2
 go_wp2_with fail
 first
  |(obtain⟨E,D⟩:∃ E,E=((((I.setCell ⟨g,f*8+6,none⟩ (.int .i64 (k:Int))).setCell ⟨g,f*8+7,none⟩ (.bool cl)).alloc (.cells #[.slice (some ⟨g,0,none⟩) n n] 43)).alloc (.cells #[.int .i64 (f:Int),.int .i64 (nf+1)] 61)):=⟨_,rfl⟩;rw[<- D])
  |(obtain⟨E,D⟩:∃ E,E=((((I.alloc (.cells #[.slice (some ⟨g,0,none⟩) n n] 43)).alloc (.cells #[.int .i64 (f:Int),.int .i64 (nf+1)] 61)).setCell ⟨g,f*8+6,none⟩ (.int .i64 (k:Int))).setCell ⟨g,f*8+7,none⟩ (.bool cl)):=⟨_,rfl⟩;rw[<- D])
 have b4:Hid (iY E g S2):=by
  rw[D]
  first
   | exact(RT I g a9.out).up (fun b _ O=>(((yv _ _).alloc (yr _) _).alloc oac _).block b O)
   | exact RT.out _ g (a9.up (fun b _ O=>(((yv _ _).alloc (yr _) _).alloc oac _).block b O))
 have c9:E.heap.size=I.heap.size+1+1:=by rw[D];simp
 have a8:Hid (Bl w E):=by
  rw[D]
  first
   | exact((((BW _ Z.out).setCell oab _).setCell oab _).alloc oab _).alloc oab _
   | exact((((BW _ Z.out).alloc oaa _).alloc oab _).setCell oab _).setCell oab _
 have y0:E.cell? ⟨I.heap.size,0,none⟩=some (.slice (some ⟨g,0,none⟩) n n):=by rw[D];go_simp
 have y1:E.cell? ⟨I.heap.size+1,0,none⟩=some (.int .i64 (f:Int)):=by rw[D];go_simp
 have y2:E.cell? ⟨I.heap.size+1,1,none⟩=some (.int .i64 (nf+1)):=by rw[D];go_simp
 have y3:E.cell? ⟨w.heap.size+1+1,0,none⟩=some (.slice none 0 0):=by rw[D];go_simp
 have y4:E.cell? ⟨w.heap.size+1+1+1,0,none⟩=some (.int .i64 0):=by rw[D];go_simp
 have y5:E.cell? ⟨w.heap.size+1+1+1,1,none⟩=some (.int .i64 0):=by rw[D];go_simp
 have y6:∀ o,E.frozen? ⟨w.heap.size+1+1,o,none⟩=false:=fun o=>by rw[D];go_simp
 have y7:∀ o,E.frozen? ⟨w.heap.size+1+1+1,o,none⟩=false:=fun o=>by rw[D];go_simp
 have z1:I.heap.size<E.heap.size:=oaa
 have z2:I.heap.size+1<E.heap.size:=oaa
 have z3:w.heap.size+1+1<E.heap.size:=oaa
 have z4:w.heap.size+1+1+1<E.heap.size:=oaa
 have z5:¬ I.heap.size=w.heap.size+1+1:=oaa
 have z6:¬ I.heap.size+1=w.heap.size+1+1:=oaa
 have z7:¬ I.heap.size=w.heap.size+1+1+1:=oaa
 have z8:¬ I.heap.size+1=w.heap.size+1+1+1:=oaa
 clear D l0 l1 l2 l3 l4 l5 l6 l7 d6 d7 b5
 go_region
 all_goals (try go_wp2)
 all_goals
  refine yz (v:=.tuple #[.agg #[.slice (some ⟨g,0,none⟩) n n],.agg #[.int .i64 (f:Int),.int .i64 (nf+1)],.int .i64 0]) (by simp[results,results193,go_sem,y3,y4,y5]) rfl ⟨g,rfl,?_,oaa,?_⟩
  ·first
    | exact(((a8.setCell oab _).setCell oab _).setCell oab _).drew
    | exact((a8.setCell oab _).setCell oab _).setCell oab _
  ·refine b4.up (fun b hb O=>?_)
   first
    | rw[heap_drew,yx _ _ _ _ (by show b≠w.heap.size+1+1+1;omega),yx _ _ _ _ (by show b≠w.heap.size+1+1+1;omega),yx _ _ _ _ (by show b≠w.heap.size+1+1;omega)]
    | rw[yx _ _ _ _ (by show b≠w.heap.size+1+1+1;omega),yx _ _ _ _ (by show b≠w.heap.size+1+1+1;omega),yx _ _ _ _ (by show b≠w.heap.size+1+1;omega)]
def jD(w:Wd)(a:OA)(C:List (List Cl)):Prop :=
 ∀ i,i<C.length->∃ b o ga gc,a=some ⟨b,o,none⟩/\w.cell? ⟨b,o+i,none⟩=some (.slice ga (gr C i).length gc)/\aO w ga (gr C i)
theorem jD.below{C:List (List Cl)}(h:jD w a C)(hb:Bl w w'):jD w' a C:=fun i hi=>by
 obtain⟨b,o,ga,gc,e,h1,D⟩:=h i hi;exact⟨b,o,ga,gc,e,aA h1 hb,D.below hb⟩
theorem LM(w:Wd):jD w none []:=fun i hi=>absurd hi (yB _)
def mK(C:List (List Cl)):Prop:=∀ i,i<C.length->(gr C i).length<=9223372036854775807/\fK (gr C i)
def kQ(w:Wd)(a:OA)(c:Nat)(C:List (List Cl)):Prop:=((a=none->c=0)/\C.length<=c/\c<=9223372036854775807)/\jD w a C
theorem kQ.below{C:List (List Cl)}(h:kQ w a c C)(hb:Bl w w'):kQ w' a c C:=⟨h.1,h.2.below hb⟩
def vL(w:Wd)(b o:Nat)(x:Pt):Prop :=
 w.cell? ⟨b,o,none⟩=some (.int .i64 x.o)/\w.cell? ⟨b,o+1,none⟩=some (.int .i64 x.t)/\w.cell? ⟨b,o+2,none⟩=some (.int .i64 x.m)/\∃ D E,w.cell? ⟨b,o+3,none⟩=some (.slice D x.cm.length E)/\kQ w D E x.cm/\w.cell? ⟨b,o+4,none⟩=some (.bool x.s)
theorem vL.below{b o:Nat}{x:Pt}(h:vL w b o x)(hb:Bl w w'):vL w' b o x:=by
 obtain⟨c0,c1,c2,D,E,c3,hg,c4⟩:=h;exact⟨aA c0 hb,aA c1 hb,aA c2 hb,D,E,aA c3 hb,hg.below hb,aA c4 hb⟩
def cK(w:Wd)(a:OA)(L:List Pt):Prop :=
 ∀ i,i<L.length->∃ b o,a=some ⟨b,o,none⟩/\vL w b (o+i*5) (pt L i)
theorem cK.below{L:List Pt}(h:cK w a L)(hb:Bl w w'):cK w' a L:=fun i hi=>by
 obtain⟨b,o,e,hn⟩:=h i hi;exact⟨b,o,e,hn.below hb⟩
theorem Mh(w:Wd):cK w none []:=fun i hi=>absurd hi (yB _)
def iH(L:List Pt):Prop:=∀ i,i<L.length->(pt L i).cm.length<=9223372036854775807/\mK (pt L i).cm
def LP(K:Nat):Prop:=∀ (x y:List Cl) (ka D:OA) (kc E:Nat) (W:Wd),x.length<=9223372036854775807->fK x->aO W ka x->aO W D y ->
 yO K #[.agg #[.slice ka x.length kc],.agg #[.slice D y.length E]] W fun e w' => ∃ r:Bool,e=.returned (.bool r)/\Below W.heap.size W w' /\(r=true↔x=y)
def LQ(K:Nat):Prop:=∀ (x y:Pt) (ka D:OA) (kc E:Nat) (W:Wd),x.cm.length<=9223372036854775807->mK x.cm->jD W ka x.cm->jD W D y.cm ->
 yO K #[.agg #[.int .i64 x.o,.int .i64 x.t,.int .i64 x.m,.slice ka x.cm.length kc,.bool x.s],.agg #[.int .i64 y.o,.int .i64 y.t,.int .i64 y.m,.slice D y.cm.length E,.bool y.s]] W fun e w' => ∃ r:Bool,e=.returned (.bool r)/\Below W.heap.size W w' /\(r=true↔x=y)
theorem Mi(K:Nat)(eg:∀ args w,(callFunc K args).run prog w=.ok (.enter K args) w)(hK:LP K)(a a' :OA)(c c' : Nat)(S D:List (List Cl))(w:Wd)(hN:S.length<=9223372036854775807)(hB:mK S)(h1:jD w a S)(h2:jD w a' D) :
  yO 92 #[.slice a S.length c,.slice a' D.length c', .func (.func K) #[] #[]] w fun e w' => ∃ r:Bool,e=.returned (.bool r)/\Below w.heap.size w w' /\(r=true↔S=D):=by
 by_cases hl:S.length=D.length
 ·have E1:Hid ((∀ i,i<S.length->gr S i=gr D i)->S=D):=fun h=>Jr hl h;have E2:Hid (∀ i,gr S i≠gr D i->S≠D):=fun i h e=>h (by rw[e]);have H1:Hid (jD w a S):=h1;have H2:Hid (jD w a' D):=h2;have HB:Hid (mK S):=hB;have HK:Hid (LP K):=hK;have HL:Hid (D.length=S.length):=hl.symm;rw[<- hl];clear h1 h2 hB hl hK;generalize hn:S.length=n at *;have T:Hid _:=hn;clear hn
  go_enter func92,ntmps92
  go_wp2
  go_loopg [17] n (fun g s17 wr=>∃ k:Nat,k<=n/\n-k<=g/\s17=.int .i64 k/\Below w.heap.size w wr/\Hid (∀ i,i<k->gr S i=gr D i))
  case atStart=>exact⟨0,oaa,oaa,rfl,yv _ _,fun i hi=>oaa⟩
  case round =>
   obtain⟨k,hk,hg,rfl,hb,A⟩:=hrel;by_cases E:k<n
   ·have a8:(k:Int)<(n:Int):=oaa;obtain⟨b,o,ka,kc,rfl,c0,I⟩:=(H1.below hb) k (by rw[T.out];exact E);obtain⟨b', o', a5,a6,rfl,e0,J⟩:=(H2.below hb) k (by rw[HL.out];exact E);have a9:=yi _ _ c0;have a7:=yi _ _ e0;have d1:=fun o1 o2=>HK.out (gr S k) (gr D k) ka a5 kc a6 ((wr.alloc o1).alloc o2) (HB k (by rw[T.out];exact E)).1 (HB k (by rw[T.out];exact E)).2 (I.below (aM _ _ _)) (J.below (aM _ _ _));have O:Hid _:=E2.out k
    have KK:Hid (gr S k=gr D k->∀ i,i<k+1->gr S i=gr D i):=fun h i hi=>by
     by_cases e:i=k
     ·subst e;exact h
     ·exact A.out i oaa
    clear I J;have D1:Hid _:=d1;clear d1;generalize gr S k=x at *;generalize gr D k=y at *
    go_wp2_with fail
    refine(D1 _ _).mono ?_;rintro e w3 ⟨r,rfl,F,M⟩
    cases r with
    | true =>
     have Z:Hid _:=M.1 rfl;clear M
     go_wp2
     go_roundg (n-(k+1))
     case measure=>omega
     case rel=>exact⟨k+1,oaa,oaa,by go_num,(hb.trans ((aM _ _ _).mono hb.size)).trans (F.mono (by simp;have:=hb.size;omega)),KK.out Z.out⟩
    | false =>
     have Z:Hid (S≠D):=O.out fun e=>by have:=M.2 e;cases this
     clear M
     go_wp2
     go_ret;exact⟨false,rfl,(hb.trans ((aM _ _ _).mono hb.size)).trans (F.mono (by simp;have:=hb.size;omega)),⟨fun h=>oah,fun h=>absurd h Z.out⟩⟩
   ·have:k=n:=oaa;subst this
    go_wp2
    go_ret;exact⟨true,rfl,hb,⟨fun _=>E1.out A.out,fun _=>rfl⟩⟩
 ·have b0:¬ ((S.length:Int)=(D.length:Int)):=oaa
  have U:Hid (S≠D):=fun e=>hl (by rw[e]);clear h1 h2 hB hK;generalize S.length=n at *;generalize D.length=n' at *
  go_enter func92,ntmps92
  go_wp2
  go_ret;exact⟨false,rfl,yv _ _,⟨fun h=>oah,fun h=>absurd h U.out⟩⟩
theorem Mj(K:Nat)(eg:∀ args w,(callFunc K args).run prog w=.ok (.enter K args) w)(hK:LQ K)(a a' :OA)(c c' : Nat)(S D:List Pt)(w:Wd)(hN:S.length<=9223372036854775807)(hB:iH S)(h1:cK w a S)(h2:cK w a' D) :
  yO 59 #[.slice a S.length c,.slice a' D.length c', .func (.func K) #[] #[]] w fun e w' => ∃ r:Bool,e=.returned (.bool r)/\Below w.heap.size w w' /\(r=true↔S=D):=by
 by_cases hl:S.length=D.length
 ·have E1:Hid ((∀ i,i<S.length->pt S i=pt D i)->S=D):=fun h=>Jq hl h;have E2:Hid (∀ i,pt S i≠pt D i->S≠D):=fun i h e=>h (by rw[e]);have H1:Hid (cK w a S):=h1;have H2:Hid (cK w a' D):=h2;have HB:Hid (iH S):=hB;have HK:Hid (LQ K):=hK;have HL:Hid (D.length=S.length):=hl.symm;rw[<- hl];clear h1 h2 hB hl hK;generalize hn:S.length=n at *;have T:Hid _:=hn;clear hn
  go_enter func59,ntmps59
  go_wp2
  go_loopg [17] n (fun g s17 wr=>∃ k:Nat,k<=n/\n-k<=g/\s17=.int .i64 k/\Below w.heap.size w wr/\Hid (∀ i,i<k->pt S i=pt D i))
  case atStart=>exact⟨0,oaa,oaa,rfl,yv _ _,fun i hi=>oaa⟩
  case round =>
   obtain⟨k,hk,hg,rfl,hb,A⟩:=hrel;by_cases E:k<n
   ·have a8:(k:Int)<(n:Int):=oaa;obtain⟨b,o,rfl,c0,c1,c2,ka,kc,c3,⟨_,I⟩,c4⟩:=(H1.below hb) k (by rw[T.out];exact E);obtain⟨b', o', rfl,e0,e1,e2,a5,a6,e3,⟨_,J⟩,e4⟩:=(H2.below hb) k (by rw[HL.out];exact E);have a9:=yi _ _ c0;have a7:=yi _ _ e0;have d1:=fun o1 o2=>HK.out (pt S k) (pt D k) ka a5 kc a6 ((wr.alloc o1).alloc o2) (HB k (by rw[T.out];exact E)).1 (HB k (by rw[T.out];exact E)).2 (I.below (aM _ _ _)) (J.below (aM _ _ _));have O:Hid _:=E2.out k
    have KK:Hid (pt S k=pt D k->∀ i,i<k+1->pt S i=pt D i):=fun h i hi=>by
     by_cases e:i=k
     ·subst e;exact h
     ·exact A.out i oaa
    clear I J;have D1:Hid _:=d1;clear d1;generalize pt S k=x at *;generalize pt D k=y at *
    go_wp2_with fail
    refine(D1 _ _).mono ?_;rintro e w3 ⟨r,rfl,F,M⟩
    cases r with
    | true =>
     have Z:Hid _:=M.1 rfl;clear M
     go_wp2
     go_roundg (n-(k+1))
     case measure=>omega
     case rel=>exact⟨k+1,oaa,oaa,by go_num,(hb.trans ((aM _ _ _).mono hb.size)).trans (F.mono (by simp;have:=hb.size;omega)),KK.out Z.out⟩
    | false =>
     have Z:Hid (S≠D):=O.out fun e=>by have:=M.2 e;cases this
     clear M
     go_wp2
     go_ret;exact⟨false,rfl,(hb.trans ((aM _ _ _).mono hb.size)).trans (F.mono (by simp;have:=hb.size;omega)),⟨fun h=>oah,fun h=>absurd h Z.out⟩⟩
   ·have:k=n:=oaa;subst this
    go_wp2
    go_ret;exact⟨true,rfl,hb,⟨fun _=>E1.out A.out,fun _=>rfl⟩⟩
 ·have b0:¬ ((S.length:Int)=(D.length:Int)):=oaa
  have U:Hid (S≠D):=fun e=>hl (by rw[e]);clear h1 h2 hB hK;generalize S.length=n at *;generalize D.length=n' at *
  go_enter func59,ntmps59
  go_wp2
  go_ret;exact⟨false,rfl,yv _ _,⟨fun h=>oah,fun h=>absurd h U.out⟩⟩
