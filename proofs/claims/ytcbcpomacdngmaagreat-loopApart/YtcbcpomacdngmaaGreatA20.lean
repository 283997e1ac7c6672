/-
  x
-/
import Derived.Test.YtcbcpomacdngmaaGreatA19
namespace Go.Proofs.YtcbcpomacdngmaaGreat
set_option maxRecDepth 100000
set_option maxHeartbeats 4000000
set_option linter.unusedVariables false
open Go.RowKit Go.ChangeShapes Go.WideShapes Tryz
variable{i:Nat}{L M:List Pt}{o F k E:Int}{w' w:World}{a:OA}{T S:List Nd}{x:Pt}
structure Pt where
 o:Int
 t:Int
 m:Int
 cm:List (List Cl)
 s:Bool
 deriving DecidableEq
def UK:Pt:=⟨0,0,0,[],false⟩
def pt(L:List Pt)(i:Nat):Pt:=L.getD i UK
theorem mG(h:i<L.length):pt L i=L[i]:=aJ L UK h
theorem Jo(hl:L.length=M.length)(h:∀ i,i<L.length->pt L i=pt M i):L=M:=by
 apply List.ext_getElem hl;intro i h1 D;have:=h i h1
 rwa [mG h1,mG D] at this
theorem uW(h:i<L.length):pt (L++M) i=pt L i:=by
 rw[mG (by simp;omega),mG h,List.getElem_append_left h]
theorem UL(L:List Pt)(x:Pt):pt (L++[x]) L.length=x:=by
 rw[mG (by simp)];simp
theorem nT{k:Nat}(h:i<L.length):pt (L.set k x) i=if k=i then x else pt L i:=by
 rw[mG (by simpa using h),List.getElem_set];split
 ·rfl
 ·rw[mG h]
def gr(C:List (List Cl))(i:Nat):List Cl:=C.getD i []
theorem qJ{C:List (List Cl)}(h:i<C.length):gr C i=C[i]:=aJ C [] h
theorem Jp{C D:List (List Cl)}(hl:C.length=D.length)(h:∀ i,i<C.length->gr C i=gr D i):C=D:=by
 apply List.ext_getElem hl;intro i h1 E;have:=h i h1
 rwa [qJ h1,qJ E] at this
theorem KC{C D:List (List Cl)}(h:i<C.length):gr (C++D) i=gr C i:=by
 rw[qJ (by simp;omega),qJ h,List.getElem_append_left h]
theorem KD(C:List (List Cl))(g:List Cl):gr (C++[g]) C.length=g:=by
 rw[qJ (by simp)];simp
theorem KE(C:List (List Cl))(h:i+1<C.length):gr (C.drop 1) i=gr C (i+1):=by
 rw[qJ (by simp;omega),qJ h];simp
def fM:List (List Cl)->Int
 | []=>0
 | g :: l=>if bF g=0 then fM l else bF g
def fO(L:List Pt)(F:Int)(i:Nat):Int :=
 if ¬ (0<=(pt L i).o/\(pt L i).o<F)\/¬ (0<=(pt L i).m/\(pt L i).m<=(L.length:Int)-1) then 4
 else if (pt L i).m=i\/(pt L (pt L i).m.toNat).m≠i then 3
 else if ¬ (0<=(pt L i).t/\(pt L i).t<=1000) then 2
 else if 16<(pt L i).cm.length\/(0<(pt L i).cm.length/\(pt L i).s=true) then 1
 else fM (pt L i).cm
def rX(L:List Pt)(F:Int):Nat->Nat->Int
 | _,0=>0
 | i,n+1=>if fO L F i=0 then rX L F (i+1) n else fO L F i
def jP(L:List Pt)(F:Int)(i:Nat):Int:=rX L F i (L.length-i)
def dK(L:List Pt)(F:Int):Int:=if 12<L.length then 1 else jP L F 0
theorem Jq(h:i<L.length):jP L F i=if fO L F i=0 then jP L F (i+1) else fO L F i:=by
 unfold jP;obtain⟨n,hn⟩:∃ n,L.length-i=n+1:=⟨L.length-i-1,by omega⟩;rw[hn,rX,show L.length-(i+1)=n by omega]
theorem Jr(h:L.length<=i):jP L F i=0:=by
 unfold jP;rw[show L.length-i=0 by omega,rX]
structure gJ (L:List Pt) (F:Int):Prop where
 few:L.length<=12
 ok:∀ i,i<L.length->fO L F i=0
theorem UM:∀ n i,rX L F i n=0↔∀ j,i<=j->j<i+n->fO L F j=0
 | 0,i=>by simp[rX];omega
 | n+1,i=>by
  rw[rX];by_cases h:fO L F i=0
  ·rw[ye h,UM n (i+1)];constructor
   ·intro H j h1 D;by_cases e:j=i
    ·rw[e];exact h
    ·exact H j (by omega) (by omega)
   ·intro H j h1 D;exact H j (by omega) (by omega)
  ·rw[yd h];constructor
   ·intro H;exact absurd H h
   ·intro H;exact H i (yr _) (by omega)
theorem qK:dK L F=0↔gJ L F:=by
 unfold dK jP;by_cases h:12<L.length
 ·rw[ye h];exact⟨fun e=>by omega,fun R=>absurd R.few (by omega)⟩
 ·rw[yd h,UM];exact⟨fun H=>⟨by omega,fun i hi=>H i (by omega) (by omega)⟩,fun R j _ D=>R.ok j (by omega)⟩
theorem rY:∀ {C:List (List Cl)},fM C=0↔∀ i,i<C.length->Right (gr C i)
 | []=>by simp[fM]
 | g :: l=>by
  rw[fM];by_cases h:bF g=0
  ·rw[ye h,rY];constructor
   ·intro H i hi
    cases i with
    | zero=>exact pE.1 h
    | succ i=>exact H i (by simpa using hi)
   ·intro H i hi;exact H (i+1) (by simpa using hi)
  ·rw[yd h];constructor
   ·intro H;exact absurd H h
   ·intro H;exact pE.2 (H 0 (by simp))
theorem kH:fO L F i=0↔(0<=(pt L i).o/\(pt L i).o<F)/\(0<=(pt L i).m/\(pt L i).m<=(L.length:Int)-1)/\((pt L i).m≠i/\(pt L (pt L i).m.toNat).m=i)/\(0<=(pt L i).t/\(pt L i).t<=1000)/\((pt L i).cm.length<=16/\((pt L i).s=true->(pt L i).cm.length=0))/\fM (pt L i).cm=0:=by
 unfold fO;by_cases h1:¬ (0<=(pt L i).o/\(pt L i).o<F)\/¬ (0<=(pt L i).m/\(pt L i).m<=(L.length:Int)-1)
 ·rw[ye h1];exact⟨fun e=>by omega,fun⟨a,b,_⟩=>by rcases h1 with h|h;exact absurd a h;exact absurd b h⟩
 ·rw[yd h1];have J:0<=(pt L i).o/\(pt L i).o<F:=Classical.byContradiction fun h=>h1 (Or.inl h);have M:0<=(pt L i).m/\(pt L i).m<=(L.length:Int)-1:=Classical.byContradiction fun h=>h1 (Or.inr h);by_cases D:(pt L i).m=i\/(pt L (pt L i).m.toNat).m≠i
  ·rw[ye D];exact⟨fun e=>by omega,fun⟨_,_,c,_⟩=>by rcases D with h|h;exact absurd h c.1;exact absurd c.2 h⟩
  ·rw[yd D];have O:(pt L i).m≠i:=fun h=>D (Or.inl h);have T:(pt L (pt L i).m.toNat).m=i:=Classical.byContradiction fun h=>D (Or.inr h);by_cases I:0<=(pt L i).t/\(pt L i).t<=1000
   ·rw[yd (yL I)];by_cases E:16<(pt L i).cm.length\/(0<(pt L i).cm.length/\(pt L i).s=true)
    ·rw[ye E];refine⟨fun e=>by omega,fun⟨_,_,_,_,e,_⟩=>?_⟩;rcases E with h|h
     ·omega
     ·have:=e.2 h.2;omega
    ·rw[yd E]
     have U:(pt L i).cm.length<=16:=by
      by_cases h:16<(pt L i).cm.length
      ·exact absurd (Or.inl h) E
      ·omega
     have Z:(pt L i).s=true->(pt L i).cm.length=0:=fun hs=>by
      by_cases h:0<(pt L i).cm.length
      ·exact absurd (Or.inr ⟨h,hs⟩) E
      ·omega
     exact⟨fun e=>⟨J,M,⟨O,T⟩,I,⟨U,Z⟩,e⟩,fun h=>h.2.2.2.2.2⟩
   ·rw[ye I];exact⟨fun e=>by omega,fun⟨_,_,_,d,_⟩=>absurd d I⟩
def fU(L:List Pt)(F o t:Int):Int:=if dK L F≠0 then dK L F else if ¬ (0<=o/\o<F) then 4 else if ¬ (0<=t/\t<=1000) then 2 else if 10<L.length then 1 else 0
def bJ(L:List Pt)(o t:Int):List Pt:=L++[⟨o,t,(L.length:Int)+1,[],false⟩,⟨o,t,(L.length:Int),[],false⟩]
def jB(L:List Pt)(F o t:Int):List Pt:=if fU L F o t=0 then bJ L o t else []
def mX(L:List Pt)(F o t:Int):Int:=if fU L F o t=0 then (L.length:Int) else 0
def aX(L:List Pt)(F k o t:Int):Int:=if dK L F≠0 then dK L F else if ¬ (0<=k/\k<(L.length:Int)) then 4 else if (pt L k.toNat).o≠o\/(pt L k.toNat).t≠t then 7 else if (pt L k.toNat).s=true then 5 else 0
def kI(L:List Pt)(F k o t D th:Int):Int:=if aX L F k o t≠0 then aX L F k o t else if ¬ (0<=D/\D<F) then 4 else if ¬ (0<=th/\th<=1000) then 2 else 0
def kJ(L:List Pt)(k D th:Int):List Pt:=L.set k.toNat { pt L k.toNat with o:=D,t:=th }
def uX(L:List Pt)(F k o t D th:Int):List Pt:=if kI L F k o t D th=0 then kJ L k D th else []
def kK(L:List Pt)(k:Int):Pt:=pt L (pt L k.toNat).m.toNat
def iU(L:List Pt)(F k o t:Int)(g:List Cl):Int:=if aX L F k o t≠0 then aX L F k o t else if bF g≠0 then bF g else if (kK L k).s=true then 5 else if (kK L k).cm.length=16 then 1 else 0
def lD(L:List Pt)(k:Int)(g:List Cl):List Pt:=L.set (pt L k.toNat).m.toNat { kK L k with cm:=(kK L k).cm++[bL g] }
def uY(L:List Pt)(F k o t:Int)(g:List Cl):List Pt:=if iU L F k o t g=0 then lD L k g else []
def gK(L:List Pt)(F k o t:Int):Int:=if aX L F k o t≠0 then aX L F k o t else if (pt L k.toNat).cm.length=0 then 8 else 0
def jQ(L:List Pt)(k:Int):List Pt:=L.set k.toNat { pt L k.toNat with cm:=(pt L k.toNat).cm.drop 1 }
def uZ(L:List Pt)(F k o t:Int):List Pt:=if gK L F k o t=0 then jQ L k else []
def xV(L:List Pt)(F k o t:Int):List Cl:=if gK L F k o t=0 then gr (pt L k.toNat).cm 0 else []
def kL(L:List Pt)(k:Int):List Pt:=L.set k.toNat { pt L k.toNat with s:=true,cm:=[] }
def vB(L:List Pt)(F k o t:Int):List Pt:=if aX L F k o t=0 then kL L k else []
theorem lF{t:Int}(h:aX L F k o t=0):gJ L F/\∃ q:Nat,k=q/\q<L.length/\(pt L q).o=o/\(pt L q).t=t/\(pt L q).s=false:=by
 unfold aX at h;by_cases h1:dK L F=0
 ·rw[yd (yL h1)] at h;by_cases E:0<=k/\k<(L.length:Int)
  ·rw[yd (yL E)] at h;obtain⟨q,rfl⟩:=Int.eq_ofNat_of_zero_le E.1;rw[yk] at h;by_cases D:(pt L q).o≠o\/(pt L q).t≠t
   ·rw[ye D] at h;cases h
   ·rw[yd D] at h
    cases hs:(pt L q).s with
    | true=>rw[ye hs] at h;cases h
    | false=>exact⟨qK.1 h1,q,rfl,by omega,Classical.byContradiction fun e=>D (Or.inl e),Classical.byContradiction fun e=>D (Or.inr e),hs⟩
  ·rw[ye E] at h;cases h
 ·rw[ye h1] at h;exact absurd h h1
theorem gJ.mate(R:gJ L F)(h:i<L.length):∃ q:Nat,(pt L i).m=q/\q<L.length/\q≠i/\(pt L q).m=i:=by
 obtain⟨_,I,D,_⟩:=kH.1 (R.ok i h);obtain⟨q,E⟩:=Int.eq_ofNat_of_zero_le I.1;rw[E,yk] at D;exact⟨q,E,by omega,fun e=>D.1 (by omega),D.2⟩
def goE(L:List Fr)(k o:Int):Int:=if dR L k≠0 then dR L k else if ¬ (0<=o/\o<=9) then 2 else if 1000<=(fr L k.toNat).t then 1 else 0
def goX(L:List Fr)(k o:Int)(i:Nat):Fr:=if (i:Int)=k then { fr L i with o:=o,t:=(fr L i).t+1 } else { fr L i with g:=(fr L i).g || inF L i k }
def goF(L:List Fr)(k o:Int):List Fr:=(List.range L.length).map (goX L k o)
theorem nV(L:List Fr)(k o:Int):(goF L k o).length=L.length:=by unfold goF;simp
theorem EA{L:List Fr}(h:i<L.length):fr (goF L k o) i=goX L k o i:=by
 rw[rZ (by rw[nV];exact h)];unfold goF;simp
theorem UZ{L:List Fr}(h:goE L k o=0):dR L k=0/\(0<=o/\o<=9)/\(fr L k.toNat).t<1000:=by
 unfold goE at h;by_cases h1:dR L k=0
 ·rw[yd (yL h1)] at h;by_cases D:0<=o/\o<=9
  ·rw[yd (yL D)] at h;by_cases E:1000<=(fr L k.toNat).t
   ·rw[ye E] at h;cases h
   ·exact⟨h1,D,by omega⟩
  ·rw[ye D] at h;cases h
 ·rw[ye h1] at h;exact absurd h h1
theorem VA{L:List Fr}(R:gL L){top:Int}:∀ (n:Nat) (k:Int),k<n->inF L k top=true->top<=k
 | 0,k,F,h=>by
  unfold inF at h;rw[vC (by omega)] at h;cases h
 | n+1,k,F,h=>by
  by_cases D:0<=k/\k<L.length
  ·obtain⟨i,rfl⟩:=Int.eq_ofNat_of_zero_le D.1;by_cases E:(i:Int)=top
   ·omega
   ·rw[DJ R (by omega) E] at h;have hl:=R.low (i:=i) (by omega);have:=VA R n _ (by omega) h;omega
  ·unfold inF at h;rw[vC D] at h;cases h
theorem Kv{L:List Fr}(R:gL L){top:Int}(h:inF L k top=true):top<=k:=VA R (k.toNat+1) k (by omega) h
theorem qL{L:List Fr}{k:Nat}(h:k<L.length):fr (goF L k o) k={ fr L k with o:=o,t:=(fr L k).t+1 }:=by
 rw[EA h];unfold goX;rw[ye rfl]
theorem nW{L:List Fr}{k:Nat}(h:i<L.length)(D:i≠k):fr (goF L k o) i={ fr L i with g:=(fr L i).g || inF L i k }:=by
 rw[EA h];unfold goX;rw[yd (by omega)]
theorem KW{L:List Fr}(h:i<L.length):(fr (goF L k o) i).p=(fr L i).p:=by
 rw[EA h];unfold goX
 split <;> rfl
theorem EB{L:List Fr}(h:i<L.length):(fr (goF L k o) i).m=(fr L i).m:=by
 rw[EA h];unfold goX
 split <;> rfl
theorem VB{L:List Fr}(h:goE L k o=0):gL (goF L k o):=by
 obtain⟨h1,O,T⟩:=UZ h;obtain⟨R,q,rfl,U,hg⟩:=xX h1;rw[yk] at T;refine⟨by rw[nV];exact R.few,fun i hi=>?_⟩;rw[nV] at hi;obtain⟨a1,a2,a3⟩:=pF.1 (R.ok i hi);rw[pF];refine⟨?_,?_,fun h0=>?_⟩
 ·unfold jR at a1 |-;rw[KW hi];exact a1
 ·unfold nU at a2 |-;rw[EB hi];by_cases e:i=q
  ·subst e;rw[qL hi];dsimp only;exact⟨O,a2.2.1,by omega⟩
  ·rw[nW hi e];exact a2
 ·obtain⟨p,I,M,D⟩:=R.up hi h0;rw[KW hi,I,yk];unfold kM;rw[EB hi,EB (by omega)];refine⟨D.1,?_⟩;by_cases e:i=q
  ·subst e;rw[qL hi,nW (by omega) (by omega)];dsimp only;right
   have E:(fr L p).g=false:=by
    rcases D.2 with hh|hh
    ·rw[hg] at hh;cases hh
    ·exact hh
   have F:inF L (p:Int) i=false:=by
    cases hc:inF L (p:Int) i with
    | false=>rfl
    | true=>exact absurd (Kv R (k:=(p:Int)) hc) (by omega)
   rw[E,F];rfl
  ·rw[nW hi e];dsimp only;by_cases J:p=q
   ·subst J;left;rw[DJ R hi (by omega),I,UR (by omega),Bool.or_true]
   ·rw[nW (by omega) J,DJ R hi (by omega),I];dsimp only;rcases D.2 with hh|hh
    ·left;rw[hh,Bool.true_or]
    ·rw[hh]
     cases inF L (p:Int) q with
     | true=>left;rw[Bool.or_true]
     | false=>right;rfl
structure Ml where
 f:Int
 g:List Cl
structure Wl where
 fs:List Fr
 rs:List Rl
 ps:List (List Ac)
 qs:List (List Ml)
 pt:List Pt
def vH:Wl:=⟨[],[],[],[],[]⟩
def rlm(W:Wl)(k:Nat):Rl:=W.rs.getD k dJ
def prg(W:Wl)(k:Nat):List Ac:=W.ps.getD k []
def que(W:Wl)(k:Nat):List Ml:=W.qs.getD k []
def lH:List Rl->Int
 | []=>0
 | r :: l=>if bI r=0 then lH l else bI r
def lI:List (List Ac)->Int
 | []=>0
 | p :: l=>if 40<p.length then 1 else lI l
def sG(n:Nat):List Ml->Int
 | []=>0
 | m :: l=>if 0<=m.f/\m.f<=(n:Int)-1 then (if bF m.g=0 then sG n l else bF m.g) else 4
def dX(n:Nat)(q:List Ml):Int:=if 16<q.length then 1 else sG n q
def lJ(n:Nat):List (List Ml)->Int
 | []=>0
 | q :: l=>if dX n q=0 then lJ n l else dX n q
def aQ:List Int->Int
 | []=>0
 | e :: l=>if e=0 then aQ l else e
def fZ(W:Wl):Int :=
 aQ [bS W.fs,if W.rs.length=W.fs.length/\W.ps.length=W.fs.length/\W.qs.length=W.fs.length then 0 else 3,lH W.rs,lI W.ps,lJ W.fs.length W.qs,dK W.pt W.fs.length]
def jC(R:Rl):Nat->Int
 | 0=>0
 | i+1=>if jC R i=0 then aP R.s (hd R i).1 (hd R i).2 else jC R i
def dN(R:Rl)(n:Int):Int:=if 0<=n/\n<=8 then jC R n.toNat else 2
def bO(R:Rl)(n:Nat):List Cl:=⟨n,(List.range n).map fun i:Nat=>(i:Int)+1⟩ ::(List.range n).map fun i:Nat=>⟨(nd R.s (hd R i).1.toNat).m,[]⟩
structure Ws where
 e:Int
 w:Wl
 o:Int
def bP(Es:List Int)(W V:Wl)(o:Int):Ws:=if aQ Es=0 then ⟨0,V,o⟩ else ⟨aQ Es,W,0⟩
def aL(W:Wl)(k:Int):Int:=(fr W.fs k.toNat).t
def kN(W:Wl)(k:Nat):Int:=(fr W.fs k).m
def setR(W:Wl)(k:Nat)(R:Rl):Wl:={ W with rs:=W.rs.set k R }
def many(W:Wl):Int:=(W.fs.length:Int)
def KX(W:Wl)(k:Nat)(n:Int):Ws:=bP [bG W.fs k n 2] W W (gM W.fs n:Nat)
def KY(W:Wl)(k:Nat)(n:Int):Ws:=bP [bG W.fs k n 4] W { W with fs:=fV W.fs n } 0
def sH(W:Wl)(k:Nat)(a b:Int):Ws :=
 bP [bG W.fs k a 1,if isH b then 0 else 4,aP (rlm W a.toNat).s (hd (rlm W a.toNat) b).1 (hd (rlm W a.toNat) b).2] W W (nd (rlm W a.toNat).s (hd (rlm W a.toNat) b).1.toNat).m
def yQ(W:Wl)(k:Nat)(a n:Int):Ws :=
 bP [bG W.fs k a 3,dN (rlm W k) n,if (que W a.toNat).length=16 then 1 else 0] W { W with qs:=W.qs.set a.toNat (que W a.toNat++[⟨k,bO (rlm W k) n.toNat⟩]) } 0
def wGo(W:Wl)(k:Nat)(n a:Int):Ws :=
 bP [bG W.fs k n 5,goE W.fs n a] W { fs:=goF W.fs n a,rs:=W.rs.set n.toNat (bB (rlm W n.toNat).s.length),ps:=W.ps.set n.toNat [],qs:=W.qs.set n.toNat [],pt:=W.pt } 0
def vI(W:Wl)(k:Nat):Ws:=bP [fU W.pt (many W) k (aL W k)] W { W with pt:=bJ W.pt k (aL W k) } W.pt.length
def yR(W:Wl)(k:Nat)(a n:Int):Ws:=bP [bG W.fs k a 3,kI W.pt (many W) n k (aL W k) a (aL W a)] W { W with pt:=kJ W.pt n a (aL W a) } 0
def yS(W:Wl)(k:Nat)(a n:Int):Ws :=
 bP [if bits .and .i64 (kN W k) 2=0 then 7 else 0,dN (rlm W k) a,iU W.pt (many W) n k (aL W k) (bO (rlm W k) a.toNat)] W { W with pt:=lD W.pt n (bO (rlm W k) a.toNat) } 0
def yT(W:Wl)(k:Nat)(n:Int):Ws :=
 bP [gK W.pt (many W) n k (aL W k)] W { setR W k { rlm W k with i:=gr (pt W.pt n.toNat).cm 0 } with pt:=jQ W.pt n } 0
def yU(W:Wl)(k:Nat)(n:Int):Ws:=bP [aX W.pt (many W) n k (aL W k)] W { W with pt:=kL W.pt n } 0
def wDo(W:Wl)(k:Nat)(x:Ac):Ws:=bP [(doF (rlm W k) x).e] W (setR W k (doF (rlm W k) x).r) (doF (rlm W k) x).o
def bD(W:Wl)(k:Nat)(x:Ac):Ws :=
 if x.k=9 then KX W k x.n
 else if x.k=13 then KY W k x.n
 else if x.k=12 then sH W k x.a x.b
 else if x.k=10 then yQ W k x.a x.n
 else if x.k=21 then wGo W k x.n x.a
 else if x.k=16 then vI W k
 else if x.k=17 then yR W k x.a x.n
 else if x.k=18 then yS W k x.a x.n
 else if x.k=19 then yT W k x.n
 else if x.k=20 then yU W k x.n
 else wDo W k x
def toldOf(q:Ws):Int:=if q.e=0 then q.o else -q.e
def mZ(W:Wl)(k:Nat)(o:Int):Wl:=setR W k { rlm W k with t:=(rlm W k).t++[o] }
def doW(k:Nat)(W:Wl)(x:Ac):Wl:=mZ (bD W k x).w k (toldOf (bD W k x))
def bQ(W:Wl)(k:Nat)(start:Bool):Wl :=
 if start then setR W k { rlm W k with i:=[] }
 else { setR W k { rlm W k with i:=((que W k).getD 0 ⟨0,[]⟩).g } with qs:=W.qs.set k ((que W k).drop 1) }
def bT(W:Wl)(k:Int)(start:Bool):Int :=
 aQ [fZ W,bC W.fs k,if bits .and .i64 (kN W k.toNat) 1=0 then 7 else 0,if 4760<(rlm W k.toNat).t.length then 1 else 0,if start=false/\(que W k.toNat).length=0 then 8 else 0]
def cB(W:Wl)(k:Int)(start:Bool):Wl:=if bT W k start=0 then (prg W k.toNat).foldl (doW k.toNat) (bQ W k.toNat start) else vH
def aT(W:Wl)(p:Int × Bool):Wl:=if bT W p.1 p.2=0 then cB W p.1 p.2 else W
def lK:Wl->List (Int × Bool)->List Int
 | _,[]=>[]
 | W,p :: l=>bT W p.1 p.2 :: lK (aT W p) l
def rS(E:Int)(T:List Nd):List Nd:=if E=0 then T else []
def rH(E:Int)(h:Int × Int):Int × Int:=if E=0 then h else (0,0)
theorem lM:rS 0 T=T:=rfl
theorem nC(h:E≠0):rS E T=[]:=yd h
theorem EI{T:Int × Int}(h:E≠0):rH E T=(0,0):=yd h
theorem qM(W:Wd):aD W none []:=fun _ hi=>absurd hi (yB _)
abbrev LJ(f:Nat)(S T:List Nd)(more:Array Value)(E:Int):Prop:=∀ (a:OA) (c:Nat) W,aD W a S ->
 yO f (#[.agg #[.slice a S.length c]] ++ more) W fun e w' => ∃ D F,e=.returned (.tuple #[.agg #[.slice D T.length F],.int .i64 E])/\Below W.heap.size W w' /\ St (fun b=>b<W.heap.size) (fun V=>aD V D T) w'
theorem LK{B g:Nat}(hg:B<=g)(hn:∀ w3:World,(∀ b,g<=b->w3.heap[b]?=w'.heap[b]?)->aD w3 a T):St (fun b=>b<B) (fun V=>aD V a T) w' := fun V E=>by
 have e:∀ b,b<w'.heap.size->(V.heap.extract 0 w'.heap.size)[b]?=V.heap[b]?:=fun b hb=>by
  have:=E.size;simp[Array.getElem?_extract];omega
 have h:=hn { V with heap:=V.heap.extract 0 w'.heap.size } (fun b hb=>by
  show (V.heap.extract 0 w'.heap.size)[b]?=w'.heap[b]?;by_cases h1:b<w'.heap.size
  ·rw[e b h1];exact E.block b h1 (by show ¬ b<B;omega)
  ·rw[Array.getElem?_eq_none (by simp;omega),Array.getElem?_eq_none (by omega)])
 have D:(V.heap.extract 0 w'.heap.size).size=w'.heap.size:=by have:=E.size;simp;omega
 exact h.below ⟨rfl,rfl,rfl,by show (V.heap.extract 0 w'.heap.size).size<=_;rw[D];exact E.size,fun b hb=>(e b (by rw[<- D];exact hb)).symm⟩
abbrev hdV(h:Int × Int):Value:=.agg #[.int .i64 h.1,.int .i64 h.2]
def Lm(f:Nat):Prop:=∀ (S:List Nd) (h:Int × Int),WF S->LJ f S (rS (xL S h.1 h.2) (S.set h.1.toNat (lY (nd S h.1.toNat)))) #[hdV h] (xL S h.1 h.2)
def Lp(f:Nat):Prop:=∀ (S:List Nd) (h:Int × Int),WF S->LJ f S (rS (xM S h.1 h.2) (leaveG S h.1.toNat)) #[hdV h] (xM S h.1 h.2)
def Lr(f:Nat):Prop:=∀ (S:List Nd) (h g:Int × Int) (hs:List (Int × Int)) (ha:OA) (hc:Nat),WF S->hs.length<=1->∀ (a:OA) (c:Nat) W,aD W a S->aZ W ha hs ->
 yO f #[.agg #[.slice a S.length c],hdV h,hdV g,.slice ha hs.length hc] W fun e w' => ∃ D E,e=.returned (.tuple #[.agg #[.slice D (rS (fT S h.1 h.2 g.1 g.2 hs) (kE S h.1 g.1 hs)).length E],.int .i64 (fT S h.1 h.2 g.1 g.2 hs)])/\Below W.heap.size W w' /\ St (fun b=>b<W.heap.size) (fun V=>aD V D (rS (fT S h.1 h.2 g.1 g.2 hs) (kE S h.1 g.1 hs))) w'
def Ls(f:Nat):Prop:=∀ (S:List Nd) (h:Int × Int) (t m:Int) (qa:OA) (qc:Nat),WF S->∀ (a:OA) (c:Nat) W,aD W a S->jM W qa [⟨t,m,false⟩] ->
 yO f #[.agg #[.slice a S.length c],hdV h,.slice qa 1 qc] W fun e w' => ∃ D E n,e=.returned (.tuple #[.slice D n E,.int .i64 (rV S h.1 h.2 [⟨t,m,false⟩])])/\Below W.heap.size W w' /\ n=if rV S h.1 h.2 [⟨t,m,false⟩]=0 then (oP S h.1.toNat [⟨t,m,false⟩]).length else 0
def Lt(f:Nat):Prop:=∀ (S:List Nd) (h:Int × Int),WF S->∀ (a:OA) (c:Nat) W,aD W a S ->
 yO f #[.agg #[.slice a S.length c],hdV h] W fun e w' => ∃ D E n,e=.returned (.tuple #[.slice D n E,.int .i64 (aP S h.1 h.2)])/\Below W.heap.size W w' /\ n=if aP S h.1 h.2=0 then (mW S h.1.toNat).length else 0
theorem yY(S:List Nd)(p u:Int):dH S [(p,u)]=aP S p u:=by
 unfold dH aP mP mP;by_cases h:iX S p u=0
 ·simp[h]
 ·simp[h]
theorem VF(wf:WF S){D:Nat}(hch:D<S.length):(nd S D).p = -1\/∃ E:Nat,E<S.length/\E≠D/\(nd S D).p=E:=by
 by_cases e:(nd S D).p = -1
 ·exact Or.inl e
 ·obtain⟨E,F,g1,g2,_⟩:=wf.parent_place hch e;exact Or.inr ⟨E,g1,g2,F⟩
theorem sK(wf:WF S):∀ i,i<S.length->(nd S i).ks.length<=1000:=fun i hi=>by have:=wf.kids_small hi;omega
theorem Lu:Lm 167:=fun S h wf a c W F=>by
 obtain⟨P,U⟩:=h;dsimp only[hdV];have J:S.length<=9223372036854775807:=by have:=wf.small;omega
 unfold xL;by_cases D:aP S P U=0
 ·rw[ye D];obtain⟨_,k,e,I,O,M⟩:=lC D;subst e;rw[yk];by_cases hl:nP S k
  ·rw[ye hl,lM];refine(Lf a c S k U W wf.small (sK wf) F I D hl).mono (fun e w' ⟨g,E,hb,hg,hn⟩=>⟨some ⟨g,0,none⟩,S.length,?_,hb,LK hg hn⟩);rw[E,List.length_set]
  ·rw[yd hl,nC (by decide)];exact(Le a c S k U W J wf.big F I D (by have:=sK wf k I;omega) hl).mono (fun e w' ⟨E,hb⟩=>⟨none,0,E,hb,fun V _=>qM V⟩)
 ·rw[yd D,nC D];exact(Ld a c S P U _ W J wf.big F rfl D).mono (fun e w' ⟨E,hb⟩=>⟨none,0,E,hb,fun V _=>qM V⟩)
theorem Lv:Lp 168:=fun S h wf a c W I=>by
 obtain⟨P,U⟩:=h;dsimp only[hdV];have T:S.length<=9223372036854775807:=by have:=wf.small;omega
 unfold xM;by_cases D:aP S P U=0
 ·rw[ye D];obtain⟨_,k,e,J,hu,a5⟩:=lC D;subst e;rw[yk];have Z:dH S [((k:Int),U)]=0:=(yY _ _ _).trans D;rcases VF wf J with hp |⟨p0,M,O,F⟩
  ·rw[ye hp,nC (by decide)];exact(Lb a c S k U W T wf.big I Z J hp).mono (fun e w' ⟨E,hb⟩=>⟨none,0,E,hb,fun V _=>qM V⟩)
  ·have hG:leaveG S k=eD S p0 k:=(by unfold leaveG;rw[yd (by omega),F,yk]);rw[yd (by omega),lM,hG];refine(Lc a c S k p0 U W wf.small wf.big I Z J M O F (sK wf)).mono (fun e w' ⟨g,E,hb,hg,hn⟩=>⟨some ⟨g,0,none⟩,S.length,?_,hb,LK hg hn⟩);rw[E,rF]
 ·rw[yd D,nC D];exact(La a c S P U _ W T wf.big I (yY _ _ _) D).mono (fun e w' ⟨E,hb⟩=>⟨none,0,E,hb,fun V _=>qM V⟩)
theorem Lx{P J C:Int}{hs:List (Int × Int)}(wf:WF S)(hm:hs.length<=1):LH S (rS (fT S P J C E hs) (kE S P C hs)) P C E hs (dH S ((P,J) ::(C,E) :: hs)) (fT S P J C E hs):=by
 by_cases F:dH S ((P,J) ::(C,E) :: hs)=0
 ·obtain⟨_,O⟩:=TZ F;obtain⟨pa,e1,hpa,hpu,a9⟩:=O (P,J) (by simp);obtain⟨T,e2,hch,hcu,a6⟩:=O (C,E) (by simp);dsimp only at e1 e2 a9 a6;subst e1;subst e2;have hK:=sK wf;refine .inr ⟨pa,T,rfl,rfl,F,wf.small,hpa,hch,fun Z=>?_,fun Z=>⟨fun h hh=>?_,?_⟩⟩
  ·have e:fT S pa J T E hs=6:=(by unfold fT;rw[ye F,yk,yk,yd (by rw[Z];decide)]);rw[e];exact⟨rfl,nC (by decide)⟩
  ·obtain⟨q,e,hq,_⟩:=O h (by simp[hh]);exact⟨q,e,hq⟩
  ·have pt:uH S pa T:=⟨wf,hpa,hch,hpu,hcu,Z⟩;obtain⟨f1,f2,f3⟩:=QZ Z;have hl:=oM S T;have a5:=VF wf hch;unfold fT kE;rw[ye F];simp only[yk];rw[ye Z]
   match hs,hm,F,O with
   | [],_,F,O =>
    exact⟨fun⟨h,hh,_⟩=>(by cases hh),fun _=>⟨rfl,hK,by rw[lM,qC,hl],.inr ⟨by simp,f2,a5,(nd (leaveG S T) pa).ks.length,rfl,by omega,lM⟩⟩⟩
   | [(Q,qu)],_,F,O =>
    obtain⟨q,e3,hq,b3,b0⟩:=O (Q,qu) (by simp);dsimp only at e3 b0;subst e3;dsimp only;rw[yk]
    have I:∀ h ∈ [((q:Int),qu)],(nd S h.1.toNat).p=(nd S q).p:=fun h hh=>by
     have:h=((q:Int),qu):=(by simpa using hh);subst this;rw[yk]
    by_cases D:(nd S q).p=pa
    ·rw[ye D,lM];refine⟨fun⟨h,hh,a8⟩=>absurd ((I h hh).trans D) a8,fun _=>?_⟩;by_cases M:q=T
     ·subst M;have a7:E=qu:=(by omega);subst a7;rw[ye rfl];exact⟨rfl,hK,rfl,.inl ⟨List.mem_singleton.2 rfl,rfl⟩⟩
     ·rw[yd (by omega)];obtain⟨at', U,b1,b2⟩:=pt.ahead hq D M;rw[U,yk];exact⟨rfl,hK,by rw[qC,hl],.inr ⟨fun e=>M (by have:=congrArg Prod.fst (List.mem_singleton.1 e);simp at this;omega),f2,a5,at', U,by omega,rfl⟩⟩
    ·rw[yd D];exact⟨fun _=>⟨rfl,nC (by decide)⟩,fun h=>absurd ((I _ (List.mem_singleton.2 rfl)).symm.trans (h _ (List.mem_singleton.2 rfl))) D⟩
   | _ :: _ :: _,h,_,_=>exact absurd h (by simp)
 ·have e:fT S P J C E hs=dH S ((P,J) ::(C,E) :: hs):=by unfold fT;rw[yd F]
  exact .inl ⟨F,e,by rw[e,nC F]⟩
theorem VG:Lr 192:=fun S h g hs ha hc wf D a c W M J =>
 (Kz a c S h.1 g.1 h.2 g.2 ha hc hs _ _ _ W (by have:=wf.small;omega) wf.big M J D rfl (Lx wf D)).mono (fun e w' ⟨E,F,I,hb,hn⟩=>⟨E,F,I,hb,LK (yr _) hn⟩)
theorem Ma:Ls 189:=fun S h t m qa qc wf a c W I J=>by
 obtain⟨P,U⟩:=h;dsimp only[hdV];have T:S.length<=9223372036854775807:=by have:=wf.small;omega
 unfold rV;by_cases D:aP S P U=0
 ·rw[ye D];obtain⟨_,k,e,M,hu,Z⟩:=lC D;subst e;rw[yk];by_cases F:qE [⟨t,m,false⟩]=0
  ·rw[F,ye rfl];exact(Fu a c S k U qa qc [⟨t,m,false⟩] W wf M hu ((yY _ _ _).trans D) I J F).mono (fun e w' ⟨O,fc,E,hb,hi,_⟩=>⟨O,fc,_,E,hb,rfl⟩)
  ·rw[yd F];exact(Fq a c S k U _ qa qc [⟨t,m,false⟩] W wf M ((yY _ _ _).trans D) I (by simp) J rfl F).mono (fun e w' ⟨E,hb⟩=>⟨none,0,0,E,hb,rfl⟩)
 ·rw[yd D,yd D];exact(Fp a c S P U _ _ W T wf.big I (yY _ _ _) D).mono (fun e w' ⟨E,hb⟩=>⟨none,0,0,E,hb,rfl⟩)
theorem Mc:Lt 190:=fun S h wf a c W F=>by
 obtain⟨P,U⟩:=h;dsimp only[hdV];have I:S.length<=9223372036854775807:=by have:=wf.small;omega
 by_cases D:aP S P U=0
 ·obtain⟨_,k,e,J,O,M⟩:=lC D;subst e;rw[yk,D,ye rfl];exact(Hm a c S k U W wf F J D).mono (fun e w' ⟨sa,sc,E,hb,hi⟩=>⟨sa,sc,_,E,hb,rfl⟩)
 ·rw[yd D];exact(Hf a c S P U _ W I wf.big F rfl D).mono (fun e w' ⟨E,hb⟩=>⟨none,0,0,E,hb,rfl⟩)
def jD(w:Wd)(a:OA)(C:List (List Cl)):Prop :=
 ∀ i,i<C.length->∃ b o ga gc,a=some ⟨b,o,none⟩/\w.cell? ⟨b,o+i,none⟩=some (.slice ga (gr C i).length gc)/\aO w ga (gr C i)
theorem jD.below{C:List (List Cl)}(h:jD w a C)(hb:Bl w w'):jD w' a C:=fun i hi=>by
 obtain⟨b,o,ga,gc,e,h1,D⟩:=h i hi;exact⟨b,o,ga,gc,e,aA h1 hb,D.below hb⟩
theorem LM(w:Wd):jD w none []:=fun i hi=>absurd hi (yB _)
def mK(C:List (List Cl)):Prop:=∀ i,i<C.length->(gr C i).length<=9223372036854775807/\fK (gr C i)
def kQ(w:Wd)(a:OA)(c:Nat)(C:List (List Cl)):Prop:=((a=none->c=0)/\C.length<=c/\c<=9223372036854775807)/\jD w a C
theorem kQ.below{c:Nat}{C:List (List Cl)}(h:kQ w a c C)(hb:Bl w w'):kQ w' a c C:=⟨h.1,h.2.below hb⟩
def vL(w:Wd)(b o:Nat)(x:Pt):Prop :=
 w.cell? ⟨b,o,none⟩=some (.int .i64 x.o)/\w.cell? ⟨b,o+1,none⟩=some (.int .i64 x.t)/\w.cell? ⟨b,o+2,none⟩=some (.int .i64 x.m)/\∃ D E,w.cell? ⟨b,o+3,none⟩=some (.slice D x.cm.length E)/\kQ w D E x.cm/\w.cell? ⟨b,o+4,none⟩=some (.bool x.s)
theorem vL.below{b o:Nat}(h:vL w b o x)(hb:Bl w w'):vL w' b o x:=by
 obtain⟨c0,c1,c2,D,E,c3,hg,c4⟩:=h;exact⟨aA c0 hb,aA c1 hb,aA c2 hb,D,E,aA c3 hb,hg.below hb,aA c4 hb⟩
def cK(w:Wd)(a:OA)(L:List Pt):Prop :=
 ∀ i,i<L.length->∃ b o,a=some ⟨b,o,none⟩/\vL w b (o+i*5) (pt L i)
theorem cK.below(h:cK w a L)(hb:Bl w w'):cK w' a L:=fun i hi=>by
 obtain⟨b,o,e,hn⟩:=h i hi;exact⟨b,o,e,hn.below hb⟩
theorem Mf(w:Wd):cK w none []:=fun i hi=>absurd hi (yB _)
def iH(L:List Pt):Prop:=∀ i,i<L.length->(pt L i).cm.length<=9223372036854775807/\mK (pt L i).cm
def LP(K:Nat):Prop:=∀ (x y:List Cl) (ka D:OA) (kc E:Nat) (W:Wd),x.length<=9223372036854775807->fK x->aO W ka x->aO W D y ->
 yO K #[.agg #[.slice ka x.length kc],.agg #[.slice D y.length E]] W fun e w' => ∃ r:Bool,e=.returned (.bool r)/\Below W.heap.size W w' /\(r=true↔x=y)
def LQ(K:Nat):Prop:=∀ (x y:Pt) (ka D:OA) (kc E:Nat) (W:Wd),x.cm.length<=9223372036854775807->mK x.cm->jD W ka x.cm->jD W D y.cm ->
 yO K #[.agg #[.int .i64 x.o,.int .i64 x.t,.int .i64 x.m,.slice ka x.cm.length kc,.bool x.s],.agg #[.int .i64 y.o,.int .i64 y.t,.int .i64 y.m,.slice D y.cm.length E,.bool y.s]] W fun e w' => ∃ r:Bool,e=.returned (.bool r)/\Below W.heap.size W w' /\(r=true↔x=y)
theorem Mg(K:Nat)(eg:∀ args w,(callFunc K args).run prog w=.ok (.enter K args) w)(hK:LP K)(a a' :OA)(c c' : Nat)(S D:List (List Cl))(w:Wd)(hN:S.length<=9223372036854775807)(hB:mK S)(h1:jD w a S)(h2:jD w a' D) :
  yO 92 #[.slice a S.length c,.slice a' D.length c', .func (.func K) #[] #[]] w fun e w' => ∃ r:Bool,e=.returned (.bool r)/\Below w.heap.size w w' /\(r=true↔S=D):=by
 by_cases hl:S.length=D.length
 ·have E1:Hid ((∀ i,i<S.length->gr S i=gr D i)->S=D):=fun h=>Jp hl h;have E2:Hid (∀ i,gr S i≠gr D i->S≠D):=fun i h e=>h (by rw[e]);have H1:Hid (jD w a S):=h1;have H2:Hid (jD w a' D):=h2;have HB:Hid (mK S):=hB;have HK:Hid (LP K):=hK;have HL:Hid (D.length=S.length):=hl.symm;rw[<- hl];clear h1 h2 hB hl hK;generalize hn:S.length=n at *;have T:Hid _:=hn;clear hn
  go_enter func92,ntmps92
  go_wp2
  go_loopg [17] n (fun g s17 wr=>∃ k:Nat,k<=n/\n-k<=g/\s17=.int .i64 k/\Below w.heap.size w wr/\Hid (∀ i,i<k->gr S i=gr D i))
  case atStart=>exact⟨0,by omega,by omega,rfl,yv _ _,fun i hi=>by omega⟩
  case round =>
   obtain⟨k,hk,hg,rfl,hb,A⟩:=hrel;by_cases E:k<n
   ·have a8:(k:Int)<(n:Int):=(by omega);obtain⟨b,o,ka,kc,rfl,c0,I⟩:=(H1.below hb) k (by rw[T.o];exact E);obtain⟨b', o', a5,a6,rfl,e0,J⟩:=(H2.below hb) k (by rw[HL.o];exact E);have a9:=yi _ _ c0;have a7:=yi _ _ e0;have d1:=fun o1 o2=>HK.o (gr S k) (gr D k) ka a5 kc a6 ((wr.alloc o1).alloc o2) (HB k (by rw[T.o];exact E)).1 (HB k (by rw[T.o];exact E)).2 (I.below (aM _ _ _)) (J.below (aM _ _ _));have O:Hid _:=E2.o k
    have KK:Hid (gr S k=gr D k->∀ i,i<k+1->gr S i=gr D i):=fun h i hi=>by
     by_cases e:i=k
     ·subst e;exact h
     ·exact A.o i (by omega)
    clear I J;have D1:Hid _:=d1;clear d1;generalize gr S k=x at *;generalize gr D k=y at *
    go_wp2_with fail
    refine(D1 _ _).mono ?_;rintro e w3 ⟨r,rfl,F,M⟩
    cases r with
    | true =>
     have Z:Hid _:=M.1 rfl;clear M
     go_wp2
     go_roundg (n-(k+1))
     case measure=>omega
     case rel=>exact⟨k+1,by omega,by omega,by go_num,(hb.trans ((aM _ _ _).mono hb.size)).trans (F.mono (by simp;have:=hb.size;omega)),KK.o Z.o⟩
    | false =>
     have Z:Hid (S≠D):=O.o fun e=>by have:=M.2 e;cases this
     clear M
     go_wp2
     go_ret;exact⟨false,rfl,(hb.trans ((aM _ _ _).mono hb.size)).trans (F.mono (by simp;have:=hb.size;omega)),⟨fun h=>(by cases h),fun h=>absurd h Z.o⟩⟩
   ·have:k=n:=(by omega);subst this
    go_wp2
    go_ret;exact⟨true,rfl,hb,⟨fun _=>E1.o A.o,fun _=>rfl⟩⟩
 ·have b0:¬ ((S.length:Int)=(D.length:Int)):=by omega
  have U:Hid (S≠D):=fun e=>hl (by rw[e]);clear h1 h2 hB hK;generalize S.length=n at *;generalize D.length=n' at *
  go_enter func92,ntmps92
  go_wp2
  go_ret;exact⟨false,rfl,yv _ _,⟨fun h=>(by cases h),fun h=>absurd h U.o⟩⟩
theorem Mh(K:Nat)(eg:∀ args w,(callFunc K args).run prog w=.ok (.enter K args) w)(hK:LQ K)(a a' :OA)(c c' : Nat)(S D:List Pt)(w:Wd)(hN:S.length<=9223372036854775807)(hB:iH S)(h1:cK w a S)(h2:cK w a' D) :
  yO 59 #[.slice a S.length c,.slice a' D.length c', .func (.func K) #[] #[]] w fun e w' => ∃ r:Bool,e=.returned (.bool r)/\Below w.heap.size w w' /\(r=true↔S=D):=by
 by_cases hl:S.length=D.length
 ·have E1:Hid ((∀ i,i<S.length->pt S i=pt D i)->S=D):=fun h=>Jo hl h;have E2:Hid (∀ i,pt S i≠pt D i->S≠D):=fun i h e=>h (by rw[e]);have H1:Hid (cK w a S):=h1;have H2:Hid (cK w a' D):=h2;have HB:Hid (iH S):=hB;have HK:Hid (LQ K):=hK;have HL:Hid (D.length=S.length):=hl.symm;rw[<- hl];clear h1 h2 hB hl hK;generalize hn:S.length=n at *;have T:Hid _:=hn;clear hn
  go_enter func59,ntmps59
  go_wp2
  go_loopg [17] n (fun g s17 wr=>∃ k:Nat,k<=n/\n-k<=g/\s17=.int .i64 k/\Below w.heap.size w wr/\Hid (∀ i,i<k->pt S i=pt D i))
  case atStart=>exact⟨0,by omega,by omega,rfl,yv _ _,fun i hi=>by omega⟩
  case round =>
   obtain⟨k,hk,hg,rfl,hb,A⟩:=hrel;by_cases E:k<n
   ·have a8:(k:Int)<(n:Int):=(by omega);obtain⟨b,o,rfl,c0,c1,c2,ka,kc,c3,⟨_,I⟩,c4⟩:=(H1.below hb) k (by rw[T.o];exact E);obtain⟨b', o', rfl,e0,e1,e2,a5,a6,e3,⟨_,J⟩,e4⟩:=(H2.below hb) k (by rw[HL.o];exact E);have a9:=yi _ _ c0;have a7:=yi _ _ e0;have d1:=fun o1 o2=>HK.o (pt S k) (pt D k) ka a5 kc a6 ((wr.alloc o1).alloc o2) (HB k (by rw[T.o];exact E)).1 (HB k (by rw[T.o];exact E)).2 (I.below (aM _ _ _)) (J.below (aM _ _ _));have O:Hid _:=E2.o k
    have KK:Hid (pt S k=pt D k->∀ i,i<k+1->pt S i=pt D i):=fun h i hi=>by
     by_cases e:i=k
     ·subst e;exact h
     ·exact A.o i (by omega)
    clear I J;have D1:Hid _:=d1;clear d1;generalize pt S k=x at *;generalize pt D k=y at *
    go_wp2_with fail
    refine(D1 _ _).mono ?_;rintro e w3 ⟨r,rfl,F,M⟩
    cases r with
    | true =>
     have Z:Hid _:=M.1 rfl;clear M
     go_wp2
     go_roundg (n-(k+1))
     case measure=>omega
     case rel=>exact⟨k+1,by omega,by omega,by go_num,(hb.trans ((aM _ _ _).mono hb.size)).trans (F.mono (by simp;have:=hb.size;omega)),KK.o Z.o⟩
    | false =>
     have Z:Hid (S≠D):=O.o fun e=>by have:=M.2 e;cases this
     clear M
     go_wp2
     go_ret;exact⟨false,rfl,(hb.trans ((aM _ _ _).mono hb.size)).trans (F.mono (by simp;have:=hb.size;omega)),⟨fun h=>(by cases h),fun h=>absurd h Z.o⟩⟩
   ·have:k=n:=(by omega);subst this
    go_wp2
    go_ret;exact⟨true,rfl,hb,⟨fun _=>E1.o A.o,fun _=>rfl⟩⟩
 ·have b0:¬ ((S.length:Int)=(D.length:Int)):=by omega
  have U:Hid (S≠D):=fun e=>hl (by rw[e]);clear h1 h2 hB hK;generalize S.length=n at *;generalize D.length=n' at *
  go_enter func59,ntmps59
  go_wp2
  go_ret;exact⟨false,rfl,yv _ _,⟨fun h=>(by cases h),fun h=>absurd h U.o⟩⟩
