/-
  x
-/
import Derived.Test.YtcbcpomacdngmaaGreatS21
namespace Go.Proofs.YtcbcpomacdngmaaGreat
set_option maxRecDepth 100000
set_option maxHeartbeats 4000000
set_option linter.unusedVariables false
open Go.RowKit Go.ChangeShapes Go.WideShapes
structure Pt where
 o:Int
 t:Int
 m:Int
 cm:List (List Cl)
 s:Bool
 deriving DecidableEq
def zxO:Pt:=⟨0,0,0,[],false⟩
def pt(L:List Pt)(i:Nat):Pt:=L.getD i zxO
theorem zdO{L:List Pt}{i:Nat}(h:i<L.length):pt L i=L[i]:=zae L zxO h
theorem zAo{L M:List Pt}(hl:L.length=M.length)(h:∀ i,i<L.length->pt L i=pt M i):L=M:=by
 apply List.ext_getElem hl;intro i h1 D;have:=h i h1
 rwa [zdO h1,zdO D] at this
theorem zlR{L M:List Pt}{i:Nat}(h:i<L.length):pt (L++M) i=pt L i:=by
 rw[zdO (by simp;omega),zdO h,List.getElem_append_left h]
theorem zur(L:List Pt)(x:Pt):pt (L++[x]) L.length=x:=by
 rw[zdO (by simp)];simp
theorem zkV{L:List Pt}{k i:Nat}{x:Pt}(h:i<L.length):pt (L.set k x) i=if k=i then x else pt L i:=by
 rw[zdO (by simpa using h),List.getElem_set];split
 ·rfl
 ·rw[zdO h]
def gr(C:List (List Cl))(i:Nat):List Cl:=C.getD i []
theorem zfi{C:List (List Cl)}{i:Nat}(h:i<C.length):gr C i=C[i]:=zae C [] h
theorem zzQ{C D:List (List Cl)}(hl:C.length=D.length)(h:∀ i,i<C.length->gr C i=gr D i):C=D:=by
 apply List.ext_getElem hl;intro i h1 E;have:=h i h1
 rwa [zfi h1,zfi E] at this
theorem zom{C D:List (List Cl)}{i:Nat}(h:i<C.length):gr (C++D) i=gr C i:=by
 rw[zfi (by simp;omega),zfi h,List.getElem_append_left h]
theorem zol(C:List (List Cl))(g:List Cl):gr (C++[g]) C.length=g:=by
 rw[zfi (by simp)];simp
theorem zok(C:List (List Cl)){i:Nat}(h:i+1<C.length):gr (C.drop 1) i=gr C (i+1):=by
 rw[zfi (by simp;omega),zfi h];simp
def zbn:List (List Cl)->Int
 | []=>0
 | g :: l=>if zav g=0 then zbn l else zav g
def zdx(L:List Pt)(F:Int)(i:Nat):Int :=
 if ¬ (0<=(pt L i).o/\(pt L i).o<F)\/¬ (0<=(pt L i).m/\(pt L i).m<=(L.length:Int)-1) then 4
 else if (pt L i).m=i\/(pt L (pt L i).m.toNat).m≠i then 3
 else if ¬ (0<=(pt L i).t/\(pt L i).t<=1000) then 2
 else if 16<(pt L i).cm.length\/(0<(pt L i).cm.length/\(pt L i).s=true) then 1
 else zbn (pt L i).cm
def zoT(L:List Pt)(F:Int):Nat->Nat->Int
 | _,0=>0
 | i,n+1=>if zdx L F i=0 then zoT L F (i+1) n else zdx L F i
def zoS(L:List Pt)(F:Int)(i:Nat):Int:=zoT L F i (L.length-i)
def zba(L:List Pt)(F:Int):Int:=if 12<L.length then 1 else zoS L F 0
theorem zui{L:List Pt}{F:Int}{i:Nat}(h:i<L.length):zoS L F i=if zdx L F i=0 then zoS L F (i+1) else zdx L F i:=by
 unfold zoS;obtain⟨n,hn⟩:∃ n,L.length-i=n+1:=⟨L.length-i-1,by omega⟩;rw[hn,zoT,show L.length-(i+1)=n by omega]
theorem zwN{L:List Pt}{F:Int}{i:Nat}(h:L.length<=i):zoS L F i=0:=by
 unfold zoS;rw[show L.length-i=0 by omega,zoT]
structure zdq (L:List Pt) (F:Int):Prop where
 few:L.length<=12
 ok:∀ i,i<L.length->zdx L F i=0
theorem zkT{L:List Pt}{F:Int}:∀ n i,zoT L F i n=0↔∀ j,i<=j->j<i+n->zdx L F j=0
 | 0,i=>by simp[zoT];omega
 | n+1,i=>by
  rw[zoT];by_cases h:zdx L F i=0
  ·rw[yb h,zkT n (i+1)];constructor
   ·intro H j h1 D;by_cases e:j=i
    ·rw[e];exact h
    ·exact H j (by omega) (by omega)
   ·intro H j h1 D;exact H j (by omega) (by omega)
  ·rw[ya h];constructor
   ·intro H;exact absurd H h
   ·intro H;exact H i (yj _) (by omega)
theorem zcI{L:List Pt}{F:Int}:zba L F=0↔zdq L F:=by
 unfold zba zoS;by_cases h:12<L.length
 ·rw[yb h];exact⟨fun e=>by omega,fun R=>absurd R.few (by omega)⟩
 ·rw[ya h,zkT];exact⟨fun H=>⟨by omega,fun i hi=>H i (by omega) (by omega)⟩,fun R j _ D=>R.ok j (by omega)⟩
theorem zci:∀ {C:List (List Cl)},zbn C=0↔∀ i,i<C.length->Right (gr C i)
 | []=>by simp[zbn]
 | g :: l=>by
  rw[zbn];by_cases h:zav g=0
  ·rw[yb h,zci];constructor
   ·intro H i hi
    cases i with
    | zero=>exact zbF.1 h
    | succ i=>exact H i (by simpa using hi)
   ·intro H i hi;exact H (i+1) (by simpa using hi)
  ·rw[ya h];constructor
   ·intro H;exact absurd H h
   ·intro H;exact zbF.2 (H 0 (by simp))
theorem zbj{L:List Pt}{F:Int}{i:Nat}:zdx L F i=0↔(0<=(pt L i).o/\(pt L i).o<F)/\(0<=(pt L i).m/\(pt L i).m<=(L.length:Int)-1)/\((pt L i).m≠i/\(pt L (pt L i).m.toNat).m=i)/\(0<=(pt L i).t/\(pt L i).t<=1000)/\((pt L i).cm.length<=16/\((pt L i).s=true->(pt L i).cm.length=0))/\zbn (pt L i).cm=0:=by
 unfold zdx;by_cases h1:¬ (0<=(pt L i).o/\(pt L i).o<F)\/¬ (0<=(pt L i).m/\(pt L i).m<=(L.length:Int)-1)
 ·rw[yb h1];exact⟨fun e=>by omega,fun⟨a,b,_⟩=>by rcases h1 with h|h;exact absurd a h;exact absurd b h⟩
 ·rw[ya h1];have J:0<=(pt L i).o/\(pt L i).o<F:=Classical.byContradiction fun h=>h1 (Or.inl h);have M:0<=(pt L i).m/\(pt L i).m<=(L.length:Int)-1:=Classical.byContradiction fun h=>h1 (Or.inr h);by_cases D:(pt L i).m=i\/(pt L (pt L i).m.toNat).m≠i
  ·rw[yb D];exact⟨fun e=>by omega,fun⟨_,_,c,_⟩=>by rcases D with h|h;exact absurd h c.1;exact absurd c.2 h⟩
  ·rw[ya D];have O:(pt L i).m≠i:=fun h=>D (Or.inl h);have T:(pt L (pt L i).m.toNat).m=i:=Classical.byContradiction fun h=>D (Or.inr h);by_cases I:0<=(pt L i).t/\(pt L i).t<=1000
   ·rw[ya (yJ I)];by_cases E:16<(pt L i).cm.length\/(0<(pt L i).cm.length/\(pt L i).s=true)
    ·rw[yb E];refine⟨fun e=>by omega,fun⟨_,_,_,_,e,_⟩=>?_⟩;rcases E with h|h
     ·omega
     ·have:=e.2 h.2;omega
    ·rw[ya E]
     have U:(pt L i).cm.length<=16:=by
      by_cases h:16<(pt L i).cm.length
      ·exact absurd (Or.inl h) E
      ·omega
     have Z:(pt L i).s=true->(pt L i).cm.length=0:=fun hs=>by
      by_cases h:0<(pt L i).cm.length
      ·exact absurd (Or.inr ⟨h,hs⟩) E
      ·omega
     exact⟨fun e=>⟨J,M,⟨O,T⟩,I,⟨U,Z⟩,e⟩,fun h=>h.2.2.2.2.2⟩
   ·rw[yb I];exact⟨fun e=>by omega,fun⟨_,_,_,d,_⟩=>absurd d I⟩
def zfw(L:List Pt)(F o t:Int):Int:=if zba L F≠0 then zba L F else if ¬ (0<=o/\o<F) then 4 else if ¬ (0<=t/\t<=1000) then 2 else if 10<L.length then 1 else 0
def zcw(L:List Pt)(o t:Int):List Pt:=L++[⟨o,t,(L.length:Int)+1,[],false⟩,⟨o,t,(L.length:Int),[],false⟩]
def znH(L:List Pt)(F o t:Int):List Pt:=if zfw L F o t=0 then zcw L o t else []
def zju(L:List Pt)(F o t:Int):Int:=if zfw L F o t=0 then (L.length:Int) else 0
def zaU(L:List Pt)(F k o t:Int):Int:=if zba L F≠0 then zba L F else if ¬ (0<=k/\k<(L.length:Int)) then 4 else if (pt L k.toNat).o≠o\/(pt L k.toNat).t≠t then 7 else if (pt L k.toNat).s=true then 5 else 0
def zkr(L:List Pt)(F k o t D th:Int):Int:=if zaU L F k o t≠0 then zaU L F k o t else if ¬ (0<=D/\D<F) then 4 else if ¬ (0<=th/\th<=1000) then 2 else 0
def zhJ(L:List Pt)(k D th:Int):List Pt:=L.set k.toNat { pt L k.toNat with o:=D,t:=th }
def zhR(L:List Pt)(F k o t D th:Int):List Pt:=if zkr L F k o t D th=0 then zhJ L k D th else []
def zko(L:List Pt)(k:Int):Pt:=pt L (pt L k.toNat).m.toNat
def zhP(L:List Pt)(F k o t:Int)(g:List Cl):Int:=if zaU L F k o t≠0 then zaU L F k o t else if zav g≠0 then zav g else if (zko L k).s=true then 5 else if (zko L k).cm.length=16 then 1 else 0
def zix(L:List Pt)(k:Int)(g:List Cl):List Pt:=L.set (pt L k.toNat).m.toNat { zko L k with cm:=(zko L k).cm++[zbt g] }
def zhT(L:List Pt)(F k o t:Int)(g:List Cl):List Pt:=if zhP L F k o t g=0 then zix L k g else []
def zfy(L:List Pt)(F k o t:Int):Int:=if zaU L F k o t≠0 then zaU L F k o t else if (pt L k.toNat).cm.length=0 then 8 else 0
def zhO(L:List Pt)(k:Int):List Pt:=L.set k.toNat { pt L k.toNat with cm:=(pt L k.toNat).cm.drop 1 }
def zhS(L:List Pt)(F k o t:Int):List Pt:=if zfy L F k o t=0 then zhO L k else []
def zuu(L:List Pt)(F k o t:Int):List Cl:=if zfy L F k o t=0 then gr (pt L k.toNat).cm 0 else []
def zhX(L:List Pt)(k:Int):List Pt:=L.set k.toNat { pt L k.toNat with s:=true,cm:=[] }
def zhU(L:List Pt)(F k o t:Int):List Pt:=if zaU L F k o t=0 then zhX L k else []
theorem zco{L:List Pt}{F k o t:Int}(h:zaU L F k o t=0):zdq L F/\∃ q:Nat,k=q/\q<L.length/\(pt L q).o=o/\(pt L q).t=t/\(pt L q).s=false:=by
 unfold zaU at h;by_cases h1:zba L F=0
 ·rw[ya (yJ h1)] at h;by_cases E:0<=k/\k<(L.length:Int)
  ·rw[ya (yJ E)] at h;obtain⟨q,rfl⟩:=Int.eq_ofNat_of_zero_le E.1;rw[yi] at h;by_cases D:(pt L q).o≠o\/(pt L q).t≠t
   ·rw[yb D] at h;cases h
   ·rw[ya D] at h
    cases hs:(pt L q).s with
    | true=>rw[yb hs] at h;cases h
    | false=>exact⟨zcI.1 h1,q,rfl,by omega,Classical.byContradiction fun e=>D (Or.inl e),Classical.byContradiction fun e=>D (Or.inr e),hs⟩
  ·rw[yb E] at h;cases h
 ·rw[yb h1] at h;exact absurd h h1
theorem zdq.mate{L:List Pt}{F:Int}(R:zdq L F){i:Nat}(h:i<L.length):∃ q:Nat,(pt L i).m=q/\q<L.length/\q≠i/\(pt L q).m=i:=by
 obtain⟨_,I,D,_⟩:=zbj.1 (R.ok i h);obtain⟨q,E⟩:=Int.eq_ofNat_of_zero_le I.1;rw[E,yi] at D;exact⟨q,E,by omega,fun e=>D.1 (by omega),D.2⟩
structure Ml where
 f:Int
 g:List Cl
structure Wl where
 fs:List Fr
 rs:List Rl
 ps:List (List Ac)
 qs:List (List Ml)
 pt:List Pt
def zlf:Wl:=⟨[],[],[],[],[]⟩
def rlm(W:Wl)(k:Nat):Rl:=W.rs.getD k zbE
def prg(W:Wl)(k:Nat):List Ac:=W.ps.getD k []
def que(W:Wl)(k:Nat):List Ml:=W.qs.getD k []
def zcK:List Rl->Int
 | []=>0
 | r :: l=>if zaF r=0 then zcK l else zaF r
def zem:List (List Ac)->Int
 | []=>0
 | p :: l=>if 40<p.length then 1 else zem l
def zjk(n:Nat):List Ml->Int
 | []=>0
 | m :: l=>if 0<=m.f/\m.f<=(n:Int)-1 then (if zav m.g=0 then zjk n l else zav m.g) else 4
def zbT(n:Nat)(q:List Ml):Int:=if 16<q.length then 1 else zjk n q
def zcJ(n:Nat):List (List Ml)->Int
 | []=>0
 | q :: l=>if zbT n q=0 then zcJ n l else zbT n q
def zan:List Int->Int
 | []=>0
 | e :: l=>if e=0 then zan l else e
def zbH(W:Wl):Int :=
 zan [zaN W.fs,if W.rs.length=W.fs.length/\W.ps.length=W.fs.length/\W.qs.length=W.fs.length then 0 else 3,zcK W.rs,zem W.ps,zcJ W.fs.length W.qs,zba W.pt W.fs.length]
def zdb(R:Rl):Nat->Int
 | 0=>0
 | i+1=>if zdb R i=0 then zaG R.s (hd R i).1 (hd R i).2 else zdb R i
def zbu(R:Rl)(n:Int):Int:=if 0<=n/\n<=8 then zdb R n.toNat else 2
def zbg(R:Rl)(n:Nat):List Cl:=⟨n,(List.range n).map fun i:Nat=>(i:Int)+1⟩ ::(List.range n).map fun i:Nat=>⟨(nd R.s (hd R i).1.toNat).m,[]⟩
structure Ws where
 e:Int
 w:Wl
 o:Int
def zfe(Es:List Int)(W V:Wl)(o:Int):Ws:=if zan Es=0 then ⟨0,V,o⟩ else ⟨zan Es,W,0⟩
def zaD(W:Wl)(k:Int):Int:=(fr W.fs k.toNat).t
def zjo(W:Wl)(k:Nat):Int:=(fr W.fs k).m
def setR(W:Wl)(k:Nat)(R:Rl):Wl:={ W with rs:=W.rs.set k R }
def many(W:Wl):Int:=(W.fs.length:Int)
def zBu(W:Wl)(k:Nat)(n:Int):Ws:=zfe [zdN W.fs k n 2] W W (zkn W.fs n:Nat)
def zxM(W:Wl)(k:Nat)(n:Int):Ws:=zfe [zdN W.fs k n 4] W { W with fs:=zjW W.fs n } 0
def zqi(W:Wl)(k:Nat)(a b:Int):Ws :=
 zfe [zdN W.fs k a 1,if isH b then 0 else 4,zaG (rlm W a.toNat).s (hd (rlm W a.toNat) b).1 (hd (rlm W a.toNat) b).2] W W (nd (rlm W a.toNat).s (hd (rlm W a.toNat) b).1.toNat).m
def zAE(W:Wl)(k:Nat)(a n:Int):Ws :=
 zfe [zdN W.fs k a 3,zbu (rlm W k) n,if (que W a.toNat).length=16 then 1 else 0] W { W with qs:=W.qs.set a.toNat (que W a.toNat++[⟨k,zbg (rlm W k) n.toNat⟩]) } 0
def wGo(W:Wl)(k:Nat)(n a:Int):Ws :=
 zfe [zdN W.fs k n 5,goE W.fs n a] W { fs:=goF W.fs n a,rs:=W.rs.set n.toNat (zdl (rlm W n.toNat).s.length),ps:=W.ps.set n.toNat [],qs:=W.qs.set n.toNat [],pt:=W.pt } 0
def zuZ(W:Wl)(k:Nat):Ws:=zfe [zfw W.pt (many W) k (zaD W k)] W { W with pt:=zcw W.pt k (zaD W k) } W.pt.length
def zAA(W:Wl)(k:Nat)(a n:Int):Ws:=zfe [zdN W.fs k a 3,zkr W.pt (many W) n k (zaD W k) a (zaD W a)] W { W with pt:=zhJ W.pt n a (zaD W a) } 0
def zAC(W:Wl)(k:Nat)(a n:Int):Ws :=
 zfe [if bits .and .i64 (zjo W k) 2=0 then 7 else 0,zbu (rlm W k) a,zhP W.pt (many W) n k (zaD W k) (zbg (rlm W k) a.toNat)] W { W with pt:=zix W.pt n (zbg (rlm W k) a.toNat) } 0
def zAB(W:Wl)(k:Nat)(n:Int):Ws :=
 zfe [zfy W.pt (many W) n k (zaD W k)] W { setR W k { rlm W k with i:=gr (pt W.pt n.toNat).cm 0 } with pt:=zhO W.pt n } 0
def zAD(W:Wl)(k:Nat)(n:Int):Ws:=zfe [zaU W.pt (many W) n k (zaD W k)] W { W with pt:=zhX W.pt n } 0
def wDo(W:Wl)(k:Nat)(x:Ac):Ws:=zfe [(doF (rlm W k) x).e] W (setR W k (doF (rlm W k) x).r) (doF (rlm W k) x).o
def zdT(W:Wl)(k:Nat)(x:Ac):Ws :=
 if x.k=9 then zBu W k x.n
 else if x.k=13 then zxM W k x.n
 else if x.k=12 then zqi W k x.a x.b
 else if x.k=10 then zAE W k x.a x.n
 else if x.k=21 then wGo W k x.n x.a
 else if x.k=16 then zuZ W k
 else if x.k=17 then zAA W k x.a x.n
 else if x.k=18 then zAC W k x.a x.n
 else if x.k=19 then zAB W k x.n
 else if x.k=20 then zAD W k x.n
 else wDo W k x
def toldOf(q:Ws):Int:=if q.e=0 then q.o else -q.e
def zmb(W:Wl)(k:Nat)(o:Int):Wl:=setR W k { rlm W k with t:=(rlm W k).t++[o] }
def doW(k:Nat)(W:Wl)(x:Ac):Wl:=zmb (zdT W k x).w k (toldOf (zdT W k x))
def zcn(W:Wl)(k:Nat)(start:Bool):Wl :=
 if start then setR W k { rlm W k with i:=[] }
 else { setR W k { rlm W k with i:=((que W k).getD 0 ⟨0,[]⟩).g } with qs:=W.qs.set k ((que W k).drop 1) }
def zfb(W:Wl)(k:Int)(start:Bool):Int :=
 zan [zbH W,zaz W.fs k,if bits .and .i64 (zjo W k.toNat) 1=0 then 7 else 0,if 4760<(rlm W k.toNat).t.length then 1 else 0,if start=false/\(que W k.toNat).length=0 then 8 else 0]
def zfc(W:Wl)(k:Int)(start:Bool):Wl:=if zfb W k start=0 then (prg W k.toNat).foldl (doW k.toNat) (zcn W k.toNat start) else zlf
def zhW(W:Wl)(p:Int × Bool):Wl:=if zfb W p.1 p.2=0 then zfc W p.1 p.2 else W
def zlW:Wl->List (Int × Bool)->List Int
 | _,[]=>[]
 | W,p :: l=>zfb W p.1 p.2 :: zlW (zhW W p) l
theorem zdq.set{L:List Pt}{F:Int}(R:zdq L F){k:Nat}{x:Pt}(hk:k<L.length)(Z:x.m=(pt L k).m)(ho:0<=x.o/\x.o<F)(ht:0<=x.t/\x.t<=1000)(hc:x.cm.length<=16)(hs:x.s=true->x.cm.length=0)(hg:zbn x.cm=0):zdq (L.set k x) F:=by
 have M:∀ j,j<L.length->(pt (L.set k x) j).m=(pt L j).m:=fun j U=>by
  rw[zkV U];split
  ·rename_i e;subst e;exact Z
  ·rfl
 refine⟨by rw[List.length_set];exact R.few,fun i hi=>?_⟩;rw[List.length_set] at hi;obtain⟨h1,I,h3,O,h5,T⟩:=zbj.1 (R.ok i hi);obtain⟨q,J,D,a5,E⟩:=R.mate hi;rw[zbj,List.length_set,M i hi,J,yi,M q D,E];rw[J] at I;refine⟨?_,I,⟨by omega,rfl⟩,?_⟩
 ·rw[zkV hi];split
  ·exact ho
  ·exact h1
 ·rw[zkV hi];split
  ·exact⟨ht,⟨hc,hs⟩,hg⟩
  ·exact⟨O,h5,T⟩
theorem zdq.open{L:List Pt}{F o t:Int}(R:zdq L F)(a5:L.length<=10)(J:0<=o/\o<F)(M:0<=t/\t<=1000):zdq (zcw L o t) F:=by
 have D:(zcw L o t).length=L.length+2:=by unfold zcw;rw[List.length_append];rfl
 have old:∀ i,i<L.length->pt (zcw L o t) i=pt L i:=fun i hi=>by unfold zcw;exact zlR hi
 have O:pt (zcw L o t) L.length=⟨o,t,(L.length:Int)+1,[],false⟩:=by
  rw[zdO (by rw[D];omega)];unfold zcw;rw[List.getElem_append_right (by omega)];simp
 have T:pt (zcw L o t) (L.length+1)=⟨o,t,(L.length:Int),[],false⟩:=by
  rw[zdO (by rw[D];omega)];unfold zcw;rw[List.getElem_append_right (by omega)];simp
 refine⟨by omega,fun i hi=>?_⟩;rw[D] at hi;rw[zbj,D];by_cases e:i<L.length
 ·obtain⟨h1,h2,h3,h4,h5,h6⟩:=zbj.1 (R.ok i e);obtain⟨q,hq,E,a6,I⟩:=R.mate e;rw[old i e,hq,yi,old q E,I];exact⟨h1,by omega,⟨by omega,rfl⟩,h4,h5,h6⟩
 ·by_cases U:i=L.length
  ·subst U;rw[O];dsimp only;rw[show ((L.length:Int)+1).toNat=L.length+1 by omega,T];exact⟨J,by omega,⟨by omega,rfl⟩,M,⟨by simp,by simp⟩,rfl⟩
  ·have Z:i=L.length+1:=(by omega);subst Z;rw[T];dsimp only;rw[yi,O];exact⟨J,by omega,⟨by omega,by simp⟩,M,⟨by simp,by simp⟩,rfl⟩
theorem zeb:∀ {l:List Int},zan l=0↔∀ e ∈ l,e=0
 | []=>by simp[zan]
 | e :: l=>by
  unfold zan;by_cases h:e=0
  ·rw[yb h,zeb];simp[h]
  ·rw[ya h];exact⟨fun D=>absurd D h,fun D=>absurd (D e (by simp)) h⟩
theorem zgB:∀ {l:List Rl},zcK l=0↔∀ r ∈ l,zaF r=0
 | []=>by simp[zcK]
 | r :: l=>by
  unfold zcK;by_cases h:zaF r=0
  ·rw[yb h,zgB];simp[h]
  ·rw[ya h];exact⟨fun D=>absurd D h,fun D=>absurd (D r (by simp)) h⟩
theorem zhN:∀ {l:List (List Ac)},zem l=0↔∀ p ∈ l,p.length<=40
 | []=>by simp[zem]
 | p :: l=>by
  unfold zem;by_cases h:40<p.length
  ·rw[yb h];exact⟨fun D=>by omega,fun D=>absurd (D p (by simp)) (by omega)⟩
  ·rw[ya h,zhN];simp;intro _;omega
theorem zgA{n:Nat}:∀ {l:List (List Ml)},zcJ n l=0↔∀ q ∈ l,zbT n q=0
 | []=>by simp[zcJ]
 | r :: l=>by
  unfold zcJ;by_cases h:zbT n r=0
  ·rw[yb h,zgA];simp[h]
  ·rw[ya h];exact⟨fun D=>absurd D h,fun D=>absurd (D r (by simp)) h⟩
theorem zkO{n:Nat}:∀ {l:List Ml},zjk n l=0↔∀ m ∈ l,(0<=m.f/\m.f<=(n:Int)-1)/\zav m.g=0
 | []=>by simp[zjk]
 | r :: l=>by
  unfold zjk;by_cases h:0<=r.f/\r.f<=(n:Int)-1
  ·rw[yb h];by_cases E:zav r.g=0
   ·rw[yb E,zkO];constructor
    ·intro H m F;rcases List.mem_cons.1 F with rfl|F
     ·exact⟨h,E⟩
     ·exact H m F
    ·intro H m F;exact H m (by simp[F])
   ·rw[ya E];exact⟨fun D=>absurd D E,fun D=>absurd (D r (by simp)).2 E⟩
  ·rw[ya h];exact⟨fun D=>by omega,fun D=>absurd (D r (by simp)).1 h⟩
theorem zbJ{n:Nat}{q:List Ml}:zbT n q=0↔q.length<=16/\∀ m ∈ q,(0<=m.f/\m.f<=(n:Int)-1)/\zav m.g=0:=by
 unfold zbT;by_cases h:16<q.length
 ·rw[yb h];exact⟨fun D=>by omega,fun D=>absurd D.1 (by omega)⟩
 ·rw[ya h,zkO];exact⟨fun D=>⟨by omega,D⟩,fun D=>D.2⟩
structure zao (W:Wl):Prop where
 fs:zcm W.fs
 lr:W.rs.length=W.fs.length
 lp:W.ps.length=W.fs.length
 lq:W.qs.length=W.fs.length
 rs:∀ i,i<W.fs.length->zaF (rlm W i)=0
 ps:∀ i,i<W.fs.length->(prg W i).length<=40
 qs:∀ i,i<W.fs.length->zbT W.fs.length (que W i)=0
 pt:zdq W.pt W.fs.length
theorem zfD{α:Type}{l:List α}{d:α}{P:α->Prop}:(∀ x ∈ l,P x)↔∀ i,i<l.length->P (l.getD i d):=by
 constructor
 ·intro h i hi;rw[zae _ _ hi];exact h _ (List.getElem_mem hi)
 ·intro h x D;obtain⟨i,hi,rfl⟩:=List.getElem_of_mem D;have:=h i hi
  rwa [zae _ _ hi] at this
theorem zdA{W:Wl}:zbH W=0↔zao W:=by
 unfold zbH;rw[zeb];constructor
 ·intro h;have h1:=h (zaN W.fs) (by simp);have F:=h (if W.rs.length=W.fs.length/\W.ps.length=W.fs.length/\W.qs.length=W.fs.length then 0 else 3) (by simp);have I:=h (zcK W.rs) (by simp);have J:=h (zem W.ps) (by simp);have h5:=h (zcJ W.fs.length W.qs) (by simp);have M:=h (zba W.pt W.fs.length) (by simp)
  have D:W.rs.length=W.fs.length/\W.ps.length=W.fs.length/\W.qs.length=W.fs.length:=by
   by_cases e:W.rs.length=W.fs.length/\W.ps.length=W.fs.length/\W.qs.length=W.fs.length
   ·exact e
   ·rw[ya e] at F;omega
  exact⟨zds.1 h1,D.1,D.2.1,D.2.2,fun i hi=>zfD.1 (zgB.1 I) i (by rw[D.1];exact hi),fun i hi=>zfD.1 (zhN.1 J) i (by rw[D.2.1];exact hi),fun i hi=>zfD.1 (zgA.1 h5) i (by rw[D.2.2];exact hi),zcI.1 M⟩
 ·intro R e E;simp only[List.mem_cons,List.not_mem_nil,or_false] at E;rcases E with rfl|rfl|rfl|rfl|rfl|rfl
  ·exact zds.2 R.fs
  ·rw[yb ⟨R.lr,R.lp,R.lq⟩]
  ·exact zgB.2 (zfD.2 (fun i hi=>R.rs i (by rw[<- R.lr];exact hi)))
  ·exact zhN.2 (zfD.2 (fun i hi=>R.ps i (by rw[<- R.lp];exact hi)))
  ·exact zgA.2 (zfD.2 (fun i hi=>R.qs i (by rw[<- R.lq];exact hi)))
  ·exact zcI.2 R.pt
theorem zbe{α:Type}(l:List α)(k i:Nat)(v d:α)(D:k<l.length):(l.set k v).getD i d=if i=k then v else l.getD i d:=by
 by_cases e:i=k
 ·subst e;rw[yb rfl,zae _ _ (by simpa using D),List.getElem_set_self]
 ·rw[ya e,ziE l k i v d e]
theorem zdy{W:Wl}{k i:Nat}{R:Rl}(D:k<W.rs.length):rlm (setR W k R) i=if i=k then R else rlm W i:=zbe _ _ _ _ _ D
theorem zao.setR{W:Wl}(H:zao W){k:Nat}{R:Rl}(D:zaF R=0)(E:k<W.fs.length):zao (setR W k R) :=
 ⟨H.fs,by show (W.rs.set k R).length=_;rw[List.length_set];exact H.lr,H.lp,H.lq,fun i hi=>by
  rw[zdy (by rw[H.lr];exact E)];split
  ·exact D
  ·exact H.rs i hi,H.ps,H.qs,H.pt⟩
theorem zjm{R:Rl}:∀ {n:Nat},zdb R n=0->∀ i:Nat,i<n->zaG R.s (hd R i).1 (hd R i).2=0
 | 0,_,i,hi=>absurd hi (yx _)
 | n+1,h,i,hi=>by
  unfold zdb at h;by_cases h0:zdb R n=0
  ·rw[yb h0] at h;by_cases e:i=n
   ·subst e;exact h
   ·exact zjm h0 i (by omega)
  ·rw[ya h0] at h;exact absurd h h0
theorem zgw{R:Rl}{n:Int}(h:zbu R n=0):∃ m:Nat,n=m/\m<=8/\∀ i:Nat,i<m->zaG R.s (hd R i).1 (hd R i).2=0:=by
 unfold zbu at h;by_cases h0:0<=n/\n<=8
 ·rw[yb h0] at h;exact⟨n.toNat,by omega,by omega,zjm h⟩
 ·rw[ya h0] at h;omega
theorem zcG(R:Rl)(n:Nat):(zbg R n).length=n+1:=by unfold zbg;simp
theorem ziI(R:Rl)(n:Nat):cl (zbg R n) 0=⟨n,(List.range n).map fun i:Nat=>(i:Int)+1⟩:=rfl
theorem ziJ{R:Rl}{n i:Nat}(h:i<n):cl (zbg R n) (i+1)=⟨(nd R.s (hd R i).1.toNat).m,[]⟩:=by
 rw[zcs (by rw[zcG];omega)];unfold zbg;simp
theorem zjn{R:Rl}{n:Nat}(hn:n<=8)(h:∀ i:Nat,i<n->zaG R.s (hd R i).1 (hd R i).2=0):Right (zbg R n):=by
 have split:∀ i,i<(zbg R n).length->i=0\/∃ j,j<n/\i=j+1:=fun i hi=>by
  rw[zcG] at hi;by_cases e:i=0
  ·exact Or.inl e
  ·exact Or.inr ⟨i-1,by omega,by omega⟩
 refine⟨by rw[zcG];omega,fun i hi=>?_,fun i hi=>?_,fun i hi=>?_⟩
 ·rcases split i hi with rfl |⟨j,D,rfl⟩
  ·rw[ziI];dsimp only;omega
  ·rw[ziJ D];obtain⟨wf,k,e,F,I,_⟩:=zcD (h j D);rw[e,yi];have:=(zbd (wf.node k F)).1;unfold zcS at this;simp only[Bool.and_eq_true,decide_eq_true_eq] at this;exact this.2.2
 ·rcases split i hi with rfl |⟨j,D,rfl⟩
  ·rw[ziI];simpa using hn
  ·rw[ziJ D];simp
 ·intro x E;rcases split i hi with rfl |⟨j,D,rfl⟩
  ·rw[ziI] at E;simp only[List.mem_map,List.mem_range] at E;obtain⟨a,ha,rfl⟩:=E;exact⟨a+1,by omega,by rw[zcG];omega⟩
  ·rw[ziJ D] at E;cases E
theorem zjs(n:Nat)(h:n<=24):zaF (zdl n)=0/\zdl n=⟨List.replicate n zaZ,List.replicate 16 (0,0),[],[]⟩:=by
 have e:zdl n=⟨List.replicate n zaZ,List.replicate 16 (0,0),[],[]⟩:=by
  unfold zdl;rw[yb (by omega),yi]
 rw[e];exact⟨zep (zAG n h) (by simp) rfl (by simp),rfl⟩
theorem zca{L:List Fr}{f t x:Int}(h:zdN L f t x=0):zaN L=0/\zaz L f=0/\zaz L t=0/\zsq L f t x=true:=by
 unfold zdN at h;by_cases h1:zfn L [f,t]=0
 ·rw[ya (yJ h1)] at h;by_cases D:1<=x/\x<=5
  ·rw[ya (yJ D)] at h;by_cases E:zsq L f t x=true
   ·obtain⟨a,b,c⟩:=zgc h1;exact⟨a,b,c,E⟩
   ·rw[ya E] at h;omega
  ·rw[yb D] at h;omega
 ·rw[yb h1] at h;exact absurd h h1
theorem zqk{Es:List Int}{W V:Wl}{o:Int}:(zfe Es W V o).w=W\/(zan Es=0/\zfe Es W V o=⟨0,V,o⟩):=by
 unfold zfe;by_cases h:zan Es=0
 ·rw[yb h];exact Or.inr ⟨h,rfl⟩
 ·rw[ya h];exact Or.inl rfl
theorem zat{e:Int}{l:List Int}(h:zan (e :: l)=0):e=0/\zan l=0:=by
 rw[zeb] at h;exact⟨h e (by simp),zeb.2 (fun x D=>h x (by simp[D]))⟩
def zAK:Ac:=⟨0,0,0,0,0⟩
def ac(X:List Ac)(i:Nat):Ac:=X.getD i zAK
def zbX(w:World)(a:Option Addr)(X:List Ac):Prop :=
 ∀ i,i<X.length->∃ b o,a=some ⟨b,o,none⟩/\w.cell? ⟨b,o+i*5,none⟩=some (.int .i64 (ac X i).k)/\w.cell? ⟨b,o+i*5+1,none⟩=some (.int .i64 (ac X i).a)/\w.cell? ⟨b,o+i*5+2,none⟩=some (.int .i64 (ac X i).b)/\w.cell? ⟨b,o+i*5+3,none⟩=some (.int .i64 (ac X i).c)/\w.cell? ⟨b,o+i*5+4,none⟩=some (.int .i64 (ac X i).n)
theorem zbX.below{w w' : World}{a:Option Addr}{X:List Ac}(h:zbX w a X)(D:Below w.heap.size w w'):zbX w' a X:=fun i hi=>by
 obtain⟨b,o,e,c0,c1,c2,c3,c4⟩:=h i hi;exact⟨b,o,e,zab c0 D,zab c1 D,zab c2 D,zab c3 D,zab c4 D⟩
def zxP(f:Nat):Prop:=∀ (S:List Nd) (p u:Int) (a:Option Addr) (c:Nat) (W:World),WF S->zai W a S ->
 yM f #[.agg #[.slice a S.length c],.agg #[.int .i64 p,.int .i64 u]] W fun e w' => ∃ (x:Nd) (ka:Option Addr) (kl kc:Nat),e=.returned (.tuple #[.agg #[.bool x.u,.int .i64 x.n,.int .i64 x.t,.int .i64 x.m,.int .i64 x.p,.slice ka kl kc,.int .i64 x.h,.bool x.c],.int .i64 (zaG S p u)])/\Below W.heap.size W w' /\(zaG S p u=0->x=nd S p.toNat)/\(zaG S p u≠0->x=zhl)
theorem zfJ:zxP 14:=fun S p u a c W wf J=>by
 have I:S.length<=9223372036854775807:=by have:=wf.small;omega
 by_cases D:zaG S p u=0
 ·obtain⟨_,k,e,M,T,O⟩:=zcD D;subst e;rw[yi,D];exact(find_ok a c S k u W I wf.big J M D (by have:=zdw wf k M;omega)).mono (fun e w' ⟨g,E,F,hi⟩=>⟨nd S k,_,_,_,E,F,fun _=>rfl,fun h=>absurd rfl h⟩)
 ·exact(ziC a c S p u _ W I wf.big J rfl D).mono (fun e w' ⟨E,F⟩=>⟨zhl,_,_,_,E,F,fun h=>absurd h D,fun _=>rfl⟩)
theorem zxo(k:Int)(n:Nat)(hn:0<n):-(n:Int)<k.tmod n/\k.tmod n<n:=by
 have h1:=Int.tmod_lt_of_pos k (b:=(n:Int)) (by omega);have D:=Int.tmod_lt_of_pos (-k) (b:=(n:Int)) (by omega);rw[Int.neg_tmod] at D;omega
theorem zzx(k:Int)(n:Nat)(hn:0<n)(J:n<=1000):∃ p:Nat,p<n/\∀ w:World,
  yM 11 #[.int .i64 k,.int .i64 n] w fun e w' => e=.returned (.int .i64 (p:Int))/\w' = w:=by
 obtain⟨F,I⟩:=zxo k n hn;generalize M:k.tmod (n:Int)=r at F I;by_cases h:r<0
 ·obtain⟨p,D⟩:∃ p:Nat,(p:Int)=r+n:=⟨(r+n).toNat,by omega⟩;refine⟨p,by omega,fun w=>?_⟩;have E:Hid ((p:Int)=r+n):=D;clear D
  go_enter Tryz.func11,Tryz.ntmps11
  go_wp2
  go_ret;exact⟨by rw[E.out];rfl,rfl⟩
 ·obtain⟨p,D⟩:∃ p:Nat,(p:Int)=r:=⟨r.toNat,by omega⟩;refine⟨p,by omega,fun w=>?_⟩;have E:Hid ((p:Int)=r):=D;clear D
  go_enter Tryz.func11,Tryz.ntmps11
  go_wp2
  go_ret;exact⟨by rw[E.out];rfl,rfl⟩
theorem zbi{W:World}{b t:Nat}{D v1:Value}(h:W.heap[b]?=some (.cells #[D,v1] t (0,0))):W.cell? ⟨b,0,none⟩=some D/\W.cell? ⟨b,1,none⟩=some v1/\b<W.heap.size :=
 ⟨by simp[World.cell?,h],by simp[World.cell?,h],zaw h⟩
def zfY(w:World)(a:Option Addr)(C:List (List Cl)):Prop :=
 ∀ i,i<C.length->∃ b o ga gc,a=some ⟨b,o,none⟩/\w.cell? ⟨b,o+i,none⟩=some (.slice ga (gr C i).length gc)/\zaI w ga (gr C i)
theorem zfY.below{w w' : World}{a:Option Addr}{C:List (List Cl)}(h:zfY w a C)(D:Below w.heap.size w w'):zfY w' a C:=fun i hi=>by
 obtain⟨b,o,ga,gc,e,h1,E⟩:=h i hi;exact⟨b,o,ga,gc,e,zab h1 D,E.below D⟩
theorem zwb(w:World):zfY w none []:=fun i hi=>absurd hi (yx _)
def zvk(C:List (List Cl)):Prop:=∀ i,i<C.length->(gr C i).length<=9223372036854775807/\zjV (gr C i)
def zzj(w:World)(a:Option Addr)(c:Nat)(C:List (List Cl)):Prop:=((a=none->c=0)/\C.length<=c/\c<=9223372036854775807)/\zfY w a C
theorem zzj.below{w w' : World}{a:Option Addr}{c:Nat}{C:List (List Cl)}(h:zzj w a c C)(D:Below w.heap.size w w'):zzj w' a c C:=⟨h.1,h.2.below D⟩
def zzl(w:World)(b o:Nat)(x:Pt):Prop :=
 w.cell? ⟨b,o,none⟩=some (.int .i64 x.o)/\w.cell? ⟨b,o+1,none⟩=some (.int .i64 x.t)/\w.cell? ⟨b,o+2,none⟩=some (.int .i64 x.m)/\∃ D E,w.cell? ⟨b,o+3,none⟩=some (.slice D x.cm.length E)/\zzj w D E x.cm/\w.cell? ⟨b,o+4,none⟩=some (.bool x.s)
theorem zzl.below{w w' : World}{b o:Nat}{x:Pt}(h:zzl w b o x)(D:Below w.heap.size w w'):zzl w' b o x:=by
 obtain⟨c0,c1,c2,E,F,c3,hg,c4⟩:=h;exact⟨zab c0 D,zab c1 D,zab c2 D,E,F,zab c3 D,hg.below D,zab c4 D⟩
def zcq(w:World)(a:Option Addr)(L:List Pt):Prop :=
 ∀ i,i<L.length->∃ b o,a=some ⟨b,o,none⟩/\zzl w b (o+i*5) (pt L i)
theorem zcq.below{w w' : World}{a:Option Addr}{L:List Pt}(h:zcq w a L)(D:Below w.heap.size w w'):zcq w' a L:=fun i hi=>by
 obtain⟨b,o,e,hn⟩:=h i hi;exact⟨b,o,e,hn.below D⟩
theorem zwT(w:World):zcq w none []:=fun i hi=>absurd hi (yx _)
def znF(L:List Pt):Prop:=∀ i,i<L.length->(pt L i).cm.length<=9223372036854775807/\zvk (pt L i).cm
def zsd(K:Nat):Prop:=∀ (x y:List Cl) (ka D:Option Addr) (kc E:Nat) (W:World),x.length<=9223372036854775807->zjV x->zaI W ka x->zaI W D y ->
 yM K #[.agg #[.slice ka x.length kc],.agg #[.slice D y.length E]] W fun e w' => ∃ r:Bool,e=.returned (.bool r)/\Below W.heap.size W w' /\(r=true↔x=y)
def zsg(K:Nat):Prop:=∀ (x y:Pt) (ka D:Option Addr) (kc E:Nat) (W:World),x.cm.length<=9223372036854775807->zvk x.cm->zfY W ka x.cm->zfY W D y.cm ->
 yM K #[.agg #[.int .i64 x.o,.int .i64 x.t,.int .i64 x.m,.slice ka x.cm.length kc,.bool x.s],.agg #[.int .i64 y.o,.int .i64 y.t,.int .i64 y.m,.slice D y.cm.length E,.bool y.s]] W fun e w' => ∃ r:Bool,e=.returned (.bool r)/\Below W.heap.size W w' /\(r=true↔x=y)
theorem zmE(K:Nat)(eg:∀ args w,(callFunc K args).run Tryz.prog w=.ok (.enter K args) w)(hK:zsd K)(a a' : Option Addr)(c c' : Nat)(S D:List (List Cl))(w:World)(hN:S.length<=9223372036854775807)(hB:zvk S)(h1:zfY w a S)(h2:zfY w a' D) :
  yM 92 #[.slice a S.length c,.slice a' D.length c', .func (.func K) #[] #[]] w fun e w' => ∃ r:Bool,e=.returned (.bool r)/\Below w.heap.size w w' /\(r=true↔S=D):=by
 by_cases hl:S.length=D.length
 ·have E1:Hid ((∀ i,i<S.length->gr S i=gr D i)->S=D):=fun h=>zzQ hl h;have E2:Hid (∀ i,gr S i≠gr D i->S≠D):=fun i h e=>h (by rw[e]);have H1:Hid (zfY w a S):=h1;have H2:Hid (zfY w a' D):=h2;have HB:Hid (zvk S):=hB;have HK:Hid (zsd K):=hK;have HL:Hid (D.length=S.length):=hl.symm;rw[<- hl];clear h1 h2 hB hl hK;generalize hn:S.length=n at *;have U:Hid _:=hn;clear hn
  go_enter Tryz.func92,Tryz.ntmps92
  go_wp2
  go_loopg [17] n (fun g s17 wr=>∃ k:Nat,k<=n/\n-k<=g/\s17=.int .i64 k/\Below w.heap.size w wr/\Hid (∀ i,i<k->gr S i=gr D i))
  case atStart=>exact⟨0,by omega,by omega,rfl,yk _ _,fun i hi=>by omega⟩
  case round =>
   obtain⟨k,hk,hg,rfl,E,A⟩:=hrel;by_cases F:k<n
   ·have a8:(k:Int)<(n:Int):=(by omega);obtain⟨b,o,ka,kc,rfl,c0,J⟩:=(H1.out.below E) k (by rw[U.out];exact F);obtain⟨b', o', a5,a6,rfl,e0,M⟩:=(H2.out.below E) k (by rw[HL.out];exact F);have a9:=yd _ _ c0;have a7:=yd _ _ e0;have d1:=fun o1 o2=>HK.out (gr S k) (gr D k) ka a5 kc a6 ((wr.alloc o1).alloc o2) (HB.out k (by rw[U.out];exact F)).1 (HB.out k (by rw[U.out];exact F)).2 (J.below (zaf _ _ _)) (M.below (zaf _ _ _));have T:Hid _:=E2.out k
    have KK:Hid (gr S k=gr D k->∀ i,i<k+1->gr S i=gr D i):=fun h i hi=>by
     by_cases e:i=k
     ·subst e;exact h
     ·exact A.out i (by omega)
    clear J M;have D1:Hid _:=d1;clear d1;generalize gr S k=x at *;generalize gr D k=y at *
    go_wp2_with fail
    refine(D1.out _ _).mono ?_;rintro e w3 ⟨r,rfl,I,O⟩
    cases r with
    | true =>
     have HR:Hid _:=O.1 rfl;clear O
     go_wp2
     go_roundg (n-(k+1))
     case measure=>omega
     case rel=>exact⟨k+1,by omega,by omega,by go_num,(E.trans ((zaf _ _ _).mono E.size)).trans (I.mono (by simp;have:=E.size;omega)),KK.out HR.out⟩
    | false =>
     have HR:Hid (S≠D):=T.out fun e=>by have:=O.2 e;cases this
     clear O
     go_wp2
     go_ret;exact⟨false,rfl,(E.trans ((zaf _ _ _).mono E.size)).trans (I.mono (by simp;have:=E.size;omega)),⟨fun h=>(by cases h),fun h=>absurd h HR.out⟩⟩
   ·have:k=n:=(by omega);subst this
    go_wp2
    go_ret;exact⟨true,rfl,E,⟨fun _=>E1.out A.out,fun _=>rfl⟩⟩
 ·have b0:¬ ((S.length:Int)=(D.length:Int)):=by omega
  have Z:Hid (S≠D):=fun e=>hl (by rw[e]);clear h1 h2 hB hK;generalize S.length=n at *;generalize D.length=n' at *
  go_enter Tryz.func92,Tryz.ntmps92
  go_wp2
  go_ret;exact⟨false,rfl,yk _ _,⟨fun h=>(by cases h),fun h=>absurd h Z.out⟩⟩
theorem zmG(K:Nat)(eg:∀ args w,(callFunc K args).run Tryz.prog w=.ok (.enter K args) w)(hK:zsg K)(a a' : Option Addr)(c c' : Nat)(S D:List Pt)(w:World)(hN:S.length<=9223372036854775807)(hB:znF S)(h1:zcq w a S)(h2:zcq w a' D) :
  yM 59 #[.slice a S.length c,.slice a' D.length c', .func (.func K) #[] #[]] w fun e w' => ∃ r:Bool,e=.returned (.bool r)/\Below w.heap.size w w' /\(r=true↔S=D):=by
 by_cases hl:S.length=D.length
 ·have E1:Hid ((∀ i,i<S.length->pt S i=pt D i)->S=D):=fun h=>zAo hl h;have E2:Hid (∀ i,pt S i≠pt D i->S≠D):=fun i h e=>h (by rw[e]);have H1:Hid (zcq w a S):=h1;have H2:Hid (zcq w a' D):=h2;have HB:Hid (znF S):=hB;have HK:Hid (zsg K):=hK;have HL:Hid (D.length=S.length):=hl.symm;rw[<- hl];clear h1 h2 hB hl hK;generalize hn:S.length=n at *;have U:Hid _:=hn;clear hn
  go_enter Tryz.func59,Tryz.ntmps59
  go_wp2
  go_loopg [17] n (fun g s17 wr=>∃ k:Nat,k<=n/\n-k<=g/\s17=.int .i64 k/\Below w.heap.size w wr/\Hid (∀ i,i<k->pt S i=pt D i))
  case atStart=>exact⟨0,by omega,by omega,rfl,yk _ _,fun i hi=>by omega⟩
  case round =>
   obtain⟨k,hk,hg,rfl,E,A⟩:=hrel;by_cases F:k<n
   ·have a8:(k:Int)<(n:Int):=(by omega);obtain⟨b,o,rfl,c0,c1,c2,ka,kc,c3,⟨_,J⟩,c4⟩:=(H1.out.below E) k (by rw[U.out];exact F);obtain⟨b', o', rfl,e0,e1,e2,a5,a6,e3,⟨_,M⟩,e4⟩:=(H2.out.below E) k (by rw[HL.out];exact F);have a9:=yd _ _ c0;have a7:=yd _ _ e0;have d1:=fun o1 o2=>HK.out (pt S k) (pt D k) ka a5 kc a6 ((wr.alloc o1).alloc o2) (HB.out k (by rw[U.out];exact F)).1 (HB.out k (by rw[U.out];exact F)).2 (J.below (zaf _ _ _)) (M.below (zaf _ _ _));have T:Hid _:=E2.out k
    have KK:Hid (pt S k=pt D k->∀ i,i<k+1->pt S i=pt D i):=fun h i hi=>by
     by_cases e:i=k
     ·subst e;exact h
     ·exact A.out i (by omega)
    clear J M;have D1:Hid _:=d1;clear d1;generalize pt S k=x at *;generalize pt D k=y at *
    go_wp2_with fail
    refine(D1.out _ _).mono ?_;rintro e w3 ⟨r,rfl,I,O⟩
    cases r with
    | true =>
     have HR:Hid _:=O.1 rfl;clear O
     go_wp2
     go_roundg (n-(k+1))
     case measure=>omega
     case rel=>exact⟨k+1,by omega,by omega,by go_num,(E.trans ((zaf _ _ _).mono E.size)).trans (I.mono (by simp;have:=E.size;omega)),KK.out HR.out⟩
    | false =>
     have HR:Hid (S≠D):=T.out fun e=>by have:=O.2 e;cases this
     clear O
     go_wp2
     go_ret;exact⟨false,rfl,(E.trans ((zaf _ _ _).mono E.size)).trans (I.mono (by simp;have:=E.size;omega)),⟨fun h=>(by cases h),fun h=>absurd h HR.out⟩⟩
   ·have:k=n:=(by omega);subst this
    go_wp2
    go_ret;exact⟨true,rfl,E,⟨fun _=>E1.out A.out,fun _=>rfl⟩⟩
 ·have b0:¬ ((S.length:Int)=(D.length:Int)):=by omega
  have Z:Hid (S≠D):=fun e=>hl (by rw[e]);clear h1 h2 hB hK;generalize S.length=n at *;generalize D.length=n' at *
  go_enter Tryz.func59,Tryz.ntmps59
  go_wp2
  go_ret;exact⟨false,rfl,yk _ _,⟨fun h=>(by cases h),fun h=>absurd h Z.out⟩⟩
theorem zon{C:List (List Cl)}{j:Nat}(h:j<C.length):zbn (C.drop j)=if zav (gr C j)=0 then zbn (C.drop (j+1)) else zav (gr C j):=by
 rw[List.drop_eq_getElem_cons h,zbn,zfi h]
theorem zqJ(C:List (List Cl)):zbn (C.drop C.length)=0:=by
 rw[List.drop_length];rfl
def zqm(X:Nat->Prop)(w:World)(a:Option Addr)(G:List Cl):Prop:=∀ w', zaq X w w' -> zaI w' a G
theorem zqm.off{X:Nat->Prop}{w w' : World}{a:Option Addr}{G:List Cl}(h:zqm X w a G)(F:zaq X w w'):zqm X w' a G:=fun D E=>h D (F.trans E)
end Go.Proofs.YtcbcpomacdngmaaGreat
