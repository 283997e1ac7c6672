/-
  x
-/
import Derived.Test.YtcbcpomacdngmaaGreatA20
import Derived.Laws.OwnMore
namespace Go.Proofs.YtcbcpomacdngmaaGreat
set_option maxRecDepth 100000
set_option maxHeartbeats 4000000
set_option linter.unusedVariables false
open Go.RowKit Go.ChangeShapes Go.WideShapes Tryz
variable{L:List Pt}{k i:Nat}{n o F t:Int}{R:Rl}{a:OA}{K:Nat->Value}{Es:List Int}{w:Wd}{X:Nat->Prop}{x:Pt}{w':World}{v:Value}
structure Ml where
 f:Int
 g:List Cl
structure Wl where
 fs:List Fr
 rs:List Rl
 ps:List (List Ac)
 qs:List (List Ml)
 pt:List Pt
def vH:Wl:=⟨[],[],[],[],[]⟩
def rlm(W:Wl)(k:Nat):Rl:=W.rs.getD k dJ
def prg(W:Wl)(k:Nat):List Ac:=W.ps.getD k []
def que(W:Wl)(k:Nat):List Ml:=W.qs.getD k []
def lH:List Rl->Int
 | []=>0
 | r :: l=>if bI r=0 then lH l else bI r
def lI:List (List Ac)->Int
 | []=>0
 | p :: l=>if 40<p.length then 1 else lI l
def sG(n:Nat):List Ml->Int
 | []=>0
 | m :: l=>if 0<=m.f/\m.f<=(n:Int)-1 then (if bF m.g=0 then sG n l else bF m.g) else 4
def dX(n:Nat)(q:List Ml):Int:=if 16<q.length then 1 else sG n q
def lJ(n:Nat):List (List Ml)->Int
 | []=>0
 | q :: l=>if dX n q=0 then lJ n l else dX n q
def aQ:List Int->Int
 | []=>0
 | e :: l=>if e=0 then aQ l else e
def fZ(W:Wl):Int :=
 aQ [bS W.fs,if W.rs.length=W.fs.length/\W.ps.length=W.fs.length/\W.qs.length=W.fs.length then 0 else 3,lH W.rs,lI W.ps,lJ W.fs.length W.qs,dK W.pt W.fs.length]
def jC(R:Rl):Nat->Int
 | 0=>0
 | i+1=>if jC R i=0 then aP R.s (hd R i).1 (hd R i).2 else jC R i
def dN(R:Rl)(n:Int):Int:=if 0<=n/\n<=8 then jC R n.toNat else 2
def bO(R:Rl)(n:Nat):List Cl:=⟨n,(List.range n).map fun i:Nat=>(i:Int)+1⟩ ::(List.range n).map fun i:Nat=>⟨(nd R.s (hd R i).1.toNat).m,[]⟩
structure Ws where
 e:Int
 w:Wl
 o:Int
def bP(Es:List Int)(W V:Wl)(o:Int):Ws:=if aQ Es=0 then ⟨0,V,o⟩ else ⟨aQ Es,W,0⟩
def aL(W:Wl)(k:Int):Int:=(fr W.fs k.toNat).t
def kN(W:Wl)(k:Nat):Int:=(fr W.fs k).m
def setR(W:Wl)(k:Nat)(R:Rl):Wl:={ W with rs:=W.rs.set k R }
def many(W:Wl):Int:=(W.fs.length:Int)
def KX(W:Wl)(k:Nat)(n:Int):Ws:=bP [bG W.fs k n 2] W W (gM W.fs n:Nat)
def KY(W:Wl)(k:Nat)(n:Int):Ws:=bP [bG W.fs k n 4] W { W with fs:=fV W.fs n } 0
def sH(W:Wl)(k:Nat)(a b:Int):Ws :=
 bP [bG W.fs k a 1,if isH b then 0 else 4,aP (rlm W a.toNat).s (hd (rlm W a.toNat) b).1 (hd (rlm W a.toNat) b).2] W W (nd (rlm W a.toNat).s (hd (rlm W a.toNat) b).1.toNat).m
def yQ(W:Wl)(k:Nat)(a n:Int):Ws :=
 bP [bG W.fs k a 3,dN (rlm W k) n,if (que W a.toNat).length=16 then 1 else 0] W { W with qs:=W.qs.set a.toNat (que W a.toNat++[⟨k,bO (rlm W k) n.toNat⟩]) } 0
def wGo(W:Wl)(k:Nat)(n a:Int):Ws :=
 bP [bG W.fs k n 5,goE W.fs n a] W { fs:=goF W.fs n a,rs:=W.rs.set n.toNat (bB (rlm W n.toNat).s.length),ps:=W.ps.set n.toNat [],qs:=W.qs.set n.toNat [],pt:=W.pt } 0
def vI(W:Wl)(k:Nat):Ws:=bP [fU W.pt (many W) k (aL W k)] W { W with pt:=bJ W.pt k (aL W k) } W.pt.length
def yR(W:Wl)(k:Nat)(a n:Int):Ws:=bP [bG W.fs k a 3,kI W.pt (many W) n k (aL W k) a (aL W a)] W { W with pt:=kJ W.pt n a (aL W a) } 0
def yS(W:Wl)(k:Nat)(a n:Int):Ws :=
 bP [if bits .and .i64 (kN W k) 2=0 then 7 else 0,dN (rlm W k) a,iU W.pt (many W) n k (aL W k) (bO (rlm W k) a.toNat)] W { W with pt:=lD W.pt n (bO (rlm W k) a.toNat) } 0
def yT(W:Wl)(k:Nat)(n:Int):Ws :=
 bP [gK W.pt (many W) n k (aL W k)] W { setR W k { rlm W k with i:=gr (pt W.pt n.toNat).cm 0 } with pt:=jQ W.pt n } 0
def yU(W:Wl)(k:Nat)(n:Int):Ws:=bP [aX W.pt (many W) n k (aL W k)] W { W with pt:=kL W.pt n } 0
def wDo(W:Wl)(k:Nat)(x:Ac):Ws:=bP [(doF (rlm W k) x).e] W (setR W k (doF (rlm W k) x).r) (doF (rlm W k) x).o
def bD(W:Wl)(k:Nat)(x:Ac):Ws :=
 if x.k=9 then KX W k x.n
 else if x.k=13 then KY W k x.n
 else if x.k=12 then sH W k x.a x.b
 else if x.k=10 then yQ W k x.a x.n
 else if x.k=21 then wGo W k x.n x.a
 else if x.k=16 then vI W k
 else if x.k=17 then yR W k x.a x.n
 else if x.k=18 then yS W k x.a x.n
 else if x.k=19 then yT W k x.n
 else if x.k=20 then yU W k x.n
 else wDo W k x
def toldOf(q:Ws):Int:=if q.e=0 then q.o else -q.e
def mZ(W:Wl)(k:Nat)(o:Int):Wl:=setR W k { rlm W k with t:=(rlm W k).t++[o] }
def doW(k:Nat)(W:Wl)(x:Ac):Wl:=mZ (bD W k x).w k (toldOf (bD W k x))
def bQ(W:Wl)(k:Nat)(start:Bool):Wl :=
 if start then setR W k { rlm W k with i:=[] }
 else { setR W k { rlm W k with i:=((que W k).getD 0 ⟨0,[]⟩).g } with qs:=W.qs.set k ((que W k).drop 1) }
def bT(W:Wl)(k:Int)(start:Bool):Int :=
 aQ [fZ W,bC W.fs k,if bits .and .i64 (kN W k.toNat) 1=0 then 7 else 0,if 4760<(rlm W k.toNat).t.length then 1 else 0,if start=false/\(que W k.toNat).length=0 then 8 else 0]
def cB(W:Wl)(k:Int)(start:Bool):Wl:=if bT W k start=0 then (prg W k.toNat).foldl (doW k.toNat) (bQ W k.toNat start) else vH
def aT(W:Wl)(p:Int × Bool):Wl:=if bT W p.1 p.2=0 then cB W p.1 p.2 else W
def lK:Wl->List (Int × Bool)->List Int
 | _,[]=>[]
 | W,p :: l=>bT W p.1 p.2 :: lK (aT W p) l
theorem gJ.set(R:gJ L F)(hk:k<L.length)(Z:x.m=(pt L k).m)(ho:0<=x.o/\x.o<F)(ht:0<=x.t/\x.t<=1000)(hc:x.cm.length<=16)(hs:x.s=true->x.cm.length=0)(hg:fM x.cm=0):gJ (L.set k x) F:=by
 have M:∀ j,j<L.length->(pt (L.set k x) j).m=(pt L j).m:=fun j U=>by
  rw[nT U];split
  ·rename_i e;subst e;exact Z
  ·rfl
 refine⟨by rw[List.length_set];exact R.few,fun i hi=>?_⟩;rw[List.length_set] at hi;obtain⟨h1,I,h3,O,h5,T⟩:=kH.1 (R.ok i hi);obtain⟨q,J,D,a5,E⟩:=R.mate hi;rw[kH,List.length_set,M i hi,J,yk,M q D,E];rw[J] at I;refine⟨?_,I,⟨oaa,rfl⟩,?_⟩
 ·rw[nT hi];split
  ·exact ho
  ·exact h1
 ·rw[nT hi];split
  ·exact⟨ht,⟨hc,hs⟩,hg⟩
  ·exact⟨O,h5,T⟩
theorem gJ.open(R:gJ L F)(a5:L.length<=10)(J:0<=o/\o<F)(M:0<=t/\t<=1000):gJ (bJ L o t) F:=by
 have D:(bJ L o t).length=L.length+2:=by unfold bJ;rw[List.length_append];rfl
 have old:∀ i,i<L.length->pt (bJ L o t) i=pt L i:=fun i hi=>by unfold bJ;exact uW hi
 have O:pt (bJ L o t) L.length=⟨o,t,(L.length:Int)+1,[],false⟩:=by
  rw[mG (by rw[D];omega)];unfold bJ;rw[List.getElem_append_right oaa];simp
 have T:pt (bJ L o t) (L.length+1)=⟨o,t,(L.length:Int),[],false⟩:=by
  rw[mG (by rw[D];omega)];unfold bJ;rw[List.getElem_append_right oaa];simp
 refine⟨oaa,fun i hi=>?_⟩;rw[D] at hi;rw[kH,D];by_cases e:i<L.length
 ·obtain⟨h1,h2,h3,h4,h5,h6⟩:=kH.1 (R.ok i e);obtain⟨q,hq,E,a6,I⟩:=R.mate e;rw[old i e,hq,yk,old q E,I];exact⟨h1,oaa,⟨oaa,rfl⟩,h4,h5,h6⟩
 ·by_cases U:i=L.length
  ·subst U;rw[O];dsimp only;rw[show ((L.length:Int)+1).toNat=L.length+1 by omega,T];exact⟨J,oaa,⟨oaa,rfl⟩,M,⟨oac,oac⟩,rfl⟩
  ·have Z:i=L.length+1:=oaa;subst Z;rw[T];dsimp only;rw[yk,O];exact⟨J,oaa,⟨oaa,oac⟩,M,⟨oac,oac⟩,rfl⟩
theorem yV:∀ {l:List Int},aQ l=0↔∀ e ∈ l,e=0
 | []=>by simp[aQ]
 | e :: l=>by
  unfold aQ;by_cases h:e=0
  ·rw[ye h,yV];simp[h]
  ·rw[yd h];exact⟨fun D=>absurd D h,fun D=>absurd (D e oac) h⟩
theorem KZ:∀ {l:List Rl},lH l=0↔∀ r ∈ l,bI r=0
 | []=>by simp[lH]
 | r :: l=>by
  unfold lH;by_cases h:bI r=0
  ·rw[ye h,KZ];simp[h]
  ·rw[yd h];exact⟨fun D=>absurd D h,fun D=>absurd (D r oac) h⟩
theorem LB:∀ {l:List (List Ac)},lI l=0↔∀ p ∈ l,p.length<=40
 | []=>by simp[lI]
 | p :: l=>by
  unfold lI;by_cases h:40<p.length
  ·rw[ye h];exact⟨fun D=>oaa,fun D=>absurd (D p oac) oaa⟩
  ·rw[yd h,LB];simp;intro _;omega
theorem LC{n:Nat}:∀ {l:List (List Ml)},lJ n l=0↔∀ q ∈ l,dX n q=0
 | []=>by simp[lJ]
 | r :: l=>by
  unfold lJ;by_cases h:dX n r=0
  ·rw[ye h,LC];simp[h]
  ·rw[yd h];exact⟨fun D=>absurd D h,fun D=>absurd (D r oac) h⟩
theorem VD{n:Nat}:∀ {l:List Ml},sG n l=0↔∀ m ∈ l,(0<=m.f/\m.f<=(n:Int)-1)/\bF m.g=0
 | []=>by simp[sG]
 | r :: l=>by
  unfold sG;by_cases h:0<=r.f/\r.f<=(n:Int)-1
  ·rw[ye h];by_cases E:bF r.g=0
   ·rw[ye E,VD];constructor
    ·intro H m F;rcases List.mem_cons.1 F with rfl|F
     ·exact⟨h,E⟩
     ·exact H m F
    ·intro H m F;exact H m (by simp[F])
   ·rw[yd E];exact⟨fun D=>absurd D E,fun D=>absurd (D r oac).2 E⟩
  ·rw[yd h];exact⟨fun D=>oaa,fun D=>absurd (D r oac).1 h⟩
theorem nA{n:Nat}{q:List Ml}:dX n q=0↔q.length<=16/\∀ m ∈ q,(0<=m.f/\m.f<=(n:Int)-1)/\bF m.g=0:=by
 unfold dX;by_cases h:16<q.length
 ·rw[ye h];exact⟨fun D=>oaa,fun D=>absurd D.1 oaa⟩
 ·rw[yd h,VD];exact⟨fun D=>⟨oaa,D⟩,fun D=>D.2⟩
structure aI (W:Wl):Prop where
 fs:gL W.fs
 lr:W.rs.length=W.fs.length
 lp:W.ps.length=W.fs.length
 lq:W.qs.length=W.fs.length
 rs:∀ i,i<W.fs.length->bI (rlm W i)=0
 ps:∀ i,i<W.fs.length->(prg W i).length<=40
 qs:∀ i,i<W.fs.length->dX W.fs.length (que W i)=0
 pt:gJ W.pt W.fs.length
theorem vJ{α:Type}{l:List α}{d:α}{P:α->Prop}:(∀ x ∈ l,P x)↔∀ i,i<l.length->P (l.getD i d):=by
 constructor
 ·intro h i hi;rw[aJ _ _ hi];exact h _ (List.getElem_mem hi)
 ·intro h x D;obtain⟨i,hi,rfl⟩:=List.getElem_of_mem D;have:=h i hi
  rwa [aJ _ _ hi] at this
theorem pI{W:Wl}:fZ W=0↔aI W:=by
 unfold fZ;rw[yV];constructor
 ·intro h;have h1:=h (bS W.fs) oac;have F:=h (if W.rs.length=W.fs.length/\W.ps.length=W.fs.length/\W.qs.length=W.fs.length then 0 else 3) oac;have I:=h (lH W.rs) oac;have J:=h (lI W.ps) oac;have h5:=h (lJ W.fs.length W.qs) oac;have M:=h (dK W.pt W.fs.length) oac
  have D:W.rs.length=W.fs.length/\W.ps.length=W.fs.length/\W.qs.length=W.fs.length:=by
   by_cases e:W.rs.length=W.fs.length/\W.ps.length=W.fs.length/\W.qs.length=W.fs.length
   ·exact e
   ·rw[yd e] at F;omega
  exact⟨xW.1 h1,D.1,D.2.1,D.2.2,fun i hi=>vJ.1 (KZ.1 I) i (by rw[D.1];exact hi),fun i hi=>vJ.1 (LB.1 J) i (by rw[D.2.1];exact hi),fun i hi=>vJ.1 (LC.1 h5) i (by rw[D.2.2];exact hi),qK.1 M⟩
 ·intro R e E;simp only[List.mem_cons,List.not_mem_nil,or_false] at E;rcases E with rfl|rfl|rfl|rfl|rfl|rfl
  ·exact xW.2 R.fs
  ·rw[ye ⟨R.lr,R.lp,R.lq⟩]
  ·exact KZ.2 (vJ.2 (fun i hi=>R.rs i (by rw[<- R.lr];exact hi)))
  ·exact LB.2 (vJ.2 (fun i hi=>R.ps i (by rw[<- R.lp];exact hi)))
  ·exact LC.2 (vJ.2 (fun i hi=>R.qs i (by rw[<- R.lq];exact hi)))
  ·exact qK.2 R.pt
theorem dE{α:Type}(l:List α)(k i:Nat)(v d:α)(D:k<l.length):(l.set k v).getD i d=if i=k then v else l.getD i d:=by
 by_cases e:i=k
 ·subst e;rw[ye rfl,aJ _ _ (by simpa using D),List.getElem_set_self]
 ·rw[yd e,CS l k i v d e]
theorem gW{W:Wl}(D:k<W.rs.length):rlm (setR W k R) i=if i=k then R else rlm W i:=dE _ _ _ _ _ D
theorem aI.setR{W:Wl}(H:aI W){k:Nat}{R:Rl}(D:bI R=0)(E:k<W.fs.length):aI (setR W k R) :=
 ⟨H.fs,by show (W.rs.set k R).length=_;rw[List.length_set];exact H.lr,H.lp,H.lq,fun i hi=>by
  rw[gW (by rw[H.lr];exact E)];split
  ·exact D
  ·exact H.rs i hi,H.ps,H.qs,H.pt⟩
theorem VE{R:Rl}:∀ {n:Nat},jC R n=0->∀ i:Nat,i<n->aP R.s (hd R i).1 (hd R i).2=0
 | 0,_,i,hi=>absurd hi (yB _)
 | n+1,h,i,hi=>by
  unfold jC at h;by_cases h0:jC R n=0
  ·rw[ye h0] at h;by_cases e:i=n
   ·subst e;exact h
   ·exact VE h0 i oaa
  ·rw[yd h0] at h;exact absurd h h0
theorem LF(h:dN R n=0):∃ m:Nat,n=m/\m<=8/\∀ i:Nat,i<m->aP R.s (hd R i).1 (hd R i).2=0:=by
 unfold dN at h;by_cases h0:0<=n/\n<=8
 ·rw[ye h0] at h;exact⟨n.toNat,oaa,oaa,VE h⟩
 ·rw[yd h0] at h;omega
theorem sI(R:Rl)(n:Nat):(bO R n).length=n+1:=by unfold bO;simp
theorem EC(R:Rl)(n:Nat):cl (bO R n) 0=⟨n,(List.range n).map fun i:Nat=>(i:Int)+1⟩:=rfl
theorem EG{n:Nat}(h:i<n):cl (bO R n) (i+1)=⟨(nd R.s (hd R i).1.toNat).m,[]⟩:=by
 rw[kC (by rw[sI];omega)];unfold bO;simp
theorem VF{n:Nat}(hn:n<=8)(h:∀ i:Nat,i<n->aP R.s (hd R i).1 (hd R i).2=0):Right (bO R n):=by
 have split:∀ i,i<(bO R n).length->i=0\/∃ j,j<n/\i=j+1:=fun i hi=>by
  rw[sI] at hi;by_cases e:i=0
  ·exact Or.inl e
  ·exact Or.inr ⟨i-1,oaa,oaa⟩
 refine⟨by rw[sI];omega,fun i hi=>?_,fun i hi=>?_,fun i hi=>?_⟩
 ·rcases split i hi with rfl |⟨j,D,rfl⟩
  ·rw[EC];dsimp only;omega
  ·rw[EG D];obtain⟨wf,k,e,F,I,_⟩:=lC (h j D);rw[e,yk];have:=(jY (wf.node k F)).1;unfold iO at this;simp only[Bool.and_eq_true,decide_eq_true_eq] at this;exact this.2.2
 ·rcases split i hi with rfl |⟨j,D,rfl⟩
  ·rw[EC];simpa using hn
  ·rw[EG D];simp
 ·intro x E;rcases split i hi with rfl |⟨j,D,rfl⟩
  ·rw[EC] at E;simp only[List.mem_map,List.mem_range] at E;obtain⟨a,ha,rfl⟩:=E;exact⟨a+1,oaa,by rw[sI];omega⟩
  ·rw[EG D] at E;cases E
theorem LG(n:Nat)(h:n<=24):bI (bB n)=0/\bB n=⟨List.replicate n fH,List.replicate 16 (0,0),[],[]⟩:=by
 have e:bB n=⟨List.replicate n fH,List.replicate 16 (0,0),[],[]⟩:=by
  unfold bB;rw[ye oaa,yk]
 rw[e];exact⟨rW (Dz n h) oac rfl oac,rfl⟩
theorem kP{L:List Fr}{f x:Int}(h:bG L f t x=0):bS L=0/\bC L f=0/\bC L t=0/\mI L f t x=true:=by
 unfold bG at h;by_cases h1:mY L [f,t]=0
 ·rw[yd (yL h1)] at h;by_cases D:1<=x/\x<=5
  ·rw[yd (yL D)] at h;by_cases E:mI L f t x=true
   ·obtain⟨a,b,c⟩:=UY h1;exact⟨a,b,c,E⟩
   ·rw[yd E] at h;omega
  ·rw[ye D] at h;omega
 ·rw[ye h1] at h;exact absurd h h1
theorem yX{W V:Wl}:(bP Es W V o).w=W\/(aQ Es=0/\bP Es W V o=⟨0,V,o⟩):=by
 unfold bP;by_cases h:aQ Es=0
 ·rw[ye h];exact Or.inr ⟨h,rfl⟩
 ·rw[yd h];exact Or.inl rfl
theorem bM{e:Int}{l:List Int}(h:aQ (e :: l)=0):e=0/\aQ l=0:=by
 rw[yV] at h;exact⟨h e oac,yV.2 (fun x D=>h x (by simp[D]))⟩
def Mf:Ac:=⟨0,0,0,0,0⟩
def ac(X:List Ac)(i:Nat):Ac:=X.getD i Mf
def dY(w:Wd)(a:OA)(X:List Ac):Prop :=
 ∀ i,i<X.length->∃ b o,a=some ⟨b,o,none⟩/\w.cell? ⟨b,o+i*5,none⟩=some (.int .i64 (ac X i).k)/\w.cell? ⟨b,o+i*5+1,none⟩=some (.int .i64 (ac X i).a)/\w.cell? ⟨b,o+i*5+2,none⟩=some (.int .i64 (ac X i).b)/\w.cell? ⟨b,o+i*5+3,none⟩=some (.int .i64 (ac X i).c)/\w.cell? ⟨b,o+i*5+4,none⟩=some (.int .i64 (ac X i).n)
theorem dY.below{w:World}{X:List Ac}(h:dY w a X)(hb:Bl w w'):dY w' a X:=fun i hi=>by
 obtain⟨b,o,e,c0,c1,c2,c3,c4⟩:=h i hi;exact⟨b,o,e,aA c0 hb,aA c1 hb,aA c2 hb,aA c3 hb,aA c4 hb⟩
def Mg(f:Nat):Prop:=∀ (S:List Nd) (p u:Int) (a:OA) (c:Nat) (W:Wd),WF S->aD W a S ->
 yO f #[.agg #[.slice a S.length c],.agg #[.int .i64 p,.int .i64 u]] W fun e w' => ∃ (x:Nd) (ka:OA) (kl kc:Nat),e=.returned (.tuple #[.agg #[.bool x.u,.int .i64 x.n,.int .i64 x.t,.int .i64 x.m,.int .i64 x.p,.slice ka kl kc,.int .i64 x.h,.bool x.c],.int .i64 (aP S p u)])/\Below W.heap.size W w' /\(aP S p u=0->x=nd S p.toNat)/\(aP S p u≠0->x=oJ)
theorem vK:Mg 14:=fun S p u a c W wf I=>by
 have F:S.length<=9223372036854775807:=by have:=wf.small;omega
 by_cases D:aP S p u=0
 ·obtain⟨_,k,e,J,O,M⟩:=lC D;subst e;rw[yk,D];exact(find_ok a c S k u W F wf.big I J D (by have:=sK wf k J;omega)).mono (fun e w' ⟨g,E,hb,hi⟩=>⟨nd S k,_,_,_,E,hb,fun _=>rfl,fun h=>absurd rfl h⟩)
 ·exact(AU a c S p u _ W F wf.big I rfl D).mono (fun e w' ⟨E,hb⟩=>⟨oJ,_,_,_,E,hb,fun h=>absurd h D,fun _=>rfl⟩)
theorem lN{W:Wd}{b t:Nat}{D v1:Value}(h:W.heap[b]?=some (.cells #[D,v1] t (0,0))):W.cell? ⟨b,0,none⟩=some D/\W.cell? ⟨b,1,none⟩=some v1/\b<W.heap.size :=
 ⟨by simp[World.cell?,h],by simp[World.cell?,h],aR h⟩
theorem Mo:(prog.info? 121).map (fun i=>(i.zero,i.size,i.bytes))=some (some (.agg #[.int .i64 0,.int .i64 0,.int .i64 0,.slice none 0 0,.bool false]),5,56):=oad
def eO(x:Pt)(v:Value):List Value:=[.int .i64 x.o,.int .i64 x.t,.int .i64 x.m,v,.bool x.s]
def gN(L:List Pt)(K:Nat->Value):List Value:=(List.range L.length).flatMap fun i=>eO (pt L i) (K i)
theorem Mq(x:Pt)(v:Value):(eO x v).length=5:=rfl
theorem yZ(L:List Pt)(K:Nat->Value):∀ q,((List.range q).flatMap fun i=>eO (pt L i) (K i)).length=q*5
 | 0=>rfl
 | q+1=>by rw[List.range_succ,List.flatMap_append,List.length_append,yZ L K q];simp[eO];omega
theorem nZ(L:List Pt)(K:Nat->Value):(gN L K).length=L.length*5:=yZ L K _
theorem VJ(L:List Pt)(K:Nat->Value){i j:Nat}(D:j<5):∀ {q:Nat},i<q->((List.range q).flatMap fun i=>eO (pt L i) (K i))[i*5+j]?=(eO (pt L i) (K i))[j]?
 | 0,hi=>oaa
 | q+1,hi=>by
  rw[List.range_succ,List.flatMap_append];by_cases h:i<q
  ·rw[List.getElem?_append_left (by rw[yZ];omega)];exact VJ L K D h
  ·have e:i=q:=oaa;subst e;rw[List.getElem?_append_right (by rw[yZ];omega),yZ,show i*5+j-i*5=j by omega];simp
theorem vM{j:Nat}(hi:i<L.length)(D:j<5):(gN L K)[i*5+j]?=(eO (pt L i) (K i))[j]?:=VJ L K D hi
theorem LU{D:List Value}(hl:D.length=L.length*5)(h:∀ i j,i<L.length->j<5->D[i*5+j]?=(eO (pt L i) (K i))[j]?):D=gN L K:=by
 refine List.ext_getElem? (fun m=>?_);by_cases E:m<L.length*5
 ·have e:m=m / 5*5+m % 5:=oaa
  have h1:=h (m / 5) (m % 5) oaa oaa;rw[<- e] at h1;rw[h1,<- vM (L:=L) (K:=K) oaa oaa,<- e]
 ·rw[List.getElem?_eq_none oaa,List.getElem?_eq_none (by rw[nZ];omega)]
theorem Mr{f:Nat}{u:Value}(J:k<L.length)(I:f<5)(F:eO x v=(eO (pt L k) (K k)).set f u) :
  (gN L K).set (k*5+f) u=gN (L.set k x) (fun i=>if i=k then v else K i):=by
 refine LU (by rw[List.length_set,nZ,List.length_set]) (fun i j hi E=>?_);rw[List.length_set] at hi;rw[nT hi];by_cases e:k=i
 ·subst e;rw[ye rfl];simp only[if_true];rw[F,List.getElem?_set];by_cases D:f=j
  ·subst D;rw[ye rfl,ye (by rw[nZ];omega),List.getElem?_set_self (by rw[Mq];omega)]
  ·rw[yd oaa,vM hi E,List.getElem?_set_ne D]
 ·rw[yd e,List.getElem?_set_ne oaa,vM hi E];simp only[yd (show ¬ i=k from fun h=>e h.symm)]
theorem VK(L:List Pt)(K:Nat->Value)(x:Pt)(v:Value):gN L K++eO x v=gN (L++[x]) (fun i=>if i=L.length then v else K i):=by
 refine LU (by rw[List.length_append,nZ,List.length_append];simp[eO];omega) (fun i j hi E=>?_);rw[List.length_append,List.length_singleton] at hi;by_cases e:i<L.length
 ·rw[List.getElem?_append_left (by rw[nZ];omega),vM e E,uW e];simp only[yd (show ¬ i=L.length by omega)]
 ·have D:i=L.length:=oaa
  subst D;rw[List.getElem?_append_right (by rw[nZ];omega),nZ,show L.length*5+j-L.length*5=j by omega,UM];simp only[if_true]
def mM(w:Wd)(v:Value)(C:List (List Cl)):Prop:=∃ D E,v=.slice D C.length E/\kQ w D E C
theorem mM.nil(w:Wd):mM w (.slice none 0 0) []:=⟨none,0,rfl,⟨fun _=>rfl,yr _,oaa⟩,LM w⟩
theorem VL{B:Nat}(h:w.ownsRow B 121 5 v L.length (gN L K))(hg:∀ i,i<L.length->mM w (K i) (pt L i).cm):∃ a c,v=.slice a L.length c/\cK w a L:=by
 have hc:=fun g hg=>h.cells (g:=g) hg;rcases h.2 with ⟨rfl,h0⟩ |⟨g,cap,J,rfl,_⟩
 ·exact⟨none,0,by rw[h0],fun i hi=>oaa⟩
 ·refine⟨some ⟨g,0,none⟩,cap,rfl,fun i hi=>⟨g,0,rfl,?_⟩⟩
  have D:∀ j u,j<5->(eO (pt L i) (K i))[j]?=some u->w.cell? ⟨g,0+i*5+j,none⟩=some u:=fun j u M O=>by
   have:=hc g rfl (i*5+j) u (by rw[vM hi M];exact O);rw[yD]
   rwa [Addr.add_lit,yD] at this
  obtain⟨F,I,e,E⟩:=hg i hi;exact⟨D 0 _ oaa rfl,D 1 _ oaa rfl,D 2 _ oaa rfl,F,I,D 3 _ oaa (by rw[<- e];rfl),E,D 4 _ oaa rfl⟩
def zA(H E:Int):Int:=if H≠0 then H else E
def SlA(a:OA)(n c:Nat):Prop:=(a=none->c=0)/\n<=c/\c<=9223372036854775807
def Ms:Prop:=∀ (a:OA) (c:Nat) (L:List Pt) (Fr:Int) (w:Wd),L.length<=9223372036854775807->iH L->SlA a L.length c->cK w a L ->
 yO 37 #[.slice a L.length c,.int .i64 Fr] w fun e w' => e=.returned (.int .i64 (dK L Fr))/\Below w.heap.size w w'
def Mt(C:List (List Cl)):Prop:=C.length<=17/\∀ j,j<C.length->Right (gr C j)
def LW(L:List Pt):Prop:=L.length<=100/\∀ i,i<L.length->Mt (pt L i).cm
theorem VM(R:gJ L F):LW L:=⟨by have:=R.few;omega,fun i hi=>by
 obtain⟨_,_,_,_,h5,D⟩:=kH.1 (R.ok i hi);exact⟨oaa,rY.1 D⟩⟩
theorem LW.big(h:LW L):iH L:=fun i hi=>by
 obtain⟨h1,D⟩:=h.2 i hi;exact⟨oaa,fun j E=>⟨by have:=(D j E).few;omega,(D j E).big⟩⟩
def Q1:List Pt:=[⟨1,0,1,[],false⟩,⟨1,0,0,[],false⟩]
def Q2:List Pt:=[⟨1,0,1,[],false⟩,⟨1,0,0,[[⟨5,[]⟩]],false⟩]
def bU(X:Nat->Prop)(w:Wd)(a:OA)(L:List Pt):Prop:=∀ w', aC X w w' -> cK w' a L
theorem bU.at(h:bU X w a L):cK w a L:=h w (aC.refl X w)
theorem bU.off{w:World}(h:bU X w a L)(F:aC X w w'):bU X w' a L:=fun D E=>h D (F.trans E)
theorem bU.grow{Y:Nat->Prop}{w1:Wd}(h:bU X w a L)(D:aC X w w1)(F:∀ b,b<w.heap.size->Y b->X b):bU Y w1 a L:=fun w' E=>h w' (QE D.size D.block F E)
def Mv:Prop:=∀ (X:Nat->Prop) (a:OA) (c:Nat) (L:List Pt) (Fr o t:Int) (w:Wd),(∀ b,X b->b<w.heap.size)->L.length<=9223372036854775807->iH L->SlA a L.length c->bU X w a L ->
 yO 142 #[.slice a L.length c,.int .i64 Fr,.int .i64 o,.int .i64 t] w fun e w' => ∃ D E,e=.returned (.tuple #[.slice D (jB L Fr o t).length E,.int .i64 (mX L Fr o t),.int .i64 (fU L Fr o t)])/\Below w.heap.size w w' /\ SlA D (jB L Fr o t).length E/\bU X w' D (jB L Fr o t)
def Mw:Prop:=∀ (X:Nat->Prop) (a:OA) (c:Nat) (L:List Pt) (Fr k o t D th:Int) (w:Wd),(∀ b,X b->b<w.heap.size)->L.length<=9223372036854775807->iH L->SlA a L.length c->bU X w a L ->
 yO 144 #[.slice a L.length c,.int .i64 Fr,.int .i64 k,.int .i64 o,.int .i64 t,.int .i64 D,.int .i64 th] w fun e w' => ∃ E F,e=.returned (.tuple #[.slice E (uX L Fr k o t D th).length F,.int .i64 (kI L Fr k o t D th)])/\Below w.heap.size w w' /\ SlA E (uX L Fr k o t D th).length F/\bU X w' E (uX L Fr k o t D th)
def Mx:Prop:=∀ (X:Nat->Prop) (a:OA) (c:Nat) (L:List Pt) (Fr k o t:Int) (ga:OA) (gc:Nat) (G:List Cl) (w:Wd),(∀ b,X b->b<w.heap.size)->L.length<=9223372036854775807->iH L->SlA a L.length c->bU X w a L->G.length<=9223372036854775807->fK G->aO w ga G ->
 yO 145 #[.slice a L.length c,.int .i64 Fr,.int .i64 k,.int .i64 o,.int .i64 t,.agg #[.slice ga G.length gc]] w fun e w' => ∃ D E,e=.returned (.tuple #[.slice D (uY L Fr k o t G).length E,.int .i64 (iU L Fr k o t G)])/\Below w.heap.size w w' /\ SlA D (uY L Fr k o t G).length E/\bU X w' D (uY L Fr k o t G)
def Na:Prop:=∀ (X:Nat->Prop) (a:OA) (c:Nat) (L:List Pt) (Fr k o t:Int) (w:Wd),(∀ b,X b->b<w.heap.size)->L.length<=9223372036854775807->iH L->SlA a L.length c->bU X w a L ->
 yO 146 #[.slice a L.length c,.int .i64 Fr,.int .i64 k,.int .i64 o,.int .i64 t] w fun e w' => ∃ D E ga gc,e=.returned (.tuple #[.slice D (uZ L Fr k o t).length E,.agg #[.slice ga (xV L Fr k o t).length gc],.int .i64 (gK L Fr k o t)])/\Below w.heap.size w w' /\ SlA D (uZ L Fr k o t).length E/\bU X w' D (uZ L Fr k o t)/\vN X w' ga (xV L Fr k o t)
def Nb:Prop:=∀ (X:Nat->Prop) (a:OA) (c:Nat) (L:List Pt) (Fr k o t:Int) (w:Wd),(∀ b,X b->b<w.heap.size)->L.length<=9223372036854775807->iH L->SlA a L.length c->bU X w a L ->
 yO 147 #[.slice a L.length c,.int .i64 Fr,.int .i64 k,.int .i64 o,.int .i64 t] w fun e w' => ∃ D E,e=.returned (.tuple #[.slice D (vB L Fr k o t).length E,.int .i64 (aX L Fr k o t)])/\Below w.heap.size w w' /\ SlA D (vB L Fr k o t).length E/\bU X w' D (vB L Fr k o t)
theorem aI.frames{W:Wl}(H:aI W){L:List Fr}(D:gL L)(hl:L.length=W.fs.length):aI { W with fs:=L } :=
 ⟨D,H.lr.trans hl.symm,H.lp.trans hl.symm,H.lq.trans hl.symm,fun i hi=>H.rs i (by rw[<- hl];exact hi),fun i hi=>H.ps i (by rw[<- hl];exact hi),fun i hi=>by show dX L.length _=0;rw[hl];exact H.qs i (by rw[<- hl];exact hi),by show gJ W.pt (L.length:Int);rw[hl];exact H.pt⟩
theorem aI.ports{W:Wl}(H:aI W){P:List Pt}(D:gJ P W.fs.length):aI { W with pt:=P }:=⟨H.fs,H.lr,H.lp,H.lq,H.rs,H.ps,H.qs,D⟩
theorem aI.queue{W:Wl}(H:aI W){a:Nat}{q:List Ml}(ha:a<W.fs.length)(D:dX W.fs.length q=0):aI { W with qs:=W.qs.set a q } :=
 ⟨H.fs,H.lr,H.lp,by show (W.qs.set a q).length=_;rw[List.length_set];exact H.lq,H.rs,H.ps,fun i hi=>by
  show dX W.fs.length ((W.qs.set a q).getD i [])=0;rw[dE _ _ _ _ _ (by rw[H.lq];exact ha)];split
  ·exact D
  ·exact H.qs i hi,H.pt⟩
theorem aI.prog{W:Wl}(H:aI W){a:Nat}{q:List Ac}(ha:a<W.fs.length)(D:q.length<=40):aI { W with ps:=W.ps.set a q } :=
 ⟨H.fs,H.lr,by show (W.ps.set a q).length=_;rw[List.length_set];exact H.lp,H.lq,H.rs,fun i hi=>by
  show ((W.ps.set a q).getD i []).length<=40;rw[dE _ _ _ _ _ (by rw[H.lp];exact ha)];split
  ·exact D
  ·exact H.ps i hi,H.qs,H.pt⟩
theorem iV{L:List Fr}{k:Int}(h:bC L k=0):∃ q:Nat,k=q/\q<L.length/\(fr L q).g=false:=DU h
theorem VY{W:Wl}(H:aI W)(k:Nat)(n:Int):aI { W with fs:=fV W.fs n }:=H.frames (UU H.fs n) (mH _ _)
theorem EO{W:Wl}(H:aI W)(T:k<W.fs.length){a:Int}(h:aQ [bG W.fs k a 3,dN (rlm W k) n,if (que W a.toNat).length=16 then 1 else 0]=0) :
  aI { W with qs:=W.qs.set a.toNat (que W a.toNat++[⟨k,bO (rlm W k) n.toNat⟩]) }:=by
 obtain⟨h1,h⟩:=bM h;obtain⟨J,h⟩:=bM h;obtain⟨F,_⟩:=bM h;obtain⟨_,_,M,_⟩:=kP h1;obtain⟨q,rfl,I,_⟩:=iV M;obtain⟨m,rfl,O,E⟩:=LF J;rw[yk] at F |-;rw[yk];obtain⟨g1,g2⟩:=nA.1 (H.qs q I);refine H.queue I (nA.2 ⟨?_,fun x D=>?_⟩)
 ·rw[List.length_append];by_cases e:(que W q).length=16
  ·rw[ye e] at F;omega
  ·simp;omega
 ·rcases List.mem_append.1 D with D|D
  ·exact g2 x D
  ·have:x=⟨k,bO (rlm W k) m⟩:=(by simpa using D);subst this;exact⟨⟨by show (0:Int)<=(k:Int);omega,by show (k:Int)<=(W.fs.length:Int)-1;omega⟩,pE.2 (VF O E)⟩
theorem MB{W:Wl}(H:aI W){a:Int}(h:aQ [bG W.fs k n 5,goE W.fs n a]=0) :
  aI { fs:=goF W.fs n a,rs:=W.rs.set n.toNat (bB (rlm W n.toNat).s.length),ps:=W.ps.set n.toNat [],qs:=W.qs.set n.toNat [],pt:=W.pt }:=by
 obtain⟨h1,h⟩:=bM h;obtain⟨F,_⟩:=bM h;obtain⟨_,_,I,_⟩:=kP h1;obtain⟨q,rfl,D,_⟩:=iV I;rw[yk];have hs:=(gI (H.rs q D)).1.small;have H1:=H.setR (LG _ hs).1 D;have H2:=aI.prog (q:=[]) H1 D oac;have E:=aI.queue (q:=[]) H2 D rfl;exact aI.frames (L:=goF W.fs q a) E (VC F) (nV _ _ _)
theorem ER{W:Wl}(H:aI W)(h:fU W.pt (many W) k (aL W k)=0):aI { W with pt:=bJ W.pt k (aL W k) }:=by
 unfold fU at h;by_cases h1:dK W.pt (many W)=0
 ·rw[yd (yL h1)] at h;by_cases D:0<=(k:Int)/\(k:Int)<many W
  ·rw[yd (yL D)] at h;by_cases E:0<=aL W k/\aL W k<=1000
   ·rw[yd (yL E)] at h;by_cases F:10<W.pt.length
    ·rw[ye F] at h;omega
    ·exact H.ports (H.pt.open oaa D E)
   ·rw[ye E] at h;omega
  ·rw[ye D] at h;omega
 ·rw[ye h1] at h;exact absurd h h1
theorem ES{W:Wl}(H:aI W){a:Int}(h:kI W.pt (many W) n k (aL W k) a (aL W a)=0):aI { W with pt:=kJ W.pt n a (aL W a) }:=by
 unfold kI at h;by_cases h1:aX W.pt (many W) n k (aL W k)=0
 ·rw[yd (yL h1)] at h;by_cases D:0<=a/\a<many W
  ·rw[yd (yL D)] at h;by_cases E:0<=aL W a/\aL W a<=1000
   ·obtain⟨R,q,rfl,F,_,_,hs⟩:=lF h1;obtain⟨_,_,_,_,h5,I⟩:=kH.1 (R.ok q F);unfold kJ;rw[yk];exact H.ports (R.set F rfl D E h5.1 h5.2 I)
   ·rw[ye E] at h;omega
  ·rw[ye D] at h;omega
 ·rw[ye h1] at h;exact absurd h h1
theorem ET{W:Wl}(H:aI W){g:List Cl}(h:iU W.pt (many W) n k (aL W k) g=0):aI { W with pt:=lD W.pt n g }:=by
 unfold iU at h;by_cases h1:aX W.pt (many W) n k (aL W k)=0
 ·rw[yd (yL h1)] at h;by_cases E:bF g=0
  ·rw[yd (yL E)] at h;by_cases F:(kK W.pt n).s=true
   ·rw[ye F] at h;omega
   ·rw[yd F] at h;by_cases J:(kK W.pt n).cm.length=16
    ·rw[ye J] at h;omega
    ·obtain⟨R,q,rfl,Z,_,_,hs⟩:=lF h1;obtain⟨m,M,D,T,U⟩:=R.mate Z;obtain⟨p1,p2,p3,p4,p5,p6⟩:=kH.1 (R.ok m D);have e:kK W.pt (q:Int)=pt W.pt m:=(by unfold kK;rw[yk,M,yk]);unfold lD;rw[e] at F J |-;rw[yk,M,yk];refine H.ports (R.set D rfl p1 p4 (by show ((pt W.pt m).cm++[bL g]).length<=16;rw[List.length_append];simp;have:=p5.1;omega) (fun hs=>absurd hs F) ?_);rw[rY];intro i hi;by_cases I:i<(pt W.pt m).cm.length
     ·show Right (gr ((pt W.pt m).cm++[bL g]) i);rw[KC I];exact rY.1 p6 i I
     ·have O:i=(pt W.pt m).cm.length:=(by simp at hi;omega);subst O;show Right (gr ((pt W.pt m).cm++[bL g]) _);rw[KD];exact(pE.1 E).copy
  ·rw[ye E] at h;exact absurd h E
 ·rw[ye h1] at h;exact absurd h h1
theorem zF{W:Wl}(H:aI W)(F:k<W.fs.length)(h:gK W.pt (many W) n k (aL W k)=0):aI { setR W k { rlm W k with i:=gr (pt W.pt n.toNat).cm 0 } with pt:=jQ W.pt n }:=by
 unfold gK at h;by_cases h1:aX W.pt (many W) n k (aL W k)=0
 ·rw[yd (yL h1)] at h;by_cases E:(pt W.pt n.toNat).cm.length=0
  ·rw[ye E] at h;omega
  ·obtain⟨R,q,rfl,I,_,_,hs⟩:=lF h1;rw[yk] at E |-;obtain⟨M,Z,p3,O,J,T⟩:=kH.1 (R.ok q I);have hg:=rY.1 T;obtain⟨r1,r2,r3,U⟩:=gI (H.rs k F);have H1:=H.setR (R:={ rlm W k with i:=gr (pt W.pt q).cm 0 }) (rW r1 r2 (pE.2 (hg 0 oaa)) U) F;unfold jQ;rw[yk];refine H1.ports (R.set I rfl M O (by show ((pt W.pt q).cm.drop 1).length<=16;rw[List.length_drop];have:=J.1;omega) (fun h=>by have:=J.2 h;omega) ?_);rw[rY];intro i hi
   have D:i+1<(pt W.pt q).cm.length:=by
    have:i<((pt W.pt q).cm.drop 1).length:=hi;rw[List.length_drop] at this;omega
   show Right (gr ((pt W.pt q).cm.drop 1) i);rw[KE _ D];exact hg (i+1) D
 ·rw[ye h1] at h;exact absurd h h1
theorem EU{W:Wl}(H:aI W)(h:aX W.pt (many W) n k (aL W k)=0):aI { W with pt:=kL W.pt n }:=by
 obtain⟨R,q,rfl,D,_,_,hs⟩:=lF h;obtain⟨E,I,J,F,M,O⟩:=kH.1 (R.ok q D);unfold kL;rw[yk];exact H.ports (R.set D rfl E F oac (fun _=>rfl) rfl)
theorem nD{W V:Wl}(H:aI W)(E:aQ Es=0->aI V):aI (bP Es W V o).w:=by
 rcases yX (Es:=Es) (W:=W) (V:=V) (o:=o) with h |⟨h,D⟩
 ·rw[h];exact H
 ·rw[D];exact E h
theorem VZ{W:Wl}(H:aI W)(D:k<W.fs.length)(x:Ac):aI (bD W k x).w:=by
 unfold bD
 repeat' split
 ·exact nD H (fun _=>H)
 ·exact nD H (fun _=>VY H k _)
 ·exact nD H (fun _=>H)
 ·exact nD H (fun h=>EO H D h)
 ·exact nD H (fun h=>MB H h)
 ·exact nD H (fun h=>ER H (bM h).1)
 ·exact nD H (fun h=>ES H (bM (bM h).2).1)
 ·exact nD H (fun h=>ET H (bM (bM (bM h).2).2).1)
 ·exact nD H (fun h=>zF H D (bM h).1)
 ·exact nD H (fun h=>EU H (bM h).1)
 ·exact nD H (fun h=>H.setR (xS (bM h).1).2.2 D)
theorem MC{W V:Wl}(E:V.fs.length=W.fs.length):(bP Es W V o).w.fs.length=W.fs.length:=by
 rcases yX (Es:=Es) (W:=W) (V:=V) (o:=o) with h |⟨h,D⟩
 ·rw[h]
 ·rw[D];exact E
theorem ME(W:Wl)(k:Nat)(x:Ac):(bD W k x).w.fs.length=W.fs.length:=by
 unfold bD
 repeat' split
 all_goals first|exact MC rfl|exact MC (mH _ _)|exact MC (nV _ _ _)
