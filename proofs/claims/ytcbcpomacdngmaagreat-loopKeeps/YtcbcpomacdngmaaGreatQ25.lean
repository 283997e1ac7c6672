/-
  x
-/
import Derived.Test.YtcbcpomacdngmaaGreatQ24
import Derived.Laws.OwnMore
namespace Go.Proofs.YtcbcpomacdngmaaGreat
set_option maxRecDepth 100000
set_option maxHeartbeats 4000000
set_option linter.unusedVariables false
open Go.RowKit Go.ChangeShapes Go.WideShapes
structure Ml where
 f:Int
 g:List Cl
structure Wl where
 fs:List Fr
 rs:List Rl
 ps:List (List Ac)
 qs:List (List Ml)
 pt:List Pt
def zka:Wl:=⟨[],[],[],[],[]⟩
def rlm(W:Wl)(k:Nat):Rl:=W.rs.getD k zbN
def prg(W:Wl)(k:Nat):List Ac:=W.ps.getD k []
def que(W:Wl)(k:Nat):List Ml:=W.qs.getD k []
def zcP:List Rl->Int
 | []=>0
 | r :: l=>if zaG r=0 then zcP l else zaG r
def zer:List (List Ac)->Int
 | []=>0
 | p :: l=>if 40<p.length then 1 else zer l
def zjm(n:Nat):List Ml->Int
 | []=>0
 | m :: l=>if 0<=m.f/\m.f<=(n:Int)-1 then (if zaA m.g=0 then zjm n l else zaA m.g) else 4
def zbZ(n:Nat)(q:List Ml):Int:=if 16<q.length then 1 else zjm n q
def zcO(n:Nat):List (List Ml)->Int
 | []=>0
 | q :: l=>if zbZ n q=0 then zcO n l else zbZ n q
def zaq:List Int->Int
 | []=>0
 | e :: l=>if e=0 then zaq l else e
def zbg(W:Wl):Int :=
 zaq [zaO W.fs,if W.rs.length=W.fs.length/\W.ps.length=W.fs.length/\W.qs.length=W.fs.length then 0 else 3,zcP W.rs,zer W.ps,zcO W.fs.length W.qs,zbd W.pt W.fs.length]
def zdg(R:Rl):Nat->Int
 | 0=>0
 | i+1=>if zdg R i=0 then zaz R.s (hd R i).1 (hd R i).2 else zdg R i
def zby(R:Rl)(n:Int):Int:=if 0<=n/\n<=8 then zdg R n.toNat else 2
def zbj(R:Rl)(n:Nat):List Cl:=⟨n,(List.range n).map fun i:Nat=>(i:Int)+1⟩ ::(List.range n).map fun i:Nat=>⟨(nd R.s (hd R i).1.toNat).m,[]⟩
structure Ws where
 e:Int
 w:Wl
 o:Int
def zff(Es:List Int)(W V:Wl)(o:Int):Ws:=if zaq Es=0 then ⟨0,V,o⟩ else ⟨zaq Es,W,0⟩
def zaE(W:Wl)(k:Int):Int:=(fr W.fs k.toNat).t
def zjr(W:Wl)(k:Nat):Int:=(fr W.fs k).m
def setR(W:Wl)(k:Nat)(R:Rl):Wl:={ W with rs:=W.rs.set k R }
def many(W:Wl):Int:=(W.fs.length:Int)
def zBE(W:Wl)(k:Nat)(n:Int):Ws:=zff [zdI W.fs k n 2] W W (zku W.fs n:Nat)
def zxZ(W:Wl)(k:Nat)(n:Int):Ws:=zff [zdI W.fs k n 4] W { W with fs:=zkc W.fs n } 0
def zlm(W:Wl)(k:Nat)(a b:Int):Ws :=
 zff [zdI W.fs k a 1,if isH b then 0 else 4,zaz (rlm W a.toNat).s (hd (rlm W a.toNat) b).1 (hd (rlm W a.toNat) b).2] W W (nd (rlm W a.toNat).s (hd (rlm W a.toNat) b).1.toNat).m
def zAU(W:Wl)(k:Nat)(a n:Int):Ws :=
 zff [zdI W.fs k a 3,zby (rlm W k) n,if (que W a.toNat).length=16 then 1 else 0] W { W with qs:=W.qs.set a.toNat (que W a.toNat++[⟨k,zbj (rlm W k) n.toNat⟩]) } 0
def wGo(W:Wl)(k:Nat)(n a:Int):Ws :=
 zff [zdI W.fs k n 5,goE W.fs n a] W { fs:=goF W.fs n a,rs:=W.rs.set n.toNat (zdp (rlm W n.toNat).s.length),ps:=W.ps.set n.toNat [],qs:=W.qs.set n.toNat [],pt:=W.pt } 0
def zvm(W:Wl)(k:Nat):Ws:=zff [zfF W.pt (many W) k (zaE W k)] W { W with pt:=zcz W.pt k (zaE W k) } W.pt.length
def zAQ(W:Wl)(k:Nat)(a n:Int):Ws:=zff [zdI W.fs k a 3,zkz W.pt (many W) n k (zaE W k) a (zaE W a)] W { W with pt:=zhW W.pt n a (zaE W a) } 0
def zAS(W:Wl)(k:Nat)(a n:Int):Ws :=
 zff [if bits .and .i64 (zjr W k) 2=0 then 7 else 0,zby (rlm W k) a,zib W.pt (many W) n k (zaE W k) (zbj (rlm W k) a.toNat)] W { W with pt:=ziH W.pt n (zbj (rlm W k) a.toNat) } 0
def zAR(W:Wl)(k:Nat)(n:Int):Ws :=
 zff [zfI W.pt (many W) n k (zaE W k)] W { setR W k { rlm W k with i:=gr (pt W.pt n.toNat).cm 0 } with pt:=zia W.pt n } 0
def zAT(W:Wl)(k:Nat)(n:Int):Ws:=zff [zaU W.pt (many W) n k (zaE W k)] W { W with pt:=zij W.pt n } 0
def wDo(W:Wl)(k:Nat)(x:Ac):Ws:=zff [(doF (rlm W k) x).e] W (setR W k (doF (rlm W k) x).r) (doF (rlm W k) x).o
def zdv(W:Wl)(k:Nat)(x:Ac):Ws :=
 if x.k=9 then zBE W k x.n
 else if x.k=13 then zxZ W k x.n
 else if x.k=12 then zlm W k x.a x.b
 else if x.k=10 then zAU W k x.a x.n
 else if x.k=21 then wGo W k x.n x.a
 else if x.k=16 then zvm W k
 else if x.k=17 then zAQ W k x.a x.n
 else if x.k=18 then zAS W k x.a x.n
 else if x.k=19 then zAR W k x.n
 else if x.k=20 then zAT W k x.n
 else wDo W k x
def toldOf(q:Ws):Int:=if q.e=0 then q.o else -q.e
def zml(W:Wl)(k:Nat)(o:Int):Wl:=setR W k { rlm W k with t:=(rlm W k).t++[o] }
def doW(k:Nat)(W:Wl)(x:Ac):Wl:=zml (zdv W k x).w k (toldOf (zdv W k x))
def zbc(W:Wl)(k:Nat)(start:Bool):Wl :=
 if start then setR W k { rlm W k with i:=[] }
 else { setR W k { rlm W k with i:=((que W k).getD 0 ⟨0,[]⟩).g } with qs:=W.qs.set k ((que W k).drop 1) }
def zcp(W:Wl)(k:Int)(start:Bool):Int :=
 zaq [zbg W,zax W.fs k,if bits .and .i64 (zjr W k.toNat) 1=0 then 7 else 0,if 4760<(rlm W k.toNat).t.length then 1 else 0,if start=false/\(que W k.toNat).length=0 then 8 else 0]
def zbz(W:Wl)(k:Int)(start:Bool):Wl:=if zcp W k start=0 then (prg W k.toNat).foldl (doW k.toNat) (zbc W k.toNat start) else zka
def zdG(W:Wl)(p:Int × Bool):Wl:=if zcp W p.1 p.2=0 then zbz W p.1 p.2 else W
def zny:Wl->List (Int × Bool)->List Int
 | _,[]=>[]
 | W,p :: l=>zcp W p.1 p.2 :: zny (zdG W p) l
theorem zdu.set{L:List Pt}{F:Int}(R:zdu L F){k:Nat}{x:Pt}(hk:k<L.length)(Z:x.m=(pt L k).m)(ho:0<=x.o/\x.o<F)(ht:0<=x.t/\x.t<=1000)(hc:x.cm.length<=16)(hs:x.s=true->x.cm.length=0)(hg:zbq x.cm=0):zdu (L.set k x) F:=by
 have M:∀ j,j<L.length->(pt (L.set k x) j).m=(pt L j).m:=fun j U=>by
  rw[zle U];split
  ·rename_i e;subst e;exact Z
  ·rfl
 refine⟨by rw[List.length_set];exact R.few,fun i hi=>?_⟩;rw[List.length_set] at hi;obtain⟨h1,I,h3,O,h5,T⟩:=zbm.1 (R.ok i hi);obtain⟨q,J,D,a5,E⟩:=R.mate hi;rw[zbm,List.length_set,M i hi,J,yj,M q D,E];rw[J] at I;refine⟨?_,I,⟨by omega,rfl⟩,?_⟩
 ·rw[zle hi];split
  ·exact ho
  ·exact h1
 ·rw[zle hi];split
  ·exact⟨ht,⟨hc,hs⟩,hg⟩
  ·exact⟨O,h5,T⟩
theorem zdu.open{L:List Pt}{F o t:Int}(R:zdu L F)(a5:L.length<=10)(J:0<=o/\o<F)(M:0<=t/\t<=1000):zdu (zcz L o t) F:=by
 have D:(zcz L o t).length=L.length+2:=by unfold zcz;rw[List.length_append];rfl
 have old:∀ i,i<L.length->pt (zcz L o t) i=pt L i:=fun i hi=>by unfold zcz;exact zmb hi
 have O:pt (zcz L o t) L.length=⟨o,t,(L.length:Int)+1,[],false⟩:=by
  rw[zfH (by rw[D];omega)];unfold zcz;rw[List.getElem_append_right (by omega)];simp
 have T:pt (zcz L o t) (L.length+1)=⟨o,t,(L.length:Int),[],false⟩:=by
  rw[zfH (by rw[D];omega)];unfold zcz;rw[List.getElem_append_right (by omega)];simp
 refine⟨by omega,fun i hi=>?_⟩;rw[D] at hi;rw[zbm,D];by_cases e:i<L.length
 ·obtain⟨h1,h2,h3,h4,h5,h6⟩:=zbm.1 (R.ok i e);obtain⟨q,hq,E,a6,I⟩:=R.mate e;rw[old i e,hq,yj,old q E,I];exact⟨h1,by omega,⟨by omega,rfl⟩,h4,h5,h6⟩
 ·by_cases U:i=L.length
  ·subst U;rw[O];dsimp only;rw[show ((L.length:Int)+1).toNat=L.length+1 by omega,T];exact⟨J,by omega,⟨by omega,rfl⟩,M,⟨by simp,by simp⟩,rfl⟩
  ·have Z:i=L.length+1:=by omega
   subst Z;rw[T];dsimp only;rw[yj,O];exact⟨J,by omega,⟨by omega,by simp⟩,M,⟨by simp,by simp⟩,rfl⟩
theorem zeh:∀ {l:List Int},zaq l=0↔∀ e ∈ l,e=0
 | []=>by simp[zaq]
 | e :: l=>by
  unfold zaq;by_cases h:e=0
  ·rw[yd h,zeh];simp[h]
  ·rw[ya h];exact⟨fun D=>absurd D h,fun D=>absurd (D e (by simp)) h⟩
theorem zgK:∀ {l:List Rl},zcP l=0↔∀ r ∈ l,zaG r=0
 | []=>by simp[zcP]
 | r :: l=>by
  unfold zcP;by_cases h:zaG r=0
  ·rw[yd h,zgK];simp[h]
  ·rw[ya h];exact⟨fun D=>absurd D h,fun D=>absurd (D r (by simp)) h⟩
theorem zhZ:∀ {l:List (List Ac)},zer l=0↔∀ p ∈ l,p.length<=40
 | []=>by simp[zer]
 | p :: l=>by
  unfold zer;by_cases h:40<p.length
  ·rw[yd h];exact⟨fun D=>by omega,fun D=>absurd (D p (by simp)) (by omega)⟩
  ·rw[ya h,zhZ];simp;intro _;omega
theorem zgJ{n:Nat}:∀ {l:List (List Ml)},zcO n l=0↔∀ q ∈ l,zbZ n q=0
 | []=>by simp[zcO]
 | r :: l=>by
  unfold zcO;by_cases h:zbZ n r=0
  ·rw[yd h,zgJ];simp[h]
  ·rw[ya h];exact⟨fun D=>absurd D h,fun D=>absurd (D r (by simp)) h⟩
theorem zkX{n:Nat}:∀ {l:List Ml},zjm n l=0↔∀ m ∈ l,(0<=m.f/\m.f<=(n:Int)-1)/\zaA m.g=0
 | []=>by simp[zjm]
 | r :: l=>by
  unfold zjm;by_cases h:0<=r.f/\r.f<=(n:Int)-1
  ·rw[yd h];by_cases E:zaA r.g=0
   ·rw[yd E,zkX];constructor
    ·intro H m F;rcases List.mem_cons.1 F with rfl|F
     ·exact⟨h,E⟩
     ·exact H m F
    ·intro H m F;exact H m (by simp[F])
   ·rw[ya E];exact⟨fun D=>absurd D E,fun D=>absurd (D r (by simp)).2 E⟩
  ·rw[ya h];exact⟨fun D=>by omega,fun D=>absurd (D r (by simp)).1 h⟩
theorem zbr{n:Nat}{q:List Ml}:zbZ n q=0↔q.length<=16/\∀ m ∈ q,(0<=m.f/\m.f<=(n:Int)-1)/\zaA m.g=0:=by
 unfold zbZ;by_cases h:16<q.length
 ·rw[yd h];exact⟨fun D=>by omega,fun D=>absurd D.1 (by omega)⟩
 ·rw[ya h,zkX];exact⟨fun D=>⟨by omega,D⟩,fun D=>D.2⟩
structure zan (W:Wl):Prop where
 fs:zcr W.fs
 lr:W.rs.length=W.fs.length
 lp:W.ps.length=W.fs.length
 lq:W.qs.length=W.fs.length
 rs:∀ i,i<W.fs.length->zaG (rlm W i)=0
 ps:∀ i,i<W.fs.length->(prg W i).length<=40
 qs:∀ i,i<W.fs.length->zbZ W.fs.length (que W i)=0
 pt:zdu W.pt W.fs.length
theorem zfO{α:Type}{l:List α}{d:α}{P:α->Prop}:(∀ x ∈ l,P x)↔∀ i,i<l.length->P (l.getD i d):=by
 constructor
 ·intro h i hi;rw[zae _ _ hi];exact h _ (List.getElem_mem hi)
 ·intro h x D;obtain⟨i,hi,rfl⟩:=List.getElem_of_mem D;have:=h i hi
  rwa [zae _ _ hi] at this
theorem zbU{W:Wl}:zbg W=0↔zan W:=by
 unfold zbg;rw[zeh];constructor
 ·intro h;have h1:=h (zaO W.fs) (by simp);have F:=h (if W.rs.length=W.fs.length/\W.ps.length=W.fs.length/\W.qs.length=W.fs.length then 0 else 3) (by simp);have I:=h (zcP W.rs) (by simp);have J:=h (zer W.ps) (by simp);have h5:=h (zcO W.fs.length W.qs) (by simp);have M:=h (zbd W.pt W.fs.length) (by simp)
  have D:W.rs.length=W.fs.length/\W.ps.length=W.fs.length/\W.qs.length=W.fs.length:=by
   by_cases e:W.rs.length=W.fs.length/\W.ps.length=W.fs.length/\W.qs.length=W.fs.length
   ·exact e
   ·rw[ya e] at F;omega
  exact⟨zcE.1 h1,D.1,D.2.1,D.2.2,fun i hi=>zfO.1 (zgK.1 I) i (by rw[D.1];exact hi),fun i hi=>zfO.1 (zhZ.1 J) i (by rw[D.2.1];exact hi),fun i hi=>zfO.1 (zgJ.1 h5) i (by rw[D.2.2];exact hi),zcN.1 M⟩
 ·intro R e E;simp only[List.mem_cons,List.not_mem_nil,or_false] at E;rcases E with rfl|rfl|rfl|rfl|rfl|rfl
  ·exact zcE.2 R.fs
  ·rw[yd ⟨R.lr,R.lp,R.lq⟩]
  ·exact zgK.2 (zfO.2 (fun i hi=>R.rs i (by rw[<- R.lr];exact hi)))
  ·exact zhZ.2 (zfO.2 (fun i hi=>R.ps i (by rw[<- R.lp];exact hi)))
  ·exact zgJ.2 (zfO.2 (fun i hi=>R.qs i (by rw[<- R.lq];exact hi)))
  ·exact zcN.2 R.pt
theorem zba{α:Type}(l:List α)(k i:Nat)(v d:α)(D:k<l.length):(l.set k v).getD i d=if i=k then v else l.getD i d:=by
 by_cases e:i=k
 ·subst e;rw[yd rfl,zae _ _ (by simpa using D),List.getElem_set_self]
 ·rw[ya e,zhf l k i v d e]
theorem zcQ{W:Wl}{k i:Nat}{R:Rl}(D:k<W.rs.length):rlm (setR W k R) i=if i=k then R else rlm W i:=zba _ _ _ _ _ D
theorem zan.setR{W:Wl}(H:zan W){k:Nat}{R:Rl}(D:zaG R=0)(E:k<W.fs.length):zan (setR W k R) :=
 ⟨H.fs,by show (W.rs.set k R).length=_;rw[List.length_set];exact H.lr,H.lp,H.lq,fun i hi=>by
  rw[zcQ (by rw[H.lr];exact E)];split
  ·exact D
  ·exact H.rs i hi,H.ps,H.qs,H.pt⟩
theorem zjo{R:Rl}:∀ {n:Nat},zdg R n=0->∀ i:Nat,i<n->zaz R.s (hd R i).1 (hd R i).2=0
 | 0,_,i,hi=>absurd hi (yx _)
 | n+1,h,i,hi=>by
  unfold zdg at h;by_cases h0:zdg R n=0
  ·rw[yd h0] at h;by_cases e:i=n
   ·subst e;exact h
   ·exact zjo h0 i (by omega)
  ·rw[ya h0] at h;exact absurd h h0
theorem zgF{R:Rl}{n:Int}(h:zby R n=0):∃ m:Nat,n=m/\m<=8/\∀ i:Nat,i<m->zaz R.s (hd R i).1 (hd R i).2=0:=by
 unfold zby at h;by_cases h0:0<=n/\n<=8
 ·rw[yd h0] at h;exact⟨n.toNat,by omega,by omega,zjo h⟩
 ·rw[ya h0] at h;omega
theorem zcL(R:Rl)(n:Nat):(zbj R n).length=n+1:=by unfold zbj;simp
theorem ziR(R:Rl)(n:Nat):cl (zbj R n) 0=⟨n,(List.range n).map fun i:Nat=>(i:Int)+1⟩:=rfl
theorem ziS{R:Rl}{n i:Nat}(h:i<n):cl (zbj R n) (i+1)=⟨(nd R.s (hd R i).1.toNat).m,[]⟩:=by
 rw[zcv (by rw[zcL];omega)];unfold zbj;simp
theorem zjq{R:Rl}{n:Nat}(hn:n<=8)(h:∀ i:Nat,i<n->zaz R.s (hd R i).1 (hd R i).2=0):Right (zbj R n):=by
 have split:∀ i,i<(zbj R n).length->i=0\/∃ j,j<n/\i=j+1:=fun i hi=>by
  rw[zcL] at hi;by_cases e:i=0
  ·exact Or.inl e
  ·exact Or.inr ⟨i-1,by omega,by omega⟩
 refine⟨by rw[zcL];omega,fun i hi=>?_,fun i hi=>?_,fun i hi=>?_⟩
 ·rcases split i hi with rfl |⟨j,D,rfl⟩
  ·rw[ziR];dsimp only;omega
  ·rw[ziS D];obtain⟨wf,k,e,F,I,_⟩:=zcI (h j D);rw[e,yj];have:=(zbh (wf.node k F)).1;unfold zda at this;simp only[Bool.and_eq_true,decide_eq_true_eq] at this;exact this.2.2
 ·rcases split i hi with rfl |⟨j,D,rfl⟩
  ·rw[ziR];simpa using hn
  ·rw[ziS D];simp
 ·intro x E;rcases split i hi with rfl |⟨j,D,rfl⟩
  ·rw[ziR] at E;simp only[List.mem_map,List.mem_range] at E;obtain⟨a,ha,rfl⟩:=E;exact⟨a+1,by omega,by rw[zcL];omega⟩
  ·rw[ziS D] at E;cases E
theorem zju(n:Nat)(h:n<=24):zaG (zdp n)=0/\zdp n=⟨List.replicate n zbb,List.replicate 16 (0,0),[],[]⟩:=by
 have e:zdp n=⟨List.replicate n zbb,List.replicate 16 (0,0),[],[]⟩:=by
  unfold zdp;rw[yd (by omega),yj]
 rw[e];exact⟨zeu (zAW n h) (by simp) rfl (by simp),rfl⟩
theorem zcg{L:List Fr}{f t x:Int}(h:zdI L f t x=0):zaO L=0/\zax L f=0/\zax L t=0/\zso L f t x=true:=by
 unfold zdI at h;by_cases h1:zfw L [f,t]=0
 ·rw[ya (yJ h1)] at h;by_cases D:1<=x/\x<=5
  ·rw[ya (yJ D)] at h;by_cases E:zso L f t x=true
   ·obtain⟨a,b,c⟩:=zgk h1;exact⟨a,b,c,E⟩
   ·rw[ya E] at h;omega
  ·rw[yd D] at h;omega
 ·rw[yd h1] at h;exact absurd h h1
theorem zqy{Es:List Int}{W V:Wl}{o:Int}:(zff Es W V o).w=W\/(zaq Es=0/\zff Es W V o=⟨0,V,o⟩):=by
 unfold zff;by_cases h:zaq Es=0
 ·rw[yd h];exact Or.inr ⟨h,rfl⟩
 ·rw[ya h];exact Or.inl rfl
theorem zaw{e:Int}{l:List Int}(h:zaq (e :: l)=0):e=0/\zaq l=0:=by
 rw[zeh] at h;exact⟨h e (by simp),zeh.2 (fun x D=>h x (by simp[D]))⟩
def SlB(W:World)(b:Nat):Prop:=∀ j v,W.cell? ⟨b,j,none⟩=some v->∃ a n c,v=.slice a n c
def zvv(b:Nat)(W D:World):Prop:=W.heap.size<=D.heap.size/\∀ k,k<W.heap.size->k≠b->D.heap[k]?=W.heap[k]?
theorem zvv.cell{b k o:Nat}{W D:World}{v:Value}(h:zvv b W D)(E:k≠b)(hc:W.cell? ⟨k,o,none⟩=some v):D.cell? ⟨k,o,none⟩=some v:=by
 have:=h.2 k (ye _ _ hc) E;unfold World.cell? at hc |-;dsimp only at hc |-;rw[this];exact hc
theorem SlB.ne{W:World}{b k o:Nat}{v:Value}(h:SlB W b)(hc:W.cell? ⟨k,o,none⟩=some v)(E:∀ a n c,v≠.slice a n c):k≠b:=fun e=>by
 subst e;obtain⟨a,n,c,D⟩:=h _ _ hc;exact E a n c D
theorem zak.offB{W D:World}{b:Nat}{a:Option Addr}{l:List Int}(h:zak W a l)(hs:SlB W b)(E:zvv b W D):zak D a l:=fun i hi=>by
 obtain⟨k,o,e,hc⟩:=h i hi;exact⟨k,o,e,E.cell (hs.ne hc (fun _ _ _ h=>by cases h)) hc⟩
theorem zai.offB{W I:World}{b:Nat}{a:Option Addr}{S:List Nd}(h:zai W a S)(hs:SlB W b)(D:zvv b W I):zai I a S:=fun i hi=>by
 obtain⟨k,o,e,c0,c1,c2,c3,c4,⟨ka,kc,c5,F⟩,J,M⟩:=h i hi;have E:=hs.ne c0 (fun _ _ _ h=>by cases h);exact⟨k,o,e,D.cell E c0,D.cell E c1,D.cell E c2,D.cell E c3,D.cell E c4,⟨ka,kc,D.cell E c5,F.offB hs D⟩,D.cell E J,D.cell E M⟩
theorem zvv.set{W D:World}{b o:Nat}{v:Value}(h:zvv b W D):zvv b W (D.setCell ⟨b,o,none⟩ v):=⟨by simpa using h.1,fun k E hn=>(yv _ _ _ _ hn).trans (h.2 k E hn)⟩
theorem zvv.refl(b:Nat)(W:World):zvv b W W:=⟨yk _,fun _ _ _=>rfl⟩
theorem zat{W D:World}{b:Nat}{o:Obj}(h:W.heap[b]?=some o)(E:Below W.heap.size W D):D.heap[b]?=some o:=(E.block b (zay h)).trans h
theorem zAB(U:zkD){R:Rl}{p E:Int}(h1:zdp p=R)(T:zBd p=E)(W:World) :
  Calls Tryz.prog 28 #[.int .i64 p] W fun e w' => ∃ (D F I J:Option Addr) (d0 d1 d2 d3:Nat),e=.returned (.tuple #[.agg #[.slice D R.s.length d0,.slice F R.hs.length d1,.slice I R.i.length d2,.slice J R.t.length d3],.int .i64 E])/\Below W.heap.size W w' /\ zct w' ⟨D,F,I,J,d0,d1,d2,d3⟩ R:=by
 refine(U p W).mono ?_;rintro e w' ⟨⟨D,F,I,J,d0,d1,d2,d3⟩,M,Z,O⟩;rw[h1] at M O;rw[T] at M;exact⟨D,F,I,J,d0,d1,d2,d3,M,Z,O⟩
theorem zAH{W:World}{b t:Nat}{E v1 v2 F:Value}{f}(h:W.heap[b]?=some (.cells #[E,v1,v2,F] t f))(h0:∃ a n c,E=.slice a n c)(h1:∃ a n c,v1=.slice a n c)(I:∃ a n c,v2=.slice a n c)(J:∃ a n c,F=.slice a n c):SlB W b:=fun j v D=>by
 unfold World.cell? at D;dsimp only at D;rw[h] at D
 match j with
 | 0=>simp at D;rw[<- D];exact h0
 | 1=>simp at D;rw[<- D];exact h1
 | 2=>simp at D;rw[<- D];exact I
 | 3=>simp at D;rw[<- D];exact J
 | j+4=>simp at D
theorem zaL{W:World}{b t i:Nat}{X:Array Value}{v:Value}{f:Nat × Nat}(h:W.heap[b]?=some (.cells X t f)):(W.setCell ⟨b,i,none⟩ v).heap[b]?=some (.cells (X.setIfInBounds i v) t f):=by
 show (W.heap.modify b _)[b]?=_;rw[Array.getElem?_modify,yd rfl,h];rfl
theorem zcR{W:World}{b t:Nat}{I v1 v2 J u0 u1 u2 u3:Value}(h:W.heap[b]?=some (.cells #[I,v1,v2,J] t (0,0))):((((W.setCell ⟨b,0,none⟩ u0).setCell ⟨b,1,none⟩ u1).setCell ⟨b,2,none⟩ u2).setCell ⟨b,3,none⟩ u3).heap[b]?=some (.cells #[u0,u1,u2,u3] t (0,0)):=by
 have D:=zaL (i:=0) (v:=u0) h;have E:=zaL (i:=1) (v:=u1) D;have F:=zaL (i:=2) (v:=u2) E;exact zaL (i:=3) (v:=u3) F
theorem zci(W:World)(t:Nat)(D v1 v2 E:Value):(W.alloc (.cells #[D,v1,v2,E] t)).heap[W.heap.size]?=some (.cells #[D,v1,v2,E] t (0,0)):=yL W _
theorem zaj{W:World}{b t:Nat}{D v1 v2 E:Value}(h:W.heap[b]?=some (.cells #[D,v1,v2,E] t (0,0))):W.cell? ⟨b,0,none⟩=some D/\W.cell? ⟨b,1,none⟩=some v1/\W.cell? ⟨b,2,none⟩=some v2/\W.cell? ⟨b,3,none⟩=some E/\(∀ o,W.frozen? ⟨b,o,none⟩=false)/\b<W.heap.size :=
 ⟨by simp[World.cell?,h],by simp[World.cell?,h],by simp[World.cell?,h],by simp[World.cell?,h],fun o=>by simp[World.frozen?,h],zay h⟩
def zAY:Ac:=⟨0,0,0,0,0⟩
def ac(X:List Ac)(i:Nat):Ac:=X.getD i zAY
def zbs(w:World)(a:Option Addr)(X:List Ac):Prop :=
 ∀ i,i<X.length->∃ b o,a=some ⟨b,o,none⟩/\w.cell? ⟨b,o+i*5,none⟩=some (.int .i64 (ac X i).k)/\w.cell? ⟨b,o+i*5+1,none⟩=some (.int .i64 (ac X i).a)/\w.cell? ⟨b,o+i*5+2,none⟩=some (.int .i64 (ac X i).b)/\w.cell? ⟨b,o+i*5+3,none⟩=some (.int .i64 (ac X i).c)/\w.cell? ⟨b,o+i*5+4,none⟩=some (.int .i64 (ac X i).n)
theorem zbs.below{w w' : World}{a:Option Addr}{X:List Ac}(h:zbs w a X)(D:Below w.heap.size w w'):zbs w' a X:=fun i hi=>by
 obtain⟨b,o,e,c0,c1,c2,c3,c4⟩:=h i hi;exact⟨b,o,e,zab c0 D,zab c1 D,zab c2 D,zab c3 D,zab c4 D⟩
def zyc(f:Nat):Prop:=∀ (S:List Nd) (p u:Int) (a:Option Addr) (c:Nat) (W:World),WF S->zai W a S ->
 Calls Tryz.prog f #[.agg #[.slice a S.length c],.agg #[.int .i64 p,.int .i64 u]] W fun e w' => ∃ (x:Nd) (ka:Option Addr) (kl kc:Nat),e=.returned (.tuple #[.agg #[.bool x.u,.int .i64 x.n,.int .i64 x.t,.int .i64 x.m,.int .i64 x.p,.slice ka kl kc,.int .i64 x.h,.bool x.c],.int .i64 (zaz S p u)])/\Below W.heap.size W w' /\(zaz S p u=0->x=nd S p.toNat)/\(zaz S p u≠0->x=zhw)
theorem zeK:zyc 14:=fun S p u a c W wf J=>by
 have I:S.length<=9223372036854775807:=by have:=wf.small;omega
 by_cases D:zaz S p u=0
 ·obtain⟨_,k,e,M,T,O⟩:=zcI D;subst e;rw[yj,D];exact(find_ok a c S k u W I wf.big J M D (by have:=zdB wf k M;omega)).mono (fun e w' ⟨g,E,F,hi⟩=>⟨nd S k,_,_,_,E,F,fun _=>rfl,fun h=>absurd rfl h⟩)
 ·exact(ziM a c S p u _ W I wf.big J rfl D).mono (fun e w' ⟨E,F⟩=>⟨zhw,_,_,_,E,F,fun h=>absurd h D,fun _=>rfl⟩)
theorem zxB(k:Int)(n:Nat)(hn:0<n):-(n:Int)<k.tmod n/\k.tmod n<n:=by
 have h1:=Int.tmod_lt_of_pos k (b:=(n:Int)) (by omega);have D:=Int.tmod_lt_of_pos (-k) (b:=(n:Int)) (by omega);rw[Int.neg_tmod] at D;omega
theorem zsJ(k:Int)(n:Nat)(hn:0<n)(J:n<=1000):∃ p:Nat,p<n/\∀ w:World,
  Calls Tryz.prog 11 #[.int .i64 k,.int .i64 n] w fun e w' => e=.returned (.int .i64 (p:Int))/\w' = w:=by
 obtain⟨F,I⟩:=zxB k n hn;generalize M:k.tmod (n:Int)=r at F I;by_cases h:r<0
 ·obtain⟨p,D⟩:∃ p:Nat,(p:Int)=r+n:=⟨(r+n).toNat,by omega⟩;refine⟨p,by omega,fun w=>?_⟩;have E:Hid ((p:Int)=r+n):=D;clear D
  go_enter Tryz.func11,Tryz.ntmps11
  go_wp2
  go_ret;exact⟨by rw[E.out];rfl,rfl⟩
 ·obtain⟨p,D⟩:∃ p:Nat,(p:Int)=r:=⟨r.toNat,by omega⟩;refine⟨p,by omega,fun w=>?_⟩;have E:Hid ((p:Int)=r):=D;clear D
  go_enter Tryz.func11,Tryz.ntmps11
  go_wp2
  go_ret;exact⟨by rw[E.out];rfl,rfl⟩
theorem zbl{W:World}{b t:Nat}{D v1:Value}(h:W.heap[b]?=some (.cells #[D,v1] t (0,0))):W.cell? ⟨b,0,none⟩=some D/\W.cell? ⟨b,1,none⟩=some v1/\b<W.heap.size :=
 ⟨by simp[World.cell?,h],by simp[World.cell?,h],zay h⟩
theorem zwA:(Tryz.prog.info? 121).map (fun i=>(i.zero,i.size,i.bytes))=some (some (.agg #[.int .i64 0,.int .i64 0,.int .i64 0,.slice none 0 0,.bool false]),5,56):=by kernel_rfl
def zcY(x:Pt)(v:Value):List Value:=[.int .i64 x.o,.int .i64 x.t,.int .i64 x.m,v,.bool x.s]
def zch(L:List Pt)(K:Nat->Value):List Value:=(List.range L.length).flatMap fun i=>zcY (pt L i) (K i)
theorem zuE(x:Pt)(v:Value):(zcY x v).length=5:=rfl
theorem zeq(L:List Pt)(K:Nat->Value):∀ q,((List.range q).flatMap fun i=>zcY (pt L i) (K i)).length=q*5
 | 0=>rfl
 | q+1=>by rw[List.range_succ,List.flatMap_append,List.length_append,zeq L K q];simp[zcY];omega
theorem zbO(L:List Pt)(K:Nat->Value):(zch L K).length=L.length*5:=zeq L K _
theorem znv(L:List Pt)(K:Nat->Value){i j:Nat}(D:j<5):∀ {q:Nat},i<q->((List.range q).flatMap fun i=>zcY (pt L i) (K i))[i*5+j]?=(zcY (pt L i) (K i))[j]?
 | 0,hi=>by omega
 | q+1,hi=>by
  rw[List.range_succ,List.flatMap_append];by_cases h:i<q
  ·rw[List.getElem?_append_left (by rw[zeq];omega)];exact znv L K D h
  ·have e:i=q:=by omega
   subst e;rw[List.getElem?_append_right (by rw[zeq];omega),zeq,show i*5+j-i*5=j by omega];simp
theorem zep{L:List Pt}{K:Nat->Value}{i j:Nat}(hi:i<L.length)(D:j<5):(zch L K)[i*5+j]?=(zcY (pt L i) (K i))[j]?:=znv L K D hi
theorem zhX{L:List Pt}{K:Nat->Value}{D:List Value}(hl:D.length=L.length*5)(h:∀ i j,i<L.length->j<5->D[i*5+j]?=(zcY (pt L i) (K i))[j]?):D=zch L K:=by
 refine List.ext_getElem? (fun m=>?_);by_cases E:m<L.length*5
 ·have e:m=m / 5*5+m % 5:=by omega
  have h1:=h (m / 5) (m % 5) (by omega) (by omega);rw[<- e] at h1;rw[h1,<- zep (L:=L) (K:=K) (by omega) (by omega),<- e]
 ·rw[List.getElem?_eq_none (by omega),List.getElem?_eq_none (by rw[zbO];omega)]
theorem zrI{L:List Pt}{K:Nat->Value}{k f:Nat}{u v:Value}{x:Pt}(J:k<L.length)(I:f<5)(F:zcY x v=(zcY (pt L k) (K k)).set f u) :
  (zch L K).set (k*5+f) u=zch (L.set k x) (fun i=>if i=k then v else K i):=by
 refine zhX (by rw[List.length_set,zbO,List.length_set]) (fun i j hi E=>?_);rw[List.length_set] at hi;rw[zle hi];by_cases e:k=i
 ·subst e;rw[yd rfl];simp only[if_true];rw[F,List.getElem?_set];by_cases D:f=j
  ·subst D;rw[yd rfl,yd (by rw[zbO];omega),List.getElem?_set_self (by rw[zuE];omega)]
  ·rw[ya (by omega),zep hi E,List.getElem?_set_ne D]
 ·rw[ya e,List.getElem?_set_ne (by omega),zep hi E];simp only[ya (show ¬ i=k from fun h=>e h.symm)]
theorem zjA(L:List Pt)(K:Nat->Value)(x:Pt)(v:Value):zch L K++zcY x v=zch (L++[x]) (fun i=>if i=L.length then v else K i):=by
 refine zhX (by rw[List.length_append,zbO,List.length_append];simp[zcY];omega) (fun i j hi E=>?_);rw[List.length_append,List.length_singleton] at hi;by_cases e:i<L.length
 ·rw[List.getElem?_append_left (by rw[zbO];omega),zep e E,zmb e];simp only[ya (show ¬ i=L.length by omega)]
 ·have D:i=L.length:=by omega
  subst D;rw[List.getElem?_append_right (by rw[zbO];omega),zbO,show L.length*5+j-L.length*5=j by omega,zuH];simp only[if_true]
def zsn(w:World)(v:Value)(C:List (List Cl)):Prop:=∃ D E,v=.slice D C.length E/\zzz w D E C
theorem zsn.nil(w:World):zsn w (.slice none 0 0) []:=⟨none,0,rfl,⟨fun _=>rfl,yk _,by omega⟩,zwn w⟩
theorem zuJ{B:Nat}{w:World}{v:Value}{L:List Pt}{K:Nat->Value}(h:w.ownsRow B 121 5 v L.length (zch L K))(hg:∀ i,i<L.length->zsn w (K i) (pt L i).cm):∃ a c,v=.slice a L.length c/\zdH w a L:=by
 have hc:=fun g hg=>h.cells (g:=g) hg;rcases h.2 with ⟨rfl,h0⟩ |⟨g,cap,J,rfl,_⟩
 ·exact⟨none,0,by rw[h0],fun i hi=>by omega⟩
 ·refine⟨some ⟨g,0,none⟩,cap,rfl,fun i hi=>⟨g,0,rfl,?_⟩⟩
  have D:∀ j u,j<5->(zcY (pt L i) (K i))[j]?=some u->w.cell? ⟨g,0+i*5+j,none⟩=some u:=fun j u M O=>by
   have:=hc g rfl (i*5+j) u (by rw[zep hi M];exact O);rw[yB]
   rwa [Addr.add_lit,yB] at this
  obtain⟨F,I,e,E⟩:=hg i hi;exact⟨D 0 _ (by omega) rfl,D 1 _ (by omega) rfl,D 2 _ (by omega) rfl,F,I,D 3 _ (by omega) (by rw[<- e];rfl),E,D 4 _ (by omega) rfl⟩
def zvk(H E:Int):Int:=if H≠0 then H else E
def SlA(a:Option Addr)(n c:Nat):Prop:=(a=none->c=0)/\n<=c/\c<=9223372036854775807
def zst:Prop:=∀ (a:Option Addr) (c:Nat) (L:List Pt) (Fr:Int) (w:World),L.length<=9223372036854775807->zsm L->SlA a L.length c->zdH w a L ->
 Calls Tryz.prog 37 #[.slice a L.length c,.int .i64 Fr] w fun e w' => e=.returned (.int .i64 (zbd L Fr))/\Below w.heap.size w w'
def zBe(C:List (List Cl)):Prop:=C.length<=17/\∀ j,j<C.length->Right (gr C j)
def zye(L:List Pt):Prop:=L.length<=100/\∀ i,i<L.length->zBe (pt L i).cm
theorem zqX{L:List Pt}{F:Int}(R:zdu L F):zye L:=⟨by have:=R.few;omega,fun i hi=>by
 obtain⟨_,_,_,_,h5,D⟩:=zbm.1 (R.ok i hi);exact⟨by omega,zco.1 D⟩⟩
theorem zye.big{L:List Pt}(h:zye L):zsm L:=fun i hi=>by
 obtain⟨h1,D⟩:=h.2 i hi;exact⟨by omega,fun j E=>⟨by have:=(D j E).few;omega,(D j E).big⟩⟩
def Q1:List Pt:=[⟨1,0,1,[],false⟩,⟨1,0,0,[],false⟩]
def Q2:List Pt:=[⟨1,0,1,[],false⟩,⟨1,0,0,[[⟨5,[]⟩]],false⟩]
def Q3:List Pt:=[⟨1,0,1,[],false⟩,⟨0,7,0,[[⟨5,[]⟩]],false⟩]
theorem zan.frames{W:Wl}(H:zan W){L:List Fr}(D:zcr L)(hl:L.length=W.fs.length):zan { W with fs:=L } :=
 ⟨D,H.lr.trans hl.symm,H.lp.trans hl.symm,H.lq.trans hl.symm,fun i hi=>H.rs i (by rw[<- hl];exact hi),fun i hi=>H.ps i (by rw[<- hl];exact hi),fun i hi=>by show zbZ L.length _=0;rw[hl];exact H.qs i (by rw[<- hl];exact hi),by show zdu W.pt (L.length:Int);rw[hl];exact H.pt⟩
theorem zan.ports{W:Wl}(H:zan W){P:List Pt}(D:zdu P W.fs.length):zan { W with pt:=P }:=⟨H.fs,H.lr,H.lp,H.lq,H.rs,H.ps,H.qs,D⟩
theorem zan.queue{W:Wl}(H:zan W){a:Nat}{q:List Ml}(ha:a<W.fs.length)(D:zbZ W.fs.length q=0):zan { W with qs:=W.qs.set a q } :=
 ⟨H.fs,H.lr,H.lp,by show (W.qs.set a q).length=_;rw[List.length_set];exact H.lq,H.rs,H.ps,fun i hi=>by
  show zbZ W.fs.length ((W.qs.set a q).getD i [])=0;rw[zba _ _ _ _ _ (by rw[H.lq];exact ha)];split
  ·exact D
  ·exact H.qs i hi,H.pt⟩
theorem zan.prog{W:Wl}(H:zan W){a:Nat}{q:List Ac}(ha:a<W.fs.length)(D:q.length<=40):zan { W with ps:=W.ps.set a q } :=
 ⟨H.fs,H.lr,by show (W.ps.set a q).length=_;rw[List.length_set];exact H.lp,H.lq,H.rs,fun i hi=>by
  show ((W.ps.set a q).getD i []).length<=40;rw[zba _ _ _ _ _ (by rw[H.lp];exact ha)];split
  ·exact D
  ·exact H.ps i hi,H.qs,H.pt⟩
theorem zdA{L:List Fr}{k:Int}(h:zax L k=0):∃ q:Nat,k=q/\q<L.length/\(fr L q).g=false:=zfR h
theorem zjk{W:Wl}(H:zan W)(k:Nat)(n:Int):zan { W with fs:=zkc W.fs n }:=H.frames (ztl H.fs n) (zdw _ _)
theorem zll{W:Wl}(H:zan W){k:Nat}(T:k<W.fs.length){a n:Int}(h:zaq [zdI W.fs k a 3,zby (rlm W k) n,if (que W a.toNat).length=16 then 1 else 0]=0) :
  zan { W with qs:=W.qs.set a.toNat (que W a.toNat++[⟨k,zbj (rlm W k) n.toNat⟩]) }:=by
 obtain⟨h1,h⟩:=zaw h;obtain⟨J,h⟩:=zaw h;obtain⟨F,_⟩:=zaw h;obtain⟨_,_,M,_⟩:=zcg h1;obtain⟨q,rfl,I,_⟩:=zdA M;obtain⟨m,rfl,O,E⟩:=zgF J;rw[yj] at F |-;rw[yj];obtain⟨g1,g2⟩:=zbr.1 (H.qs q I);refine H.queue I (zbr.2 ⟨?_,fun x D=>?_⟩)
 ·rw[List.length_append];by_cases e:(que W q).length=16
  ·rw[yd e] at F;omega
  ·simp;omega
 ·rcases List.mem_append.1 D with D|D
  ·exact g2 x D
  ·have:x=⟨k,zbj (rlm W k) m⟩:=by simpa using D
   subst this;exact⟨⟨by show (0:Int)<=(k:Int);omega,by show (k:Int)<=(W.fs.length:Int)-1;omega⟩,zbK.2 (zjq O E)⟩
theorem ztz{W:Wl}(H:zan W){k:Nat}{n a:Int}(h:zaq [zdI W.fs k n 5,goE W.fs n a]=0) :
  zan { fs:=goF W.fs n a,rs:=W.rs.set n.toNat (zdp (rlm W n.toNat).s.length),ps:=W.ps.set n.toNat [],qs:=W.qs.set n.toNat [],pt:=W.pt }:=by
 obtain⟨h1,h⟩:=zaw h;obtain⟨F,_⟩:=zaw h;obtain⟨_,_,I,_⟩:=zcg h1;obtain⟨q,rfl,D,_⟩:=zdA I;rw[yj];have hs:=(zav (H.rs q D)).1.small;have H1:=H.setR (zju _ hs).1 D;have H2:=zan.prog (q:=[]) H1 D (by simp);have E:=zan.queue (q:=[]) H2 D rfl;exact zan.frames (L:=goF W.fs q a) E (zpK F) (zhg _ _ _)
theorem zjx{W:Wl}(H:zan W){k:Nat}(h:zfF W.pt (many W) k (zaE W k)=0):zan { W with pt:=zcz W.pt k (zaE W k) }:=by
 unfold zfF at h;by_cases h1:zbd W.pt (many W)=0
 ·rw[ya (yJ h1)] at h;by_cases D:0<=(k:Int)/\(k:Int)<many W
  ·rw[ya (yJ D)] at h;by_cases E:0<=zaE W k/\zaE W k<=1000
   ·rw[ya (yJ E)] at h;by_cases F:10<W.pt.length
    ·rw[yd F] at h;omega
    ·exact H.ports (H.pt.open (by omega) D E)
   ·rw[yd E] at h;omega
  ·rw[yd D] at h;omega
 ·rw[yd h1] at h;exact absurd h h1
theorem zjz{W:Wl}(H:zan W){k:Nat}{a n:Int}(h:zkz W.pt (many W) n k (zaE W k) a (zaE W a)=0):zan { W with pt:=zhW W.pt n a (zaE W a) }:=by
 unfold zkz at h;by_cases h1:zaU W.pt (many W) n k (zaE W k)=0
 ·rw[ya (yJ h1)] at h;by_cases D:0<=a/\a<many W
  ·rw[ya (yJ D)] at h;by_cases E:0<=zaE W a/\zaE W a<=1000
   ·obtain⟨R,q,rfl,F,_,_,hs⟩:=zcs h1;obtain⟨_,_,_,_,h5,I⟩:=zbm.1 (R.ok q F);unfold zhW;rw[yj];exact H.ports (R.set F rfl D E h5.1 h5.2 I)
   ·rw[yd E] at h;omega
  ·rw[yd D] at h;omega
 ·rw[yd h1] at h;exact absurd h h1
theorem zjC{W:Wl}(H:zan W){k:Nat}{n:Int}{g:List Cl}(h:zib W.pt (many W) n k (zaE W k) g=0):zan { W with pt:=ziH W.pt n g }:=by
 unfold zib at h;by_cases h1:zaU W.pt (many W) n k (zaE W k)=0
 ·rw[ya (yJ h1)] at h;by_cases E:zaA g=0
  ·rw[ya (yJ E)] at h;by_cases F:(zkw W.pt n).s=true
   ·rw[yd F] at h;omega
   ·rw[ya F] at h;by_cases J:(zkw W.pt n).cm.length=16
    ·rw[yd J] at h;omega
    ·obtain⟨R,q,rfl,Z,_,_,hs⟩:=zcs h1;obtain⟨m,M,D,T,U⟩:=R.mate Z;obtain⟨p1,p2,p3,p4,p5,p6⟩:=zbm.1 (R.ok m D);have e:zkw W.pt (q:Int)=pt W.pt m:=by unfold zkw;rw[yj,M,yj]
     unfold ziH;rw[e] at F J |-;rw[yj,M,yj];refine H.ports (R.set D rfl p1 p4 (by show ((pt W.pt m).cm++[zbx g]).length<=16;rw[List.length_append];simp;have:=p5.1;omega) (fun hs=>absurd hs F) ?_);rw[zco];intro i hi;by_cases I:i<(pt W.pt m).cm.length
     ·show Right (gr ((pt W.pt m).cm++[zbx g]) i);rw[zou I];exact zco.1 p6 i I
     ·have O:i=(pt W.pt m).cm.length:=by simp at hi;omega
      subst O;show Right (gr ((pt W.pt m).cm++[zbx g]) _);rw[zot];exact(zbK.1 E).copy
  ·rw[yd E] at h;exact absurd h E
 ·rw[yd h1] at h;exact absurd h h1
theorem zgH{W:Wl}(H:zan W){k:Nat}(F:k<W.fs.length){n:Int}(h:zfI W.pt (many W) n k (zaE W k)=0):zan { setR W k { rlm W k with i:=gr (pt W.pt n.toNat).cm 0 } with pt:=zia W.pt n }:=by
 unfold zfI at h;by_cases h1:zaU W.pt (many W) n k (zaE W k)=0
 ·rw[ya (yJ h1)] at h;by_cases E:(pt W.pt n.toNat).cm.length=0
  ·rw[yd E] at h;omega
  ·obtain⟨R,q,rfl,I,_,_,hs⟩:=zcs h1;rw[yj] at E |-;obtain⟨M,Z,p3,O,J,T⟩:=zbm.1 (R.ok q I);have hg:=zco.1 T;obtain⟨r1,r2,r3,U⟩:=zav (H.rs k F);have H1:=H.setR (R:={ rlm W k with i:=gr (pt W.pt q).cm 0 }) (zeu r1 r2 (zbK.2 (hg 0 (by omega))) U) F;unfold zia;rw[yj];refine H1.ports (R.set I rfl M O (by show ((pt W.pt q).cm.drop 1).length<=16;rw[List.length_drop];have:=J.1;omega) (fun h=>by have:=J.2 h;omega) ?_);rw[zco];intro i hi
   have D:i+1<(pt W.pt q).cm.length:=by
    have:i<((pt W.pt q).cm.drop 1).length:=hi;rw[List.length_drop] at this;omega
   show Right (gr ((pt W.pt q).cm.drop 1) i);rw[zos _ D];exact hg (i+1) D
 ·rw[yd h1] at h;exact absurd h h1
theorem zjO{W:Wl}(H:zan W){k:Nat}{n:Int}(h:zaU W.pt (many W) n k (zaE W k)=0):zan { W with pt:=zij W.pt n }:=by
 obtain⟨R,q,rfl,D,_,_,hs⟩:=zcs h;obtain⟨E,I,J,F,M,O⟩:=zbm.1 (R.ok q D);unfold zij;rw[yj];exact H.ports (R.set D rfl E F (by simp) (fun _=>rfl) rfl)
theorem zbE{Es:List Int}{W V:Wl}{o:Int}(H:zan W)(E:zaq Es=0->zan V):zan (zff Es W V o).w:=by
 rcases zqy (Es:=Es) (W:=W) (V:=V) (o:=o) with h |⟨h,D⟩
 ·rw[h];exact H
 ·rw[D];exact E h
theorem zmy{W:Wl}(H:zan W){k:Nat}(D:k<W.fs.length)(x:Ac):zan (zdv W k x).w:=by
 unfold zdv
 repeat' split
 ·exact zbE H (fun _=>H)
 ·exact zbE H (fun _=>zjk H k _)
 ·exact zbE H (fun _=>H)
 ·exact zbE H (fun h=>zll H D h)
 ·exact zbE H (fun h=>ztz H h)
 ·exact zbE H (fun h=>zjx H (zaw h).1)
 ·exact zbE H (fun h=>zjz H (zaw (zaw h).2).1)
 ·exact zbE H (fun h=>zjC H (zaw (zaw (zaw h).2).2).1)
 ·exact zbE H (fun h=>zgH H D (zaw h).1)
 ·exact zbE H (fun h=>zjO H (zaw h).1)
 ·exact zbE H (fun h=>H.setR (zom (zaw h).1).2.2 D)
theorem zmo{Es:List Int}{W V:Wl}{o:Int}(E:V.fs.length=W.fs.length):(zff Es W V o).w.fs.length=W.fs.length:=by
 rcases zqy (Es:=Es) (W:=W) (V:=V) (o:=o) with h |⟨h,D⟩
 ·rw[h]
 ·rw[D];exact E
theorem zsF(W:Wl)(k:Nat)(x:Ac):(zdv W k x).w.fs.length=W.fs.length:=by
 unfold zdv
 repeat' split
 all_goals first|exact zmo rfl|exact zmo (zdw _ _)|exact zmo (zhg _ _ _)
end Go.Proofs.YtcbcpomacdngmaaGreat
