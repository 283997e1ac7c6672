/-
  x
-/
import Derived.Test.YtcbcpomacdngmaaGreatM21
import Derived.Laws.OwnMore
namespace Go.Proofs.YtcbcpomacdngmaaGreat
set_option maxRecDepth 100000
set_option maxHeartbeats 4000000
set_option linter.unusedVariables false
open Go.RowKit Go.ChangeShapes Go.WideShapes
structure Ml where
 f:Int
 g:List Cl
structure Wl where
 fs:List Fr
 rs:List Rl
 ps:List (List Ac)
 qs:List (List Ml)
 pt:List Pt
def zjQ:Wl:=⟨[],[],[],[],[]⟩
def rlm(W:Wl)(k:Nat):Rl:=W.rs.getD k zbL
def prg(W:Wl)(k:Nat):List Ac:=W.ps.getD k []
def que(W:Wl)(k:Nat):List Ml:=W.qs.getD k []
def zcJ:List Rl->Int
 | []=>0
 | r :: l=>if zaE r=0 then zcJ l else zaE r
def zel:List (List Ac)->Int
 | []=>0
 | p :: l=>if 40<p.length then 1 else zel l
def zjd(n:Nat):List Ml->Int
 | []=>0
 | m :: l=>if 0<=m.f/\m.f<=(n:Int)-1 then (if zaz m.g=0 then zjd n l else zaz m.g) else 4
def zbW(n:Nat)(q:List Ml):Int:=if 16<q.length then 1 else zjd n q
def zcI(n:Nat):List (List Ml)->Int
 | []=>0
 | q :: l=>if zbW n q=0 then zcI n l else zbW n q
def zao:List Int->Int
 | []=>0
 | e :: l=>if e=0 then zao l else e
def zby(W:Wl):Int :=
 zao [zaO W.fs,if W.rs.length=W.fs.length/\W.ps.length=W.fs.length/\W.qs.length=W.fs.length then 0 else 3,zcJ W.rs,zel W.ps,zcI W.fs.length W.qs,zbf W.pt W.fs.length]
def zcq(R:Rl):Nat->Int
 | 0=>0
 | i+1=>if zcq R i=0 then zaC R.s (hd R i).1 (hd R i).2 else zcq R i
def zbk(R:Rl)(n:Int):Int:=if 0<=n/\n<=8 then zcq R n.toNat else 2
def zaW(R:Rl)(n:Nat):List Cl:=⟨n,(List.range n).map fun i:Nat=>(i:Int)+1⟩ ::(List.range n).map fun i:Nat=>⟨(nd R.s (hd R i).1.toNat).m,[]⟩
structure Ws where
 e:Int
 w:Wl
 o:Int
def zeN(Es:List Int)(W V:Wl)(o:Int):Ws:=if zao Es=0 then ⟨0,V,o⟩ else ⟨zao Es,W,0⟩
def zaB(W:Wl)(k:Int):Int:=(fr W.fs k.toNat).t
def ziu(W:Wl)(k:Nat):Int:=(fr W.fs k).m
def setR(W:Wl)(k:Nat)(R:Rl):Wl:={ W with rs:=W.rs.set k R }
def many(W:Wl):Int:=(W.fs.length:Int)
def zAQ(W:Wl)(k:Nat)(n:Int):Ws:=zeN [zdF W.fs k n 2] W W (zki W.fs n:Nat)
def zxx(W:Wl)(k:Nat)(n:Int):Ws:=zeN [zdF W.fs k n 4] W { W with fs:=zjR W.fs n } 0
def zpU(W:Wl)(k:Nat)(a b:Int):Ws :=
 zeN [zdF W.fs k a 1,if isH b then 0 else 4,zaC (rlm W a.toNat).s (hd (rlm W a.toNat) b).1 (hd (rlm W a.toNat) b).2] W W (nd (rlm W a.toNat).s (hd (rlm W a.toNat) b).1.toNat).m
def zma(W:Wl)(k:Nat)(a n:Int):Ws :=
 zeN [zdF W.fs k a 3,zbk (rlm W k) n,if (que W a.toNat).length=16 then 1 else 0] W { W with qs:=W.qs.set a.toNat (que W a.toNat++[⟨k,zaW (rlm W k) n.toNat⟩]) } 0
def wGo(W:Wl)(k:Nat)(n a:Int):Ws :=
 zeN [zdF W.fs k n 5,goE W.fs n a] W { fs:=goF W.fs n a,rs:=W.rs.set n.toNat (zdm (rlm W n.toNat).s.length),ps:=W.ps.set n.toNat [],qs:=W.qs.set n.toNat [],pt:=W.pt } 0
def zuL(W:Wl)(k:Nat):Ws:=zeN [zfq W.pt (many W) k (zaB W k)] W { W with pt:=zct W.pt k (zaB W k) } W.pt.length
def zAe(W:Wl)(k:Nat)(a n:Int):Ws:=zeN [zdF W.fs k a 3,zkm W.pt (many W) n k (zaB W k) a (zaB W a)] W { W with pt:=zhG W.pt n a (zaB W a) } 0
def zAg(W:Wl)(k:Nat)(a n:Int):Ws :=
 zeN [if bits .and .i64 (ziu W k) 2=0 then 7 else 0,zbk (rlm W k) a,zhL W.pt (many W) n k (zaB W k) (zaW (rlm W k) a.toNat)] W { W with pt:=ziv W.pt n (zaW (rlm W k) a.toNat) } 0
def zAf(W:Wl)(k:Nat)(n:Int):Ws :=
 zeN [zfu W.pt (many W) n k (zaB W k)] W { setR W k { rlm W k with i:=gr (pt W.pt n.toNat).cm 0 } with pt:=zhK W.pt n } 0
def zAh(W:Wl)(k:Nat)(n:Int):Ws:=zeN [zaU W.pt (many W) n k (zaB W k)] W { W with pt:=zhS W.pt n } 0
def wDo(W:Wl)(k:Nat)(x:Ac):Ws:=zeN [(doF (rlm W k) x).e] W (setR W k (doF (rlm W k) x).r) (doF (rlm W k) x).o
def zdh(W:Wl)(k:Nat)(x:Ac):Ws :=
 if x.k=9 then zAQ W k x.n
 else if x.k=13 then zxx W k x.n
 else if x.k=12 then zpU W k x.a x.b
 else if x.k=10 then zma W k x.a x.n
 else if x.k=21 then wGo W k x.n x.a
 else if x.k=16 then zuL W k
 else if x.k=17 then zAe W k x.a x.n
 else if x.k=18 then zAg W k x.a x.n
 else if x.k=19 then zAf W k x.n
 else if x.k=20 then zAh W k x.n
 else wDo W k x
def toldOf(q:Ws):Int:=if q.e=0 then q.o else -q.e
def zjK(W:Wl)(k:Nat)(o:Int):Wl:=setR W k { rlm W k with t:=(rlm W k).t++[o] }
def doW(k:Nat)(W:Wl)(x:Ac):Wl:=zjK (zdh W k x).w k (toldOf (zdh W k x))
def zbb(W:Wl)(k:Nat)(start:Bool):Wl :=
 if start then setR W k { rlm W k with i:=[] }
 else { setR W k { rlm W k with i:=((que W k).getD 0 ⟨0,[]⟩).g } with qs:=W.qs.set k ((que W k).drop 1) }
def zbK(W:Wl)(k:Int)(start:Bool):Int :=
 zao [zby W,zax W.fs k,if bits .and .i64 (ziu W k.toNat) 1=0 then 7 else 0,if 4760<(rlm W k.toNat).t.length then 1 else 0,if start=false/\(que W k.toNat).length=0 then 8 else 0]
def zaX(W:Wl)(k:Int)(start:Bool):Wl:=if zbK W k start=0 then (prg W k.toNat).foldl (doW k.toNat) (zbb W k.toNat start) else zjQ
def zjz(W:Wl)(p:Int × Bool):Wl:=if zbK W p.1 p.2=0 then zaX W p.1 p.2 else W
def zrq:Wl->List (Int × Bool)->List Int
 | _,[]=>[]
 | W,p :: l=>zbK W p.1 p.2 :: zrq (zjz W p) l
theorem zds.set{L:List Pt}{F:Int}(R:zds L F){k:Nat}{x:Pt}(hk:k<L.length)(Z:x.m=(pt L k).m)(ho:0<=x.o/\x.o<F)(ht:0<=x.t/\x.t<=1000)(hc:x.cm.length<=16)(hs:x.s=true->x.cm.length=0)(hg:zbp x.cm=0):zds (L.set k x) F:=by
 have M:∀ j,j<L.length->(pt (L.set k x) j).m=(pt L j).m:=fun j U=>by
  rw[zkS U];split
  ·rename_i e;subst e;exact Z
  ·rfl
 refine⟨by rw[List.length_set];exact R.few,fun i hi=>?_⟩;rw[List.length_set] at hi;obtain⟨h1,I,h3,O,h5,T⟩:=zbm.1 (R.ok i hi);obtain⟨q,J,D,a5,E⟩:=R.mate hi;rw[zbm,List.length_set,M i hi,J,yi,M q D,E];rw[J] at I;refine⟨?_,I,⟨by omega,rfl⟩,?_⟩
 ·rw[zkS hi];split
  ·exact ho
  ·exact h1
 ·rw[zkS hi];split
  ·exact⟨ht,⟨hc,hs⟩,hg⟩
  ·exact⟨O,h5,T⟩
theorem zds.open{L:List Pt}{F o t:Int}(R:zds L F)(a5:L.length<=10)(J:0<=o/\o<F)(M:0<=t/\t<=1000):zds (zct L o t) F:=by
 have D:(zct L o t).length=L.length+2:=by unfold zct;rw[List.length_append];rfl
 have old:∀ i,i<L.length->pt (zct L o t) i=pt L i:=fun i hi=>by unfold zct;exact zlP hi
 have O:pt (zct L o t) L.length=⟨o,t,(L.length:Int)+1,[],false⟩:=by
  rw[zft (by rw[D];omega)];unfold zct;rw[List.getElem_append_right (by omega)];simp
 have T:pt (zct L o t) (L.length+1)=⟨o,t,(L.length:Int),[],false⟩:=by
  rw[zft (by rw[D];omega)];unfold zct;rw[List.getElem_append_right (by omega)];simp
 refine⟨by omega,fun i hi=>?_⟩;rw[D] at hi;rw[zbm,D];by_cases e:i<L.length
 ·obtain⟨h1,h2,h3,h4,h5,h6⟩:=zbm.1 (R.ok i e);obtain⟨q,hq,E,a6,I⟩:=R.mate e;rw[old i e,hq,yi,old q E,I];exact⟨h1,by omega,⟨by omega,rfl⟩,h4,h5,h6⟩
 ·by_cases U:i=L.length
  ·subst U;rw[O];dsimp only;rw[show ((L.length:Int)+1).toNat=L.length+1 by omega,T];exact⟨J,by omega,⟨by omega,rfl⟩,M,⟨by simp,by simp⟩,rfl⟩
  ·have Z:i=L.length+1:=(by omega);subst Z;rw[T];dsimp only;rw[yi,O];exact⟨J,by omega,⟨by omega,by simp⟩,M,⟨by simp,by simp⟩,rfl⟩
theorem zeb:∀ {l:List Int},zao l=0↔∀ e ∈ l,e=0
 | []=>by simp[zao]
 | e :: l=>by
  unfold zao;by_cases h:e=0
  ·rw[yb h,zeb];simp[h]
  ·rw[ya h];exact⟨fun D=>absurd D h,fun D=>absurd (D e (by simp)) h⟩
theorem zgx:∀ {l:List Rl},zcJ l=0↔∀ r ∈ l,zaE r=0
 | []=>by simp[zcJ]
 | r :: l=>by
  unfold zcJ;by_cases h:zaE r=0
  ·rw[yb h,zgx];simp[h]
  ·rw[ya h];exact⟨fun D=>absurd D h,fun D=>absurd (D r (by simp)) h⟩
theorem zhJ:∀ {l:List (List Ac)},zel l=0↔∀ p ∈ l,p.length<=40
 | []=>by simp[zel]
 | p :: l=>by
  unfold zel;by_cases h:40<p.length
  ·rw[yb h];exact⟨fun D=>by omega,fun D=>absurd (D p (by simp)) (by omega)⟩
  ·rw[ya h,zhJ];simp;intro _;omega
theorem zgw{n:Nat}:∀ {l:List (List Ml)},zcI n l=0↔∀ q ∈ l,zbW n q=0
 | []=>by simp[zcI]
 | r :: l=>by
  unfold zcI;by_cases h:zbW n r=0
  ·rw[yb h,zgw];simp[h]
  ·rw[ya h];exact⟨fun D=>absurd D h,fun D=>absurd (D r (by simp)) h⟩
theorem zkK{n:Nat}:∀ {l:List Ml},zjd n l=0↔∀ m ∈ l,(0<=m.f/\m.f<=(n:Int)-1)/\zaz m.g=0
 | []=>by simp[zjd]
 | r :: l=>by
  unfold zjd;by_cases h:0<=r.f/\r.f<=(n:Int)-1
  ·rw[yb h];by_cases E:zaz r.g=0
   ·rw[yb E,zkK];constructor
    ·intro H m F;rcases List.mem_cons.1 F with rfl|F
     ·exact⟨h,E⟩
     ·exact H m F
    ·intro H m F;exact H m (by simp[F])
   ·rw[ya E];exact⟨fun D=>absurd D E,fun D=>absurd (D r (by simp)).2 E⟩
  ·rw[ya h];exact⟨fun D=>by omega,fun D=>absurd (D r (by simp)).1 h⟩
theorem zbs{n:Nat}{q:List Ml}:zbW n q=0↔q.length<=16/\∀ m ∈ q,(0<=m.f/\m.f<=(n:Int)-1)/\zaz m.g=0:=by
 unfold zbW;by_cases h:16<q.length
 ·rw[yb h];exact⟨fun D=>by omega,fun D=>absurd D.1 (by omega)⟩
 ·rw[ya h,zkK];exact⟨fun D=>⟨by omega,D⟩,fun D=>D.2⟩
structure zan (W:Wl):Prop where
 fs:zcl W.fs
 lr:W.rs.length=W.fs.length
 lp:W.ps.length=W.fs.length
 lq:W.qs.length=W.fs.length
 rs:∀ i,i<W.fs.length->zaE (rlm W i)=0
 ps:∀ i,i<W.fs.length->(prg W i).length<=40
 qs:∀ i,i<W.fs.length->zbW W.fs.length (que W i)=0
 pt:zds W.pt W.fs.length
theorem zfA{α:Type}{l:List α}{d:α}{P:α->Prop}:(∀ x ∈ l,P x)↔∀ i,i<l.length->P (l.getD i d):=by
 constructor
 ·intro h i hi;rw[zae _ _ hi];exact h _ (List.getElem_mem hi)
 ·intro h x D;obtain⟨i,hi,rfl⟩:=List.getElem_of_mem D;have:=h i hi
  rwa [zae _ _ hi] at this
theorem zcM{W:Wl}:zby W=0↔zan W:=by
 unfold zby;rw[zeb];constructor
 ·intro h;have h1:=h (zaO W.fs) (by simp);have F:=h (if W.rs.length=W.fs.length/\W.ps.length=W.fs.length/\W.qs.length=W.fs.length then 0 else 3) (by simp);have I:=h (zcJ W.rs) (by simp);have J:=h (zel W.ps) (by simp);have h5:=h (zcI W.fs.length W.qs) (by simp);have M:=h (zbf W.pt W.fs.length) (by simp)
  have D:W.rs.length=W.fs.length/\W.ps.length=W.fs.length/\W.qs.length=W.fs.length:=by
   by_cases e:W.rs.length=W.fs.length/\W.ps.length=W.fs.length/\W.qs.length=W.fs.length
   ·exact e
   ·rw[ya e] at F;omega
  exact⟨zdv.1 h1,D.1,D.2.1,D.2.2,fun i hi=>zfA.1 (zgx.1 I) i (by rw[D.1];exact hi),fun i hi=>zfA.1 (zhJ.1 J) i (by rw[D.2.1];exact hi),fun i hi=>zfA.1 (zgw.1 h5) i (by rw[D.2.2];exact hi),zcH.1 M⟩
 ·intro R e E;simp only[List.mem_cons,List.not_mem_nil,or_false] at E;rcases E with rfl|rfl|rfl|rfl|rfl|rfl
  ·exact zdv.2 R.fs
  ·rw[yb ⟨R.lr,R.lp,R.lq⟩]
  ·exact zgx.2 (zfA.2 (fun i hi=>R.rs i (by rw[<- R.lr];exact hi)))
  ·exact zhJ.2 (zfA.2 (fun i hi=>R.ps i (by rw[<- R.lp];exact hi)))
  ·exact zgw.2 (zfA.2 (fun i hi=>R.qs i (by rw[<- R.lq];exact hi)))
  ·exact zcH.2 R.pt
theorem zba{α:Type}(l:List α)(k i:Nat)(v d:α)(D:k<l.length):(l.set k v).getD i d=if i=k then v else l.getD i d:=by
 by_cases e:i=k
 ·subst e;rw[yb rfl,zae _ _ (by simpa using D),List.getElem_set_self]
 ·rw[ya e,zgT l k i v d e]
theorem zdB{W:Wl}{k i:Nat}{R:Rl}(D:k<W.rs.length):rlm (setR W k R) i=if i=k then R else rlm W i:=zba _ _ _ _ _ D
theorem zan.setR{W:Wl}(H:zan W){k:Nat}{R:Rl}(D:zaE R=0)(E:k<W.fs.length):zan (setR W k R) :=
 ⟨H.fs,by show (W.rs.set k R).length=_;rw[List.length_set];exact H.lr,H.lp,H.lq,fun i hi=>by
  rw[zdB (by rw[H.lr];exact E)];split
  ·exact D
  ·exact H.rs i hi,H.ps,H.qs,H.pt⟩
theorem zjf{R:Rl}:∀ {n:Nat},zcq R n=0->∀ i:Nat,i<n->zaC R.s (hd R i).1 (hd R i).2=0
 | 0,_,i,hi=>absurd hi (yw _)
 | n+1,h,i,hi=>by
  unfold zcq at h;by_cases h0:zcq R n=0
  ·rw[yb h0] at h;by_cases e:i=n
   ·subst e;exact h
   ·exact zjf h0 i (by omega)
  ·rw[ya h0] at h;exact absurd h h0
theorem zeG{R:Rl}{n:Int}(h:zbk R n=0):∃ m:Nat,n=m/\m<=8/\∀ i:Nat,i<m->zaC R.s (hd R i).1 (hd R i).2=0:=by
 unfold zbk at h;by_cases h0:0<=n/\n<=8
 ·rw[yb h0] at h;exact⟨n.toNat,by omega,by omega,zjf h⟩
 ·rw[ya h0] at h;omega
theorem zcF(R:Rl)(n:Nat):(zaW R n).length=n+1:=by unfold zaW;simp
theorem ziG(R:Rl)(n:Nat):cl (zaW R n) 0=⟨n,(List.range n).map fun i:Nat=>(i:Int)+1⟩:=rfl
theorem ziH{R:Rl}{n i:Nat}(h:i<n):cl (zaW R n) (i+1)=⟨(nd R.s (hd R i).1.toNat).m,[]⟩:=by
 rw[zco (by rw[zcF];omega)];unfold zaW;simp
theorem zgs{R:Rl}{n:Nat}(hn:n<=8)(h:∀ i:Nat,i<n->zaC R.s (hd R i).1 (hd R i).2=0):Right (zaW R n):=by
 have split:∀ i,i<(zaW R n).length->i=0\/∃ j,j<n/\i=j+1:=fun i hi=>by
  rw[zcF] at hi;by_cases e:i=0
  ·exact Or.inl e
  ·exact Or.inr ⟨i-1,by omega,by omega⟩
 refine⟨by rw[zcF];omega,fun i hi=>?_,fun i hi=>?_,fun i hi=>?_⟩
 ·rcases split i hi with rfl |⟨j,D,rfl⟩
  ·rw[ziG];dsimp only;omega
  ·rw[ziH D];obtain⟨wf,k,e,F,I,_⟩:=zcC (h j D);rw[e,yi];have:=(zbj (wf.node k F)).1;unfold zcT at this;simp only[Bool.and_eq_true,decide_eq_true_eq] at this;exact this.2.2
 ·rcases split i hi with rfl |⟨j,D,rfl⟩
  ·rw[ziG];simpa using hn
  ·rw[ziH D];simp
 ·intro x E;rcases split i hi with rfl |⟨j,D,rfl⟩
  ·rw[ziG] at E;simp only[List.mem_map,List.mem_range] at E;obtain⟨a,ha,rfl⟩:=E;exact⟨a+1,by omega,by rw[zcF];omega⟩
  ·rw[ziH D] at E;cases E
theorem zji(n:Nat)(h:n<=24):zaE (zdm n)=0/\zdm n=⟨List.replicate n zbe,List.replicate 16 (0,0),[],[]⟩:=by
 have e:zdm n=⟨List.replicate n zbe,List.replicate 16 (0,0),[],[]⟩:=by
  unfold zdm;rw[yb (by omega),yi]
 rw[e];exact⟨zeo (zAj n h) (by simp) rfl (by simp),rfl⟩
theorem zbR{L:List Fr}{f t x:Int}(h:zdF L f t x=0):zaO L=0/\zax L f=0/\zax L t=0/\zsa L f t x=true:=by
 unfold zdF at h;by_cases h1:zfh L [f,t]=0
 ·rw[ya (yI h1)] at h;by_cases D:1<=x/\x<=5
  ·rw[ya (yI D)] at h;by_cases E:zsa L f t x=true
   ·obtain⟨a,b,c⟩:=zfU h1;exact⟨a,b,c,E⟩
   ·rw[ya E] at h;omega
  ·rw[yb D] at h;omega
 ·rw[yb h1] at h;exact absurd h h1
theorem zpW{Es:List Int}{W V:Wl}{o:Int}:(zeN Es W V o).w=W\/(zao Es=0/\zeN Es W V o=⟨0,V,o⟩):=by
 unfold zeN;by_cases h:zao Es=0
 ·rw[yb h];exact Or.inr ⟨h,rfl⟩
 ·rw[ya h];exact Or.inl rfl
theorem zat{e:Int}{l:List Int}(h:zao (e :: l)=0):e=0/\zao l=0:=by
 rw[zeb] at h;exact⟨h e (by simp),zeb.2 (fun x D=>h x (by simp[D]))⟩
theorem zvV:(Tryz.prog.info? 121).map (fun i=>(i.zero,i.size,i.bytes))=some (some (.agg #[.int .i64 0,.int .i64 0,.int .i64 0,.slice none 0 0,.bool false]),5,56):=by kernel_rfl
def zcS(x:Pt)(v:Value):List Value:=[.int .i64 x.o,.int .i64 x.t,.int .i64 x.m,v,.bool x.s]
def zcc(L:List Pt)(K:Nat->Value):List Value:=(List.range L.length).flatMap fun i=>zcS (pt L i) (K i)
theorem ztW(x:Pt)(v:Value):(zcS x v).length=5:=rfl
theorem zek(L:List Pt)(K:Nat->Value):∀ q,((List.range q).flatMap fun i=>zcS (pt L i) (K i)).length=q*5
 | 0=>rfl
 | q+1=>by rw[List.range_succ,List.flatMap_append,List.length_append,zek L K q];simp[zcS];omega
theorem zbM(L:List Pt)(K:Nat->Value):(zcc L K).length=L.length*5:=zek L K _
theorem znh(L:List Pt)(K:Nat->Value){i j:Nat}(D:j<5):∀ {q:Nat},i<q->((List.range q).flatMap fun i=>zcS (pt L i) (K i))[i*5+j]?=(zcS (pt L i) (K i))[j]?
 | 0,hi=>by omega
 | q+1,hi=>by
  rw[List.range_succ,List.flatMap_append];by_cases h:i<q
  ·rw[List.getElem?_append_left (by rw[zek];omega)];exact znh L K D h
  ·have e:i=q:=(by omega);subst e;rw[List.getElem?_append_right (by rw[zek];omega),zek,show i*5+j-i*5=j by omega];simp
theorem zej{L:List Pt}{K:Nat->Value}{i j:Nat}(hi:i<L.length)(D:j<5):(zcc L K)[i*5+j]?=(zcS (pt L i) (K i))[j]?:=znh L K D hi
theorem zhH{L:List Pt}{K:Nat->Value}{D:List Value}(hl:D.length=L.length*5)(h:∀ i j,i<L.length->j<5->D[i*5+j]?=(zcS (pt L i) (K i))[j]?):D=zcc L K:=by
 refine List.ext_getElem? (fun m=>?_);by_cases E:m<L.length*5
 ·have e:m=m / 5*5+m % 5:=by omega
  have h1:=h (m / 5) (m % 5) (by omega) (by omega);rw[<- e] at h1;rw[h1,<- zej (L:=L) (K:=K) (by omega) (by omega),<- e]
 ·rw[List.getElem?_eq_none (by omega),List.getElem?_eq_none (by rw[zbM];omega)]
theorem zrg{L:List Pt}{K:Nat->Value}{k f:Nat}{u v:Value}{x:Pt}(J:k<L.length)(I:f<5)(F:zcS x v=(zcS (pt L k) (K k)).set f u) :
  (zcc L K).set (k*5+f) u=zcc (L.set k x) (fun i=>if i=k then v else K i):=by
 refine zhH (by rw[List.length_set,zbM,List.length_set]) (fun i j hi E=>?_);rw[List.length_set] at hi;rw[zkS hi];by_cases e:k=i
 ·subst e;rw[yb rfl];simp only[if_true];rw[F,List.getElem?_set];by_cases D:f=j
  ·subst D;rw[yb rfl,yb (by rw[zbM];omega),List.getElem?_set_self (by rw[ztW];omega)]
  ·rw[ya (by omega),zej hi E,List.getElem?_set_ne D]
 ·rw[ya e,List.getElem?_set_ne (by omega),zej hi E];simp only[ya (show ¬ i=k from fun h=>e h.symm)]
theorem zjo(L:List Pt)(K:Nat->Value)(x:Pt)(v:Value):zcc L K++zcS x v=zcc (L++[x]) (fun i=>if i=L.length then v else K i):=by
 refine zhH (by rw[List.length_append,zbM,List.length_append];simp[zcS];omega) (fun i j hi E=>?_);rw[List.length_append,List.length_singleton] at hi;by_cases e:i<L.length
 ·rw[List.getElem?_append_left (by rw[zbM];omega),zej e E,zlP e];simp only[ya (show ¬ i=L.length by omega)]
 ·have D:i=L.length:=by omega
  subst D;rw[List.getElem?_append_right (by rw[zbM];omega),zbM,show L.length*5+j-L.length*5=j by omega,zua];simp only[if_true]
def zrH(w:World)(v:Value)(C:List (List Cl)):Prop:=∃ D E,v=.slice D C.length E/\zyT w D E C
theorem zrH.nil(w:World):zrH w (.slice none 0 0) []:=⟨none,0,rfl,⟨fun _=>rfl,yj _,by omega⟩,zvK w⟩
theorem zuf{B:Nat}{w:World}{v:Value}{L:List Pt}{K:Nat->Value}(h:w.ownsRow B 121 5 v L.length (zcc L K))(hg:∀ i,i<L.length->zrH w (K i) (pt L i).cm):∃ a c,v=.slice a L.length c/\zdr w a L:=by
 have hc:=fun g hg=>h.cells (g:=g) hg;rcases h.2 with ⟨rfl,h0⟩ |⟨g,cap,J,rfl,_⟩
 ·exact⟨none,0,by rw[h0],fun i hi=>by omega⟩
 ·refine⟨some ⟨g,0,none⟩,cap,rfl,fun i hi=>⟨g,0,rfl,?_⟩⟩
  have D:∀ j u,j<5->(zcS (pt L i) (K i))[j]?=some u->w.cell? ⟨g,0+i*5+j,none⟩=some u:=fun j u M O=>by
   have:=hc g rfl (i*5+j) u (by rw[zej hi M];exact O);rw[yz]
   rwa [Addr.add_lit,yz] at this
  obtain⟨F,I,e,E⟩:=hg i hi;exact⟨D 0 _ (by omega) rfl,D 1 _ (by omega) rfl,D 2 _ (by omega) rfl,F,I,D 3 _ (by omega) (by rw[<- e];rfl),E,D 4 _ (by omega) rfl⟩
def zuI(H E:Int):Int:=if H≠0 then H else E
end Go.Proofs.YtcbcpomacdngmaaGreat
