/-
  x
-/
import Derived.Test.YtcbcpomacdngmaaGreatQ24
namespace Go.Proofs.YtcbcpomacdngmaaGreat
set_option maxRecDepth 100000
set_option maxHeartbeats 4000000
set_option linter.unusedVariables false
open Go.RowKit Go.ChangeShapes Go.WideShapes
theorem zdn.set{L:List Pt}{F:Int}(R:zdn L F){k:Nat}{x:Pt}(hk:k<L.length)(Z:x.m=(pt L k).m)(ho:0<=x.o/\x.o<F)(ht:0<=x.t/\x.t<=1000)(hc:x.cm.length<=16)(hs:x.s=true->x.cm.length=0)(hg:zbo x.cm=0):zdn (L.set k x) F:=by
 have M:∀ j,j<L.length->(pt (L.set k x) j).m=(pt L j).m:=fun j U=>by
  rw[zjE U];split
  ·rename_i e;subst e;exact Z
  ·rfl
 refine⟨by rw[List.length_set];exact R.few,fun i hi=>?_⟩;rw[List.length_set] at hi;obtain⟨h1,I,h3,O,h5,T⟩:=zbm.1 (R.ok i hi);obtain⟨q,J,D,a5,E⟩:=R.mate hi;rw[zbm,List.length_set,M i hi,J,yi,M q D,E];rw[J] at I;refine⟨?_,I,⟨by omega,rfl⟩,?_⟩
 ·rw[zjE hi];split
  ·exact ho
  ·exact h1
 ·rw[zjE hi];split
  ·exact⟨ht,⟨hc,hs⟩,hg⟩
  ·exact⟨O,h5,T⟩
theorem zdn.open{L:List Pt}{F o t:Int}(R:zdn L F)(a5:L.length<=10)(J:0<=o/\o<F)(M:0<=t/\t<=1000):zdn (zcx L o t) F:=by
 have D:(zcx L o t).length=L.length+2:=by unfold zcx;rw[List.length_append];rfl
 have old:∀ i,i<L.length->pt (zcx L o t) i=pt L i:=fun i hi=>by unfold zcx;exact zlZ hi
 have O:pt (zcx L o t) L.length=⟨o,t,(L.length:Int)+1,[],false⟩:=by
  rw[zfA (by rw[D];omega)];unfold zcx;rw[List.getElem_append_right (by omega)];simp
 have T:pt (zcx L o t) (L.length+1)=⟨o,t,(L.length:Int),[],false⟩:=by
  rw[zfA (by rw[D];omega)];unfold zcx;rw[List.getElem_append_right (by omega)];simp
 refine⟨by omega,fun i hi=>?_⟩;rw[D] at hi;rw[zbm,D];by_cases e:i<L.length
 ·obtain⟨h1,h2,h3,h4,h5,h6⟩:=zbm.1 (R.ok i e);obtain⟨q,hq,E,a6,I⟩:=R.mate e;rw[old i e,hq,yi,old q E,I];exact⟨h1,by omega,⟨by omega,rfl⟩,h4,h5,h6⟩
 ·by_cases U:i=L.length
  ·subst U;rw[O];dsimp only;rw[show ((L.length:Int)+1).toNat=L.length+1 by omega,T];exact⟨J,by omega,⟨by omega,rfl⟩,M,⟨by simp,by simp⟩,rfl⟩
  ·have Z:i=L.length+1:=by omega
   subst Z;rw[T];dsimp only;rw[yi,O];exact⟨J,by omega,⟨by omega,by simp⟩,M,⟨by simp,by simp⟩,rfl⟩
theorem zdY:∀ {l:List Int},zao l=0↔∀ e ∈ l,e=0
 | []=>by simp[zao]
 | e :: l=>by
  unfold zao;by_cases h:e=0
  ·rw[yb h,zdY];simp[h]
  ·rw[ya h];exact⟨fun D=>absurd D h,fun D=>absurd (D e (by simp)) h⟩
theorem zgF:∀ {l:List Rl},zcJ l=0↔∀ r ∈ l,zaF r=0
 | []=>by simp[zcJ]
 | r :: l=>by
  unfold zcJ;by_cases h:zaF r=0
  ·rw[yb h,zgF];simp[h]
  ·rw[ya h];exact⟨fun D=>absurd D h,fun D=>absurd (D r (by simp)) h⟩
theorem zhT:∀ {l:List (List Ac)},zek l=0↔∀ p ∈ l,p.length<=40
 | []=>by simp[zek]
 | p :: l=>by
  unfold zek;by_cases h:40<p.length
  ·rw[yb h];exact⟨fun D=>by omega,fun D=>absurd (D p (by simp)) (by omega)⟩
  ·rw[ya h,zhT];simp;intro _;omega
theorem zgE{n:Nat}:∀ {l:List (List Ml)},zcI n l=0↔∀ q ∈ l,zbU n q=0
 | []=>by simp[zcI]
 | r :: l=>by
  unfold zcI;by_cases h:zbU n r=0
  ·rw[yb h,zgE];simp[h]
  ·rw[ya h];exact⟨fun D=>absurd D h,fun D=>absurd (D r (by simp)) h⟩
theorem zkT{n:Nat}:∀ {l:List Ml},zjo n l=0↔∀ m ∈ l,(0<=m.f/\m.f<=(n:Int)-1)/\zav m.g=0
 | []=>by simp[zjo]
 | r :: l=>by
  unfold zjo;by_cases h:0<=r.f/\r.f<=(n:Int)-1
  ·rw[yb h];by_cases E:zav r.g=0
   ·rw[yb E,zkT];constructor
    ·intro H m F;rcases List.mem_cons.1 F with rfl|F
     ·exact⟨h,E⟩
     ·exact H m F
    ·intro H m F;exact H m (by simp[F])
   ·rw[ya E];exact⟨fun D=>absurd D E,fun D=>absurd (D r (by simp)).2 E⟩
  ·rw[ya h];exact⟨fun D=>by omega,fun D=>absurd (D r (by simp)).1 h⟩
theorem zby{n:Nat}{q:List Ml}:zbU n q=0↔q.length<=16/\∀ m ∈ q,(0<=m.f/\m.f<=(n:Int)-1)/\zav m.g=0:=by
 unfold zbU;by_cases h:16<q.length
 ·rw[yb h];exact⟨fun D=>by omega,fun D=>absurd D.1 (by omega)⟩
 ·rw[ya h,zkT];exact⟨fun D=>⟨by omega,D⟩,fun D=>D.2⟩
structure zan (W:Wl):Prop where
 fs:zcl W.fs
 lr:W.rs.length=W.fs.length
 lp:W.ps.length=W.fs.length
 lq:W.qs.length=W.fs.length
 rs:∀ i,i<W.fs.length->zaF (rlm W i)=0
 ps:∀ i,i<W.fs.length->(prg W i).length<=40
 qs:∀ i,i<W.fs.length->zbU W.fs.length (que W i)=0
 pt:zdn W.pt W.fs.length
theorem zfG{α:Type}{l:List α}{d:α}{P:α->Prop}:(∀ x ∈ l,P x)↔∀ i,i<l.length->P (l.getD i d):=by
 constructor
 ·intro h i hi;rw[zae _ _ hi];exact h _ (List.getElem_mem hi)
 ·intro h x D;obtain⟨i,hi,rfl⟩:=List.getElem_of_mem D;have:=h i hi
  rwa [zae _ _ hi] at this
theorem zck{W:Wl}:zbp W=0↔zan W:=by
 unfold zbp;rw[zdY];constructor
 ·intro h;have h1:=h (zaM W.fs) (by simp);have F:=h (if W.rs.length=W.fs.length/\W.ps.length=W.fs.length/\W.qs.length=W.fs.length then 0 else 3) (by simp);have I:=h (zcJ W.rs) (by simp);have J:=h (zek W.ps) (by simp);have h5:=h (zcI W.fs.length W.qs) (by simp);have M:=h (zbd W.pt W.fs.length) (by simp)
  have D:W.rs.length=W.fs.length/\W.ps.length=W.fs.length/\W.qs.length=W.fs.length:=by
   by_cases e:W.rs.length=W.fs.length/\W.ps.length=W.fs.length/\W.qs.length=W.fs.length
   ·exact e
   ·rw[ya e] at F;omega
  exact⟨zdq.1 h1,D.1,D.2.1,D.2.2,fun i hi=>zfG.1 (zgF.1 I) i (by rw[D.1];exact hi),fun i hi=>zfG.1 (zhT.1 J) i (by rw[D.2.1];exact hi),fun i hi=>zfG.1 (zgE.1 h5) i (by rw[D.2.2];exact hi),zcH.1 M⟩
 ·intro R e E;simp only[List.mem_cons,List.not_mem_nil,or_false] at E;rcases E with rfl|rfl|rfl|rfl|rfl|rfl
  ·exact zdq.2 R.fs
  ·rw[yb ⟨R.lr,R.lp,R.lq⟩]
  ·exact zgF.2 (zfG.2 (fun i hi=>R.rs i (by rw[<- R.lr];exact hi)))
  ·exact zhT.2 (zfG.2 (fun i hi=>R.ps i (by rw[<- R.lp];exact hi)))
  ·exact zgE.2 (zfG.2 (fun i hi=>R.qs i (by rw[<- R.lq];exact hi)))
  ·exact zcH.2 R.pt
theorem zbh{α:Type}(l:List α)(k i:Nat)(v d:α)(D:k<l.length):(l.set k v).getD i d=if i=k then v else l.getD i d:=by
 by_cases e:i=k
 ·subst e;rw[yb rfl,zae _ _ (by simpa using D),List.getElem_set_self]
 ·rw[ya e,ziM l k i v d e]
theorem zcK{W:Wl}{k i:Nat}{R:Rl}(D:k<W.rs.length):rlm (setR W k R) i=if i=k then R else rlm W i:=zbh _ _ _ _ _ D
theorem zan.setR{W:Wl}(H:zan W){k:Nat}{R:Rl}(D:zaF R=0)(E:k<W.fs.length):zan (setR W k R) :=
 ⟨H.fs,by show (W.rs.set k R).length=_;rw[List.length_set];exact H.lr,H.lp,H.lq,fun i hi=>by
  rw[zcK (by rw[H.lr];exact E)];split
  ·exact D
  ·exact H.rs i hi,H.ps,H.qs,H.pt⟩
theorem zjr{R:Rl}:∀ {n:Nat},zcZ R n=0->∀ i:Nat,i<n->zaH R.s (hd R i).1 (hd R i).2=0
 | 0,_,i,hi=>absurd hi (yw _)
 | n+1,h,i,hi=>by
  unfold zcZ at h;by_cases h0:zcZ R n=0
  ·rw[yb h0] at h;by_cases e:i=n
   ·subst e;exact h
   ·exact zjr h0 i (by omega)
  ·rw[ya h0] at h;exact absurd h h0
theorem zgA{R:Rl}{n:Int}(h:zbv R n=0):∃ m:Nat,n=m/\m<=8/\∀ i:Nat,i<m->zaH R.s (hd R i).1 (hd R i).2=0:=by
 unfold zbv at h;by_cases h0:0<=n/\n<=8
 ·rw[yb h0] at h;exact⟨n.toNat,by omega,by omega,zjr h⟩
 ·rw[ya h0] at h;omega
theorem zcn(R:Rl)(n:Nat):(zbf R n).length=n+1:=by unfold zbf;simp
theorem zhf(R:Rl)(n:Nat):cl (zbf R n) 0=⟨n,(List.range n).map fun i:Nat=>(i:Int)+1⟩:=rfl
theorem zhg{R:Rl}{n i:Nat}(h:i<n):cl (zbf R n) (i+1)=⟨(nd R.s (hd R i).1.toNat).m,[]⟩:=by
 rw[zcq (by rw[zcn];omega)];unfold zbf;simp
theorem zjs{R:Rl}{n:Nat}(hn:n<=8)(h:∀ i:Nat,i<n->zaH R.s (hd R i).1 (hd R i).2=0):Right (zbf R n):=by
 have split:∀ i,i<(zbf R n).length->i=0\/∃ j,j<n/\i=j+1:=fun i hi=>by
  rw[zcn] at hi;by_cases e:i=0
  ·exact Or.inl e
  ·exact Or.inr ⟨i-1,by omega,by omega⟩
 refine⟨by rw[zcn];omega,fun i hi=>?_,fun i hi=>?_,fun i hi=>?_⟩
 ·rcases split i hi with rfl |⟨j,D,rfl⟩
  ·rw[zhf];dsimp only;omega
  ·rw[zhg D];obtain⟨wf,k,e,F,I,_⟩:=zcD (h j D);rw[e,yi];have:=(zbg (wf.node k F)).1;unfold zcS at this;simp only[Bool.and_eq_true,decide_eq_true_eq] at this;exact this.2.2
 ·rcases split i hi with rfl |⟨j,D,rfl⟩
  ·rw[zhf];simpa using hn
  ·rw[zhg D];simp
 ·intro x E;rcases split i hi with rfl |⟨j,D,rfl⟩
  ·rw[zhf] at E;simp only[List.mem_map,List.mem_range] at E;obtain⟨a,ha,rfl⟩:=E;exact⟨a+1,by omega,by rw[zcn];omega⟩
  ·rw[zhg D] at E;cases E
theorem zjw(n:Nat)(h:n<=24):zaF (zdj n)=0/\zdj n=⟨List.replicate n zbc,List.replicate 16 (0,0),[],[]⟩:=by
 have e:zdj n=⟨List.replicate n zbc,List.replicate 16 (0,0),[],[]⟩:=by
  unfold zdj;rw[yb (by omega),yi]
 rw[e];exact⟨zen (zAE n h) (by simp) rfl (by simp),rfl⟩
theorem zca{L:List Fr}{f t x:Int}(h:zdK L f t x=0):zaM L=0/\zaA L f=0/\zaA L t=0/\zsu L f t x=true:=by
 unfold zdK at h;by_cases h1:zfq L [f,t]=0
 ·rw[ya (not_not_intro h1)] at h;by_cases D:1<=x/\x<=5
  ·rw[ya (not_not_intro D)] at h;by_cases E:zsu L f t x=true
   ·obtain⟨a,b,c⟩:=zgf h1;exact⟨a,b,c,E⟩
   ·rw[ya E] at h;omega
  ·rw[yb D] at h;omega
 ·rw[yb h1] at h;exact absurd h h1
theorem zqn{Es:List Int}{W V:Wl}{o:Int}:(zfh Es W V o).w=W\/(zao Es=0/\zfh Es W V o=⟨0,V,o⟩):=by
 unfold zfh;by_cases h:zao Es=0
 ·rw[yb h];exact Or.inr ⟨h,rfl⟩
 ·rw[ya h];exact Or.inl rfl
theorem zat{e:Int}{l:List Int}(h:zao (e :: l)=0):e=0/\zao l=0:=by
 rw[zdY] at h;exact⟨h e (by simp),zdY.2 (fun x D=>h x (by simp[D]))⟩
def zAI:Ac:=⟨0,0,0,0,0⟩
def ac(X:List Ac)(i:Nat):Ac:=X.getD i zAI
def zcO(w:World)(a:Option Addr)(X:List Ac):Prop :=
 ∀ i,i<X.length->∃ b o,a=some ⟨b,o,none⟩/\w.cell? ⟨b,o+i*5,none⟩=some (.int .i64 (ac X i).k)/\w.cell? ⟨b,o+i*5+1,none⟩=some (.int .i64 (ac X i).a)/\w.cell? ⟨b,o+i*5+2,none⟩=some (.int .i64 (ac X i).b)/\w.cell? ⟨b,o+i*5+3,none⟩=some (.int .i64 (ac X i).c)/\w.cell? ⟨b,o+i*5+4,none⟩=some (.int .i64 (ac X i).n)
theorem zcO.below{w w' : World}{a:Option Addr}{X:List Ac}(h:zcO w a X)(D:Below w.heap.size w w'):zcO w' a X:=fun i hi=>by
 obtain⟨b,o,e,c0,c1,c2,c3,c4⟩:=h i hi;exact⟨b,o,e,zab c0 D,zab c1 D,zab c2 D,zab c3 D,zab c4 D⟩
def zxJ(f:Nat):Prop:=∀ (S:List Nd) (p u:Int) (a:Option Addr) (c:Nat) (W:World),WF S->zah W a S ->
 Calls Tryz.prog f #[.agg #[.slice a S.length c],.agg #[.int .i64 p,.int .i64 u]] W fun e w' => ∃ (x:Nd) (ka:Option Addr) (kl kc:Nat),e=.returned (.tuple #[.agg #[.bool x.u,.int .i64 x.n,.int .i64 x.t,.int .i64 x.m,.int .i64 x.p,.slice ka kl kc,.int .i64 x.h,.bool x.c],.int .i64 (zaH S p u)])/\Below W.heap.size W w' /\(zaH S p u=0->x=nd S p.toNat)/\(zaH S p u≠0->x=zhr)
theorem zfK:zxJ 14:=fun S p u a c W wf J=>by
 have I:S.length<=9223372036854775807:=by have:=wf.small;omega
 by_cases D:zaH S p u=0
 ·obtain⟨_,k,e,M,T,O⟩:=zcD D;subst e;rw[yi,D];exact(find_ok a c S k u W I wf.big J M D (by have:=zdu wf k M;omega)).mono (fun e w' ⟨g,E,F,hi⟩=>⟨nd S k,_,_,_,E,F,fun _=>rfl,fun h=>absurd rfl h⟩)
 ·exact(ziK a c S p u _ W I wf.big J rfl D).mono (fun e w' ⟨E,F⟩=>⟨zhr,_,_,_,E,F,fun h=>absurd h D,fun _=>rfl⟩)
theorem zxh(k:Int)(n:Nat)(hn:0<n):-(n:Int)<k.tmod n/\k.tmod n<n:=by
 have h1:=Int.tmod_lt_of_pos k (b:=(n:Int)) (by omega);have D:=Int.tmod_lt_of_pos (-k) (b:=(n:Int)) (by omega);rw[Int.neg_tmod] at D;omega
theorem zzx(k:Int)(n:Nat)(hn:0<n)(J:n<=1000):∃ p:Nat,p<n/\∀ w:World,
  Calls Tryz.prog 11 #[.int .i64 k,.int .i64 n] w fun e w' => e=.returned (.int .i64 (p:Int))/\w' = w:=by
 obtain⟨F,I⟩:=zxh k n hn;generalize M:k.tmod (n:Int)=r at F I;by_cases h:r<0
 ·obtain⟨p,D⟩:∃ p:Nat,(p:Int)=r+n:=⟨(r+n).toNat,by omega⟩;refine⟨p,by omega,fun w=>?_⟩;have E:Hid ((p:Int)=r+n):=D;clear D
  go_enter Tryz.func11,Tryz.ntmps11
  go_wp2
  go_ret;exact⟨by rw[E.out];rfl,rfl⟩
 ·obtain⟨p,D⟩:∃ p:Nat,(p:Int)=r:=⟨r.toNat,by omega⟩;refine⟨p,by omega,fun w=>?_⟩;have E:Hid ((p:Int)=r):=D;clear D
  go_enter Tryz.func11,Tryz.ntmps11
  go_wp2
  go_ret;exact⟨by rw[E.out];rfl,rfl⟩
theorem zbl{W:World}{b t:Nat}{D v1:Value}(h:W.heap[b]?=some (.cells #[D,v1] t (0,0))):W.cell? ⟨b,0,none⟩=some D/\W.cell? ⟨b,1,none⟩=some v1/\b<W.heap.size :=
 ⟨by simp[World.cell?,h],by simp[World.cell?,h],zaw h⟩
def zbJ(X:Nat->Prop)(w:World)(a:Option Addr)(L:List Pt):Prop:=∀ w', zaq X w w' -> zbR w' a L
theorem zbJ.at{X:Nat->Prop}{w:World}{a:Option Addr}{L:List Pt}(h:zbJ X w a L):zbR w a L:=h w (zaq.refl X w)
theorem zbJ.off{X:Nat->Prop}{w w' : World}{a:Option Addr}{L:List Pt}(h:zbJ X w a L)(F:zaq X w w'):zbJ X w' a L:=fun D E=>h D (F.trans E)
theorem zbJ.grow{X Y:Nat->Prop}{w E:World}{a:Option Addr}{L:List Pt}(h:zbJ X w a L)(D:zaq X w E)(I:∀ b,b<w.heap.size->Y b->X b):zbJ Y E a L:=fun w' F=>h w' (zlS D.size D.block I F)
theorem zjF{w:World}{a:Option Addr}{L:List Pt}(h:zbR w a L):zbJ (fun _=>False) w a L:=fun w' D=>by
 have E:zbR { w' with os:=w.os,tape:=w.tape,output:=w.output } a L:=h.below ⟨rfl,rfl,rfl,D.size,fun b F=>D.block b F id⟩;exact E
def zlj:Prop:=∀ (X:Nat->Prop) (a:Option Addr) (c:Nat) (L:List Pt) (Fr o t:Int) (w:World),(∀ b,X b->b<w.heap.size)->L.length<=9223372036854775807->zmu L->SlA a L.length c->zbJ X w a L ->
 Calls Tryz.prog 142 #[.slice a L.length c,.int .i64 Fr,.int .i64 o,.int .i64 t] w fun e w' => ∃ D E,e=.returned (.tuple #[.slice D (zmb L Fr o t).length E,.int .i64 (ziD L Fr o t),.int .i64 (zfb L Fr o t)])/\Below w.heap.size w w' /\ SlA D (zmb L Fr o t).length E/\zbJ X w' D (zmb L Fr o t)
theorem zlj.zero(h:zlj):zxL:=fun a c L Fr o t w h1 E F I=>by
 refine(h (fun _=>False) a c L Fr o t w (fun b D=>absurd D id) h1 E F (zjF I)).mono ?_;rintro e w' ⟨M,O,rfl,D,hs,J⟩;exact⟨M,O,rfl,D,hs,J.at⟩
def zll:Prop:=∀ (X:Nat->Prop) (a:Option Addr) (c:Nat) (L:List Pt) (Fr k o t D th:Int) (w:World),(∀ b,X b->b<w.heap.size)->L.length<=9223372036854775807->zmu L->SlA a L.length c->zbJ X w a L ->
 Calls Tryz.prog 144 #[.slice a L.length c,.int .i64 Fr,.int .i64 k,.int .i64 o,.int .i64 t,.int .i64 D,.int .i64 th] w fun e w' => ∃ E F,e=.returned (.tuple #[.slice E (zeK L Fr k o t D th).length F,.int .i64 (zjA L Fr k o t D th)])/\Below w.heap.size w w' /\ SlA E (zeK L Fr k o t D th).length F/\zbJ X w' E (zeK L Fr k o t D th)
theorem zll.zero(h:zll):zxM:=fun a c L Fr k o t E th w h1 F I J=>by
 refine(h (fun _=>False) a c L Fr k o t E th w (fun b D=>absurd D id) h1 F I (zjF J)).mono ?_;rintro e w' ⟨O,T,rfl,D,hs,M⟩;exact⟨O,T,rfl,D,hs,M.at⟩
def zln:Prop:=∀ (X:Nat->Prop) (a:Option Addr) (c:Nat) (L:List Pt) (Fr k o t:Int) (ga:Option Addr) (gc:Nat) (G:List Cl) (w:World),(∀ b,X b->b<w.heap.size)->L.length<=9223372036854775807->zmu L->SlA a L.length c->zbJ X w a L->G.length<=9223372036854775807->zkz G->zaG w ga G ->
 Calls Tryz.prog 145 #[.slice a L.length c,.int .i64 Fr,.int .i64 k,.int .i64 o,.int .i64 t,.agg #[.slice ga G.length gc]] w fun e w' => ∃ D E,e=.returned (.tuple #[.slice D (zeM L Fr k o t G).length E,.int .i64 (zhl L Fr k o t G)])/\Below w.heap.size w w' /\ SlA D (zeM L Fr k o t G).length E/\zbJ X w' D (zeM L Fr k o t G)
theorem zln.zero(h:zln):zxO:=fun a c L Fr k o t ga gc G w h1 J M O E F I=>by
 refine(h (fun _=>False) a c L Fr k o t ga gc G w (fun b D=>absurd D id) h1 J M (zjF O) E F I).mono ?_;rintro e w' ⟨U,Z,rfl,D,hs,T⟩;exact⟨U,Z,rfl,D,hs,T.at⟩
def zlm:Prop:=∀ (X:Nat->Prop) (a:Option Addr) (c:Nat) (L:List Pt) (Fr k o t:Int) (w:World),(∀ b,X b->b<w.heap.size)->L.length<=9223372036854775807->zmu L->SlA a L.length c->zbJ X w a L ->
 Calls Tryz.prog 146 #[.slice a L.length c,.int .i64 Fr,.int .i64 k,.int .i64 o,.int .i64 t] w fun e w' => ∃ D E ga gc,e=.returned (.tuple #[.slice D (zeL L Fr k o t).length E,.agg #[.slice ga (zpb L Fr k o t).length gc],.int .i64 (zfe L Fr k o t)])/\Below w.heap.size w w' /\ SlA D (zeL L Fr k o t).length E/\zbJ X w' D (zeL L Fr k o t)/\ziU X w' ga (zpb L Fr k o t)
theorem zlm.zero(h:zlm):zxN:=fun a c L Fr k o t w h1 E F I=>by
 refine(h (fun _=>False) a c L Fr k o t w (fun b D=>absurd D id) h1 E F (zjF I)).mono ?_;rintro e w' ⟨M,O,ga,gc,rfl,D,hs,J,hg⟩;exact⟨M,O,ga,gc,rfl,D,hs,J.at,hg.at⟩
def zlo:Prop:=∀ (X:Nat->Prop) (a:Option Addr) (c:Nat) (L:List Pt) (Fr k o t:Int) (w:World),(∀ b,X b->b<w.heap.size)->L.length<=9223372036854775807->zmu L->SlA a L.length c->zbJ X w a L ->
 Calls Tryz.prog 147 #[.slice a L.length c,.int .i64 Fr,.int .i64 k,.int .i64 o,.int .i64 t] w fun e w' => ∃ D E,e=.returned (.tuple #[.slice D (zeN L Fr k o t).length E,.int .i64 (zaT L Fr k o t)])/\Below w.heap.size w w' /\ SlA D (zeN L Fr k o t).length E/\zbJ X w' D (zeN L Fr k o t)
theorem zlo.zero(h:zlo):zxP:=fun a c L Fr k o t w h1 E F I=>by
 refine(h (fun _=>False) a c L Fr k o t w (fun b D=>absurd D id) h1 E F (zjF I)).mono ?_;rintro e w' ⟨M,O,rfl,D,hs,J⟩;exact⟨M,O,rfl,D,hs,J.at⟩
theorem zan.frames{W:Wl}(H:zan W){L:List Fr}(D:zcl L)(hl:L.length=W.fs.length):zan { W with fs:=L } :=
 ⟨D,H.lr.trans hl.symm,H.lp.trans hl.symm,H.lq.trans hl.symm,fun i hi=>H.rs i (by rw[<- hl];exact hi),fun i hi=>H.ps i (by rw[<- hl];exact hi),fun i hi=>by show zbU L.length _=0;rw[hl];exact H.qs i (by rw[<- hl];exact hi),by show zdn W.pt (L.length:Int);rw[hl];exact H.pt⟩
theorem zan.ports{W:Wl}(H:zan W){P:List Pt}(D:zdn P W.fs.length):zan { W with pt:=P }:=⟨H.fs,H.lr,H.lp,H.lq,H.rs,H.ps,H.qs,D⟩
theorem zan.queue{W:Wl}(H:zan W){a:Nat}{q:List Ml}(ha:a<W.fs.length)(D:zbU W.fs.length q=0):zan { W with qs:=W.qs.set a q } :=
 ⟨H.fs,H.lr,H.lp,by show (W.qs.set a q).length=_;rw[List.length_set];exact H.lq,H.rs,H.ps,fun i hi=>by
  show zbU W.fs.length ((W.qs.set a q).getD i [])=0;rw[zbh _ _ _ _ _ (by rw[H.lq];exact ha)];split
  ·exact D
  ·exact H.qs i hi,H.pt⟩
theorem zan.prog{W:Wl}(H:zan W){a:Nat}{q:List Ac}(ha:a<W.fs.length)(D:q.length<=40):zan { W with ps:=W.ps.set a q } :=
 ⟨H.fs,H.lr,by show (W.ps.set a q).length=_;rw[List.length_set];exact H.lp,H.lq,H.rs,fun i hi=>by
  show ((W.ps.set a q).getD i []).length<=40;rw[zbh _ _ _ _ _ (by rw[H.lp];exact ha)];split
  ·exact D
  ·exact H.ps i hi,H.qs,H.pt⟩
theorem zdt{L:List Fr}{k:Int}(h:zaA L k=0):∃ q:Nat,k=q/\q<L.length/\(fr L q).g=false:=zfJ h
theorem zan.turn{W:Wl}(H:zan W){k:Nat}(D:k<W.fs.length):0<=zax W k/\zax W k<=1000:=by
 have:=(zcM.1 (H.fs.ok k D)).2.1.2.2;unfold zax;rw[yi];exact this
theorem zjm{W:Wl}(H:zan W)(k:Nat)(n:Int):zan { W with fs:=zkc W.fs n }:=H.frames (zsX H.fs n) (zdp _ _)
theorem zld{W:Wl}(H:zan W){k:Nat}(T:k<W.fs.length){a n:Int}(h:zao [zdK W.fs k a 3,zbv (rlm W k) n,if (que W a.toNat).length=16 then 1 else 0]=0) :
  zan { W with qs:=W.qs.set a.toNat (que W a.toNat++[⟨k,zbf (rlm W k) n.toNat⟩]) }:=by
 obtain⟨h1,h⟩:=zat h;obtain⟨J,h⟩:=zat h;obtain⟨F,_⟩:=zat h;obtain⟨_,_,M,_⟩:=zca h1;obtain⟨q,rfl,I,_⟩:=zdt M;obtain⟨m,rfl,O,E⟩:=zgA J;rw[yi] at F |-;rw[yi];obtain⟨g1,g2⟩:=zby.1 (H.qs q I);refine H.queue I (zby.2 ⟨?_,fun x D=>?_⟩)
 ·rw[List.length_append];by_cases e:(que W q).length=16
  ·rw[yb e] at F;omega
  ·simp;omega
 ·rcases List.mem_append.1 D with D|D
  ·exact g2 x D
  ·have:x=⟨k,zbf (rlm W k) m⟩:=by simpa using D
   subst this;exact⟨⟨by show (0:Int)<=(k:Int);omega,by show (k:Int)<=(W.fs.length:Int)-1;omega⟩,zbG.2 (zjs O E)⟩
theorem ztl{W:Wl}(H:zan W){k:Nat}{n a:Int}(h:zao [zdK W.fs k n 5,goE W.fs n a]=0) :
  zan { fs:=goF W.fs n a,rs:=W.rs.set n.toNat (zdj (rlm W n.toNat).s.length),ps:=W.ps.set n.toNat [],qs:=W.qs.set n.toNat [],pt:=W.pt }:=by
 obtain⟨h1,h⟩:=zat h;obtain⟨F,_⟩:=zat h;obtain⟨_,_,I,_⟩:=zca h1;obtain⟨q,rfl,D,_⟩:=zdt I;rw[yi];have hs:=(zaB (H.rs q D)).1.small;have H1:=H.setR (zjw _ hs).1 D;have H2:=zan.prog (q:=[]) H1 D (by simp);have E:=zan.queue (q:=[]) H2 D rfl;exact zan.frames (L:=goF W.fs q a) E (zpD F) (zha _ _ _)
theorem zjy{W:Wl}(H:zan W){k:Nat}(h:zfb W.pt (many W) k (zax W k)=0):zan { W with pt:=zcx W.pt k (zax W k) }:=by
 unfold zfb at h;by_cases h1:zbd W.pt (many W)=0
 ·rw[ya (not_not_intro h1)] at h;by_cases D:0<=(k:Int)/\(k:Int)<many W
  ·rw[ya (not_not_intro D)] at h;by_cases E:0<=zax W k/\zax W k<=1000
   ·rw[ya (not_not_intro E)] at h;by_cases F:10<W.pt.length
    ·rw[yb F] at h;omega
    ·exact H.ports (H.pt.open (by omega) D E)
   ·rw[yb E] at h;omega
  ·rw[yb D] at h;omega
 ·rw[yb h1] at h;exact absurd h h1
theorem zjB{W:Wl}(H:zan W){k:Nat}{a n:Int}(h:zjA W.pt (many W) n k (zax W k) a (zax W a)=0):zan { W with pt:=zhQ W.pt n a (zax W a) }:=by
 unfold zjA at h;by_cases h1:zaT W.pt (many W) n k (zax W k)=0
 ·rw[ya (not_not_intro h1)] at h;by_cases D:0<=a/\a<many W
  ·rw[ya (not_not_intro D)] at h;by_cases E:0<=zax W a/\zax W a<=1000
   ·obtain⟨R,q,rfl,F,_,_,hs⟩:=zcm h1;obtain⟨_,_,_,_,h5,I⟩:=zbm.1 (R.ok q F);unfold zhQ;rw[yi];exact H.ports (R.set F rfl D E h5.1 h5.2 I)
   ·rw[yb E] at h;omega
  ·rw[yb D] at h;omega
 ·rw[yb h1] at h;exact absurd h h1
theorem zjG{W:Wl}(H:zan W){k:Nat}{n:Int}{g:List Cl}(h:zhl W.pt (many W) n k (zax W k) g=0):zan { W with pt:=ziE W.pt n g }:=by
 unfold zhl at h;by_cases h1:zaT W.pt (many W) n k (zax W k)=0
 ·rw[ya (not_not_intro h1)] at h;by_cases E:zav g=0
  ·rw[ya (not_not_intro E)] at h;by_cases F:(zku W.pt n).s=true
   ·rw[yb F] at h;omega
   ·rw[ya F] at h;by_cases J:(zku W.pt n).cm.length=16
    ·rw[yb J] at h;omega
    ·obtain⟨R,q,rfl,Z,_,_,hs⟩:=zcm h1;obtain⟨m,M,D,T,U⟩:=R.mate Z;obtain⟨p1,p2,p3,p4,p5,p6⟩:=zbm.1 (R.ok m D);have e:zku W.pt (q:Int)=pt W.pt m:=by unfold zku;rw[yi,M,yi]
     unfold ziE;rw[e] at F J |-;rw[yi,M,yi];refine H.ports (R.set D rfl p1 p4 (by show ((pt W.pt m).cm++[zbu g]).length<=16;rw[List.length_append];simp;have:=p5.1;omega) (fun hs=>absurd hs F) ?_);rw[zci];intro i hi;by_cases I:i<(pt W.pt m).cm.length
     ·show Right (gr ((pt W.pt m).cm++[zbu g]) i);rw[zos I];exact zci.1 p6 i I
     ·have O:i=(pt W.pt m).cm.length:=by simp at hi;omega
      subst O;show Right (gr ((pt W.pt m).cm++[zbu g]) _);rw[zor];exact(zbG.1 E).copy
  ·rw[yb E] at h;exact absurd h E
 ·rw[yb h1] at h;exact absurd h h1
theorem zgC{W:Wl}(H:zan W){k:Nat}(F:k<W.fs.length){n:Int}(h:zfe W.pt (many W) n k (zax W k)=0):zan { setR W k { rlm W k with i:=gr (pt W.pt n.toNat).cm 0 } with pt:=zhU W.pt n }:=by
 unfold zfe at h;by_cases h1:zaT W.pt (many W) n k (zax W k)=0
 ·rw[ya (not_not_intro h1)] at h;by_cases E:(pt W.pt n.toNat).cm.length=0
  ·rw[yb E] at h;omega
  ·obtain⟨R,q,rfl,I,_,_,hs⟩:=zcm h1;rw[yi] at E |-;obtain⟨M,Z,p3,O,J,T⟩:=zbm.1 (R.ok q I);have hg:=zci.1 T;obtain⟨r1,r2,r3,U⟩:=zaB (H.rs k F);have H1:=H.setR (R:={ rlm W k with i:=gr (pt W.pt q).cm 0 }) (zen r1 r2 (zbG.2 (hg 0 (by omega))) U) F;unfold zhU;rw[yi];refine H1.ports (R.set I rfl M O (by show ((pt W.pt q).cm.drop 1).length<=16;rw[List.length_drop];have:=J.1;omega) (fun h=>by have:=J.2 h;omega) ?_);rw[zci];intro i hi
   have D:i+1<(pt W.pt q).cm.length:=by
    have:i<((pt W.pt q).cm.drop 1).length:=hi;rw[List.length_drop] at this;omega
   show Right (gr ((pt W.pt q).cm.drop 1) i);rw[zoq _ D];exact hg (i+1) D
 ·rw[yb h1] at h;exact absurd h h1
theorem zjS{W:Wl}(H:zan W){k:Nat}{n:Int}(h:zaT W.pt (many W) n k (zax W k)=0):zan { W with pt:=zhX W.pt n }:=by
 obtain⟨R,q,rfl,D,_,_,hs⟩:=zcm h;obtain⟨E,I,J,F,M,O⟩:=zbm.1 (R.ok q D);unfold zhX;rw[yi];exact H.ports (R.set D rfl E F (by simp) (fun _=>rfl) rfl)
theorem zbA{Es:List Int}{W V:Wl}{o:Int}(H:zan W)(E:zao Es=0->zan V):zan (zfh Es W V o).w:=by
 rcases zqn (Es:=Es) (W:=W) (V:=V) (o:=o) with h |⟨h,D⟩
 ·rw[h];exact H
 ·rw[D];exact E h
theorem zsr{W:Wl}(H:zan W){k:Nat}(D:k<W.fs.length)(x:Ac):zan (zdQ W k x).w:=by
 unfold zdQ
 repeat' split
 ·exact zbA H (fun _=>H)
 ·exact zbA H (fun _=>zjm H k _)
 ·exact zbA H (fun _=>H)
 ·exact zbA H (fun h=>zld H D h)
 ·exact zbA H (fun h=>ztl H h)
 ·exact zbA H (fun h=>zjy H (zat h).1)
 ·exact zbA H (fun h=>zjB H (zat (zat h).2).1)
 ·exact zbA H (fun h=>zjG H (zat (zat (zat h).2).2).1)
 ·exact zbA H (fun h=>zgC H D (zat h).1)
 ·exact zbA H (fun h=>zjS H (zat h).1)
 ·exact zbA H (fun h=>H.setR (zok (zat h).1).2.2 D)
theorem zmn{Es:List Int}{W V:Wl}{o:Int}(E:V.fs.length=W.fs.length):(zfh Es W V o).w.fs.length=W.fs.length:=by
 rcases zqn (Es:=Es) (W:=W) (V:=V) (o:=o) with h |⟨h,D⟩
 ·rw[h]
 ·rw[D];exact E
theorem zxU(W:Wl)(k:Nat)(x:Ac):(zdQ W k x).w.fs.length=W.fs.length:=by
 unfold zdQ
 repeat' split
 all_goals first|exact zmn rfl|exact zmn (zdp _ _)|exact zmn (zha _ _ _)
theorem zle{L M:List Fr}(hl:M.length=L.length)(D:∀ j,j<L.length->(fr M j).p=(fr L j).p)(top:Int):∀ (n:Nat) (k:Int),zcV M n k top=zcV L n k top
 | 0,_=>rfl
 | n+1,k=>by
  rw[zcV,zcV,hl];by_cases h:0<=k/\k<L.length
  ·rw[yb h,yb h,D k.toNat (by omega),zle hl D top n]
  ·rw[ya h,ya h]
theorem zwa{L M:List Fr}(hl:M.length=L.length)(D:∀ j,j<L.length->(fr M j).p=(fr L j).p)(k top:Int):inF M k top=inF L k top:=by
 unfold inF;rw[hl];exact zle hl D top _ _
structure Aft (k:Nat) (W V:Wl):Prop where
 len:V.fs.length=W.fs.length
 par:∀ j,j<W.fs.length->(fr V.fs j).p=(fr W.fs j).p
 may:∀ j,j<W.fs.length->(fr V.fs j).m=(fr W.fs j).m
 gone:∀ j,j<W.fs.length->(fr W.fs j).g=true->(fr V.fs j).g=true
 turn:∀ j,j<W.fs.length->(fr W.fs j).t<=(fr V.fs j).t
 org:∀ j,j<W.fs.length->(fr V.fs j).t=(fr W.fs j).t->(fr V.fs j).o=(fr W.fs j).o
 moved:∀ j,j<W.fs.length->(fr V.fs j).t≠(fr W.fs j).t->j≠k/\inF W.fs j k=true/\prg V j=[]/\rlm V j=zdj (rlm W j).s.length
 realm:∀ j,j<W.fs.length->(fr V.fs j).t=(fr W.fs j).t->j≠k->rlm V j=rlm W j
 prog:∀ j,j<W.fs.length->(fr V.fs j).t=(fr W.fs j).t->prg V j=prg W j
 que:∀ j,j<W.fs.length->(fr V.fs j).t=(fr W.fs j).t->∃ ex,que V j=que W j++ex/\∀ m ∈ ex,m.f=k/\bits .and .i64 (fr W.fs k).m 2≠0
theorem Aft.refl(k:Nat)(W:Wl):Aft k W W :=
 ⟨rfl,fun _ _=>rfl,fun _ _=>rfl,fun _ _ h=>h,fun _ _=>Int.le_refl _,fun _ _ _=>rfl,fun _ _ h=>absurd rfl h,fun _ _ _ _=>rfl,fun _ _ _=>rfl,fun _ _ _=>⟨[],by simp,fun m D=>by cases D⟩⟩
theorem zwD{n:Nat}(h:n<=24):(zdj n).s.length=n/\(zdj n).t=[]:=by
 rw[(zjw n h).2];exact⟨by simp,rfl⟩
theorem Aft.trans{k:Nat}{W V U:Wl}(H:zan W)(h:Aft k W V)(g:Aft k V U)(hk:k<W.fs.length):Aft k W U:=by
 have cv:∀ j,j<W.fs.length->j<V.fs.length:=fun j D=>by rw[h.len];exact D
 have two:∀ j,j<W.fs.length->(fr U.fs j).t=(fr W.fs j).t->(fr V.fs j).t=(fr W.fs j).t/\(fr U.fs j).t=(fr V.fs j).t:=fun j D e=>by
  have a:=h.turn j D;have b:=g.turn j (cv j D);exact⟨by omega,by omega⟩
 refine⟨g.len.trans h.len,fun j D=>(g.par j (cv j D)).trans (h.par j D),fun j D=>(g.may j (cv j D)).trans (h.may j D),fun j D hg=>g.gone j (cv j D) (h.gone j D hg),fun j D=>Int.le_trans (h.turn j D) (g.turn j (cv j D)),fun j D e=>by
  obtain⟨I,E⟩:=two j D e;exact(g.org j (cv j D) E).trans (h.org j D I),fun j D F=>?_,fun j D e F=>?_,fun j D e=>?_,fun j D e=>?_⟩
 ·by_cases e:(fr U.fs j).t=(fr V.fs j).t
  ·obtain⟨M,O,T,Z⟩:=h.moved j D (fun E=>F (e.trans E));exact⟨M,O,(g.prog j (cv j D) e).trans T,by rw[g.realm j (cv j D) e M];exact Z⟩
  ·obtain⟨M,O,T,Z⟩:=g.moved j (cv j D) e;refine⟨M,by rw[<- zwa h.len h.par];exact O,T,?_⟩;rw[Z];by_cases e3:(fr V.fs j).t=(fr W.fs j).t
   ·rw[h.realm j D e3 M]
   ·rw[(h.moved j D e3).2.2.2,(zwD (zaB (H.rs j D)).1.small).1]
 ·obtain⟨I,E⟩:=two j D e;exact(g.realm j (cv j D) E F).trans (h.realm j D I F)
 ·obtain⟨I,E⟩:=two j D e;exact(g.prog j (cv j D) E).trans (h.prog j D I)
 ·obtain⟨I,E⟩:=two j D e;obtain⟨x1,q1,p1⟩:=h.que j D I;obtain⟨x2,q2,p2⟩:=g.que j (cv j D) E;refine⟨x1++x2,by rw[q2,q1,List.append_assoc],fun m J=>?_⟩;rcases List.mem_append.1 J with J|J
  ·exact p1 m J
  ·have:=p2 m J
   rwa [h.may k hk] at this
theorem Aft.setR{k:Nat}{W:Wl}{R:Rl}(E:k<W.rs.length):Aft k W (setR W k R) :=
 ⟨rfl,fun _ _=>rfl,fun _ _=>rfl,fun _ _ h=>h,fun _ _=>Int.le_refl _,fun _ _ _=>rfl,fun _ _ h=>absurd rfl h,fun j _ _ D=>by rw[zcK E,ya D],fun _ _ _=>rfl,fun _ _ _=>⟨[],by simp[Go.Proofs.YtcbcpomacdngmaaGreat.que,Go.Proofs.YtcbcpomacdngmaaGreat.setR],fun m F=>by cases F⟩⟩
theorem Aft.ports{k:Nat}{W V:Wl}(h:Aft k W V)(P:List Pt):Aft k W { V with pt:=P }:=⟨h.len,h.par,h.may,h.gone,h.turn,h.org,h.moved,h.realm,h.prog,h.que⟩
theorem zwJ{m:Int}(h0:0<=m)(D:m<=7)(h:bits .andNot .i64 2 m=0):bits .and .i64 m 2≠0:=zBm (P:=fun a=>bits .andNot .i64 2 a=0->bits .and .i64 a 2≠0) (by decide +kernel) h0 D h
theorem zoI{W:Wl}(k:Nat)(n:Int):Aft k W { W with fs:=zkc W.fs n }:=by
 have e:∀ j,j<W.fs.length->fr (zkc W.fs n) j={ fr W.fs j with g:=(fr W.fs j).g || inF W.fs j n }:=fun j D=>zpA D;refine⟨zdp _ _,fun j D=>?_,fun j D=>?_,fun j D hg=>?_,fun j D=>?_,fun j D _=>(by show (fr (zkc W.fs n) j).o=_;rw[e j D]),fun j D E=>?_,fun _ _ _ _=>rfl,fun _ _ _=>rfl,fun _ _ _=>⟨[],by simp[Go.Proofs.YtcbcpomacdngmaaGreat.que],fun m F=>by cases F⟩⟩
 ·show (fr (zkc W.fs n) j).p=_;rw[e j D]
 ·show (fr (zkc W.fs n) j).m=_;rw[e j D]
 ·show (fr (zkc W.fs n) j).g=true;rw[e j D];dsimp only;rw[hg];rfl
 ·show _<=(fr (zkc W.fs n) j).t;rw[e j D];exact Int.le_refl _
 ·exact absurd (by show (fr (zkc W.fs n) j).t=_;rw[e j D]) E
theorem zrZ{W:Wl}(H:zan W){k:Nat}(I:k<W.fs.length){a:Int}(h:zdK W.fs k a 3=0)(g:List Cl) :
  Aft k W { W with qs:=W.qs.set a.toNat (que W a.toNat++[⟨k,g⟩]) }:=by
 obtain⟨_,_,F,h5⟩:=zca h;obtain⟨q,rfl,E,_⟩:=zdt F;rw[yi];refine⟨rfl,fun _ _=>rfl,fun _ _=>rfl,fun _ _ h=>h,fun _ _=>Int.le_refl _,fun _ _ _=>rfl,fun _ _ h=>absurd rfl h,fun _ _ _ _=>rfl,fun _ _ _=>rfl,fun j J _=>?_⟩;by_cases e:j=q
 ·subst e;refine⟨[⟨k,g⟩],?_,fun m D=>?_⟩
  ·show (W.qs.set j _).getD j []=_;rw[zbh _ _ _ _ _ (by rw[H.lq];exact E),yb rfl]
  ·have:m=⟨k,g⟩:=by simpa using D
   subst this;refine⟨rfl,?_⟩;unfold zsu at h5;rw[ya (by decide),ya (by decide),yb rfl] at h5;have D:=H.fs.may I;rw[yi] at h5;exact zwJ D.1 D.2 (of_decide_eq_true h5)
 ·refine⟨[],?_,fun m D=>by cases D⟩;show (W.qs.set q _).getD j []=_;rw[zbh _ _ _ _ _ (by rw[H.lq];exact E),ya e,List.append_nil];rfl
theorem zvR{W:Wl}(H:zan W){k:Nat}{n a:Int}(h:zdK W.fs k n 5=0)(U:goE W.fs n a=0) :
  Aft k W { fs:=goF W.fs n a,rs:=W.rs.set n.toNat (zdj (rlm W n.toNat).s.length),ps:=W.ps.set n.toNat [],qs:=W.qs.set n.toNat [],pt:=W.pt }:=by
 obtain⟨_,_,O,h5⟩:=zca h;obtain⟨q,rfl,F,_⟩:=zdt O;rw[yi]
 have J:q≠k/\inF W.fs q k=true:=by
  unfold zsu at h5;rw[ya (by decide),ya (by decide),ya (by decide)] at h5;simp only[Bool.and_eq_true,Bool.not_eq_true', decide_eq_false_iff_not] at h5;exact⟨fun e=>h5.1 (by rw[e]),h5.2⟩
 have I:∀ j,j<W.fs.length->(fr (goF W.fs q a) j).t=if j=q then (fr W.fs j).t+1 else (fr W.fs j).t:=fun j D=>by
  by_cases e:j=q
  ·subst e;rw[zgu D,yb rfl]
  ·rw[zdz D e,ya e]
 have only:∀ j,j<W.fs.length->(fr (goF W.fs q a) j).t=(fr W.fs j).t->j≠q:=fun j D e M=>by
  rw[I j D,yb M] at e;omega
 refine⟨zha _ _ _,fun j D=>zAU D,fun j D=>zAM D,fun j D hg=>?_,fun j D=>?_,fun j D e=>(by show (fr (goF W.fs q a) j).o=_;rw[zdz D (only j D e)]),fun j D E=>?_,fun j D e E=>?_,fun j D e=>?_,fun j D e=>?_⟩
 ·show (fr (goF W.fs q a) j).g=true;by_cases e:j=q
  ·subst e;rw[zgu D];exact hg
  ·rw[zdz D e];dsimp only;rw[hg];rfl
 ·show _<=(fr (goF W.fs q a) j).t;rw[I j D]
  split <;> omega
 ·have e:j=q:=by
   refine Classical.byContradiction fun e=>E ?_;show (fr (goF W.fs q a) j).t=_;rw[I j D,ya e]
  subst e;refine⟨J.1,J.2,?_,?_⟩
  ·show (W.ps.set j []).getD j []=[];rw[zbh _ _ _ _ _ (by rw[H.lp];exact F),yb rfl]
  ·show (W.rs.set j _).getD j zbK=_;rw[zbh _ _ _ _ _ (by rw[H.lr];exact F),yb rfl]
 ·show (W.rs.set q _).getD j zbK=_;rw[zbh _ _ _ _ _ (by rw[H.lr];exact F),ya (only j D e)];rfl
 ·show (W.ps.set q _).getD j []=_;rw[zbh _ _ _ _ _ (by rw[H.lp];exact F),ya (only j D e)];rfl
 ·refine⟨[],?_,fun m T=>by cases T⟩;show (W.qs.set q _).getD j []=_;rw[zbh _ _ _ _ _ (by rw[H.lq];exact F),ya (only j D e),List.append_nil];rfl
theorem zbz{k:Nat}{Es:List Int}{W V:Wl}{o:Int}(E:zao Es=0->Aft k W V):Aft k W (zfh Es W V o).w:=by
 rcases zqn (Es:=Es) (W:=W) (V:=V) (o:=o) with h |⟨h,D⟩
 ·rw[h];exact Aft.refl k W
 ·rw[D];exact E h
theorem zsq{W:Wl}(H:zan W){k:Nat}(D:k<W.fs.length)(x:Ac):Aft k W (zdQ W k x).w:=by
 have E:k<W.rs.length:=by rw[H.lr];exact D
 unfold zdQ
 repeat' split
 ·exact zbz (fun _=>Aft.refl k W)
 ·exact zbz (fun _=>zoI k _)
 ·exact zbz (fun _=>Aft.refl k W)
 ·exact zbz (fun h=>zrZ H D (zat h).1 _)
 ·exact zbz (fun h=>zvR H (zat h).1 (zat (zat h).2).1)
 ·exact zbz (fun h=>(Aft.refl k W).ports _)
 ·exact zbz (fun h=>(Aft.refl k W).ports _)
 ·exact zbz (fun h=>(Aft.refl k W).ports _)
 ·exact zbz (fun h=>(Aft.setR E).ports _)
 ·exact zbz (fun h=>(Aft.refl k W).ports _)
 ·exact zbz (fun h=>Aft.setR E)
theorem zhW{w:World}{B g n cap:Nat}{L:List Pt}{K:Nat->Value}(h:w.ownsRow B 121 5 (.slice (some ⟨g,0,none⟩) n cap) n (zcb L K)){k f:Nat}{u v:Value}{x:Pt}(E:k<L.length)(D:f<5)(F:zcQ x v=(zcQ (pt L k) (K k)).set f u) :
  (w.setCell ⟨g,k*5+f,none⟩ u).ownsRow B 121 5 (.slice (some ⟨g,0,none⟩) n cap) n (zcb (L.set k x) (fun i=>if i=k then v else K i)):=by
 have:=(h.stored (k*5+f) u).1
 rwa [zrz E D F] at this
theorem zuJ{w:World}{B g n cap:Nat}{L:List Pt}{K:Nat->Value}(h:w.ownsRow B 121 5 (.slice (some ⟨g,0,none⟩) n cap) n (zcb L K))(hn:L.length=n){k f:Nat}(E:k<n)(D:f<5):w.cell? ⟨g,k*5+f,none⟩=(zcQ (pt L k) (K k))[f]?:=by
 rw[h.cellAt (k*5+f) (by omega),zeh (by omega) D]
theorem zmh{L:List Pt}{k:Nat}{x:Pt}(D:k<L.length):pt (L.set k x) k=x:=by rw[zjE D,yb rfl]
def zcy(Fr D th:Int):Int:=if ¬ (0<=D/\D<Fr) then 4 else if ¬ (0<=th/\th<=1000) then 2 else 0
theorem zur(L:List Pt)(Fr k o t D th:Int):zjA L Fr k o t D th=zuX (zaT L Fr k o t) (zcy Fr D th):=rfl
end Go.Proofs.YtcbcpomacdngmaaGreat
