/-
  x
-/
import Derived.Test.YtcbcpomacdngmaaGreatS22
import Derived.Laws.OwnMore
namespace Go.Proofs.YtcbcpomacdngmaaGreat
set_option maxRecDepth 100000
set_option maxHeartbeats 4000000
set_option linter.unusedVariables false
open Go.RowKit Go.ChangeShapes Go.WideShapes
theorem zwm:(Tryz.prog.info? 121).map (fun i=>(i.zero,i.size,i.bytes))=some (some (.agg #[.int .i64 0,.int .i64 0,.int .i64 0,.slice none 0 0,.bool false]),5,56):=by kernel_rfl
def zcQ(x:Pt)(v:Value):List Value:=[.int .i64 x.o,.int .i64 x.t,.int .i64 x.m,v,.bool x.s]
def zcb(L:List Pt)(K:Nat->Value):List Value:=(List.range L.length).flatMap fun i=>zcQ (pt L i) (K i)
theorem zum(x:Pt)(v:Value):(zcQ x v).length=5:=rfl
theorem zel(L:List Pt)(K:Nat->Value):∀ q,((List.range q).flatMap fun i=>zcQ (pt L i) (K i)).length=q*5
 | 0=>rfl
 | q+1=>by rw[List.range_succ,List.flatMap_append,List.length_append,zel L K q];simp[zcQ];omega
theorem zbI(L:List Pt)(K:Nat->Value):(zcb L K).length=L.length*5:=zel L K _
theorem znm(L:List Pt)(K:Nat->Value){i j:Nat}(D:j<5):∀ {q:Nat},i<q->((List.range q).flatMap fun i=>zcQ (pt L i) (K i))[i*5+j]?=(zcQ (pt L i) (K i))[j]?
 | 0,hi=>by omega
 | q+1,hi=>by
  rw[List.range_succ,List.flatMap_append];by_cases h:i<q
  ·rw[List.getElem?_append_left (by rw[zel];omega)];exact znm L K D h
  ·have e:i=q:=(by omega);subst e;rw[List.getElem?_append_right (by rw[zel];omega),zel,show i*5+j-i*5=j by omega];simp
theorem zek{L:List Pt}{K:Nat->Value}{i j:Nat}(hi:i<L.length)(D:j<5):(zcb L K)[i*5+j]?=(zcQ (pt L i) (K i))[j]?:=znm L K D hi
theorem zhK{L:List Pt}{K:Nat->Value}{D:List Value}(hl:D.length=L.length*5)(h:∀ i j,i<L.length->j<5->D[i*5+j]?=(zcQ (pt L i) (K i))[j]?):D=zcb L K:=by
 refine List.ext_getElem? (fun m=>?_);by_cases E:m<L.length*5
 ·have e:m=m / 5*5+m % 5:=by omega
  have h1:=h (m / 5) (m % 5) (by omega) (by omega);rw[<- e] at h1;rw[h1,<- zek (L:=L) (K:=K) (by omega) (by omega),<- e]
 ·rw[List.getElem?_eq_none (by omega),List.getElem?_eq_none (by rw[zbI];omega)]
theorem zrt{L:List Pt}{K:Nat->Value}{k f:Nat}{u v:Value}{x:Pt}(J:k<L.length)(I:f<5)(F:zcQ x v=(zcQ (pt L k) (K k)).set f u) :
  (zcb L K).set (k*5+f) u=zcb (L.set k x) (fun i=>if i=k then v else K i):=by
 refine zhK (by rw[List.length_set,zbI,List.length_set]) (fun i j hi E=>?_);rw[List.length_set] at hi;rw[zkV hi];by_cases e:k=i
 ·subst e;rw[yb rfl];simp only[if_true];rw[F,List.getElem?_set];by_cases D:f=j
  ·subst D;rw[yb rfl,yb (by rw[zbI];omega),List.getElem?_set_self (by rw[zum];omega)]
  ·rw[ya (by omega),zek hi E,List.getElem?_set_ne D]
 ·rw[ya e,List.getElem?_set_ne (by omega),zek hi E];simp only[ya (show ¬ i=k from fun h=>e h.symm)]
theorem zjy(L:List Pt)(K:Nat->Value)(x:Pt)(v:Value):zcb L K++zcQ x v=zcb (L++[x]) (fun i=>if i=L.length then v else K i):=by
 refine zhK (by rw[List.length_append,zbI,List.length_append];simp[zcQ];omega) (fun i j hi E=>?_);rw[List.length_append,List.length_singleton] at hi;by_cases e:i<L.length
 ·rw[List.getElem?_append_left (by rw[zbI];omega),zek e E,zlR e];simp only[ya (show ¬ i=L.length by omega)]
 ·have D:i=L.length:=by omega
  subst D;rw[List.getElem?_append_right (by rw[zbI];omega),zbI,show L.length*5+j-L.length*5=j by omega,zur];simp only[if_true]
def zrV(w:World)(v:Value)(C:List (List Cl)):Prop:=∃ D E,v=.slice D C.length E/\zzj w D E C
theorem zrV.nil(w:World):zrV w (.slice none 0 0) []:=⟨none,0,rfl,⟨fun _=>rfl,yj _,by omega⟩,zwb w⟩
theorem zut{B:Nat}{w:World}{v:Value}{L:List Pt}{K:Nat->Value}(h:w.ownsRow B 121 5 v L.length (zcb L K))(hg:∀ i,i<L.length->zrV w (K i) (pt L i).cm):∃ a c,v=.slice a L.length c/\zcq w a L:=by
 have hc:=fun g hg=>h.cells (g:=g) hg;rcases h.2 with ⟨rfl,h0⟩ |⟨g,cap,J,rfl,_⟩
 ·exact⟨none,0,by rw[h0],fun i hi=>by omega⟩
 ·refine⟨some ⟨g,0,none⟩,cap,rfl,fun i hi=>⟨g,0,rfl,?_⟩⟩
  have D:∀ j u,j<5->(zcQ (pt L i) (K i))[j]?=some u->w.cell? ⟨g,0+i*5+j,none⟩=some u:=fun j u M O=>by
   have:=hc g rfl (i*5+j) u (by rw[zek hi M];exact O);rw[yB]
   rwa [Addr.add_lit,yB] at this
  obtain⟨F,I,e,E⟩:=hg i hi;exact⟨D 0 _ (by omega) rfl,D 1 _ (by omega) rfl,D 2 _ (by omega) rfl,F,I,D 3 _ (by omega) (by rw[<- e];rfl),E,D 4 _ (by omega) rfl⟩
def zuW(H E:Int):Int:=if H≠0 then H else E
def SlA(a:Option Addr)(n c:Nat):Prop:=(a=none->c=0)/\n<=c/\c<=9223372036854775807
def zrZ:Prop:=∀ (a:Option Addr) (c:Nat) (L:List Pt) (Fr:Int) (w:World),L.length<=9223372036854775807->znF L->SlA a L.length c->zcq w a L ->
 yM 37 #[.slice a L.length c,.int .i64 Fr] w fun e w' => e=.returned (.int .i64 (zba L Fr))/\Below w.heap.size w w'
def zvo:Prop:=∀ (a E:Option Addr) (c F:Nat) (S D:List Pt) (w:World),S.length<=9223372036854775807->znF S->zcq w a S->zcq w E D ->
 yM 57 #[.slice a S.length c,.slice E D.length F] w fun e w' => ∃ r:Bool,e=.returned (.bool r)/\Below w.heap.size w w' /\(r=true↔S=D)
def zAR(C:List (List Cl)):Prop:=C.length<=17/\∀ j,j<C.length->Right (gr C j)
def zxR(L:List Pt):Prop:=L.length<=100/\∀ i,i<L.length->zAR (pt L i).cm
theorem zqI{L:List Pt}{F:Int}(R:zdq L F):zxR L:=⟨by have:=R.few;omega,fun i hi=>by
 obtain⟨_,_,_,_,h5,D⟩:=zbj.1 (R.ok i hi);exact⟨by omega,zci.1 D⟩⟩
theorem zxR.big{L:List Pt}(h:zxR L):znF L:=fun i hi=>by
 obtain⟨h1,D⟩:=h.2 i hi;exact⟨by omega,fun j E=>⟨by have:=(D j E).few;omega,(D j E).big⟩⟩
def Q1:List Pt:=[⟨1,0,1,[],false⟩,⟨1,0,0,[],false⟩]
def Q2:List Pt:=[⟨1,0,1,[],false⟩,⟨1,0,0,[[⟨5,[]⟩]],false⟩]
theorem zao.frames{W:Wl}(H:zao W){L:List Fr}(D:zcm L)(hl:L.length=W.fs.length):zao { W with fs:=L } :=
 ⟨D,H.lr.trans hl.symm,H.lp.trans hl.symm,H.lq.trans hl.symm,fun i hi=>H.rs i (by rw[<- hl];exact hi),fun i hi=>H.ps i (by rw[<- hl];exact hi),fun i hi=>by show zbT L.length _=0;rw[hl];exact H.qs i (by rw[<- hl];exact hi),by show zdq W.pt (L.length:Int);rw[hl];exact H.pt⟩
theorem zao.ports{W:Wl}(H:zao W){P:List Pt}(D:zdq P W.fs.length):zao { W with pt:=P }:=⟨H.fs,H.lr,H.lp,H.lq,H.rs,H.ps,H.qs,D⟩
theorem zao.queue{W:Wl}(H:zao W){a:Nat}{q:List Ml}(ha:a<W.fs.length)(D:zbT W.fs.length q=0):zao { W with qs:=W.qs.set a q } :=
 ⟨H.fs,H.lr,H.lp,by show (W.qs.set a q).length=_;rw[List.length_set];exact H.lq,H.rs,H.ps,fun i hi=>by
  show zbT W.fs.length ((W.qs.set a q).getD i [])=0;rw[zbe _ _ _ _ _ (by rw[H.lq];exact ha)];split
  ·exact D
  ·exact H.qs i hi,H.pt⟩
theorem zao.prog{W:Wl}(H:zao W){a:Nat}{q:List Ac}(ha:a<W.fs.length)(D:q.length<=40):zao { W with ps:=W.ps.set a q } :=
 ⟨H.fs,H.lr,by show (W.ps.set a q).length=_;rw[List.length_set];exact H.lp,H.lq,H.rs,fun i hi=>by
  show ((W.ps.set a q).getD i []).length<=40;rw[zbe _ _ _ _ _ (by rw[H.lp];exact ha)];split
  ·exact D
  ·exact H.ps i hi,H.qs,H.pt⟩
theorem zdv{L:List Fr}{k:Int}(h:zaz L k=0):∃ q:Nat,k=q/\q<L.length/\(fr L q).g=false:=zfI h
theorem zji{W:Wl}(H:zao W)(k:Nat)(n:Int):zao { W with fs:=zjW W.fs n }:=H.frames (zsS H.fs n) (zdr _ _)
theorem zlb{W:Wl}(H:zao W){k:Nat}(T:k<W.fs.length){a n:Int}(h:zan [zdN W.fs k a 3,zbu (rlm W k) n,if (que W a.toNat).length=16 then 1 else 0]=0) :
  zao { W with qs:=W.qs.set a.toNat (que W a.toNat++[⟨k,zbg (rlm W k) n.toNat⟩]) }:=by
 obtain⟨h1,h⟩:=zat h;obtain⟨J,h⟩:=zat h;obtain⟨F,_⟩:=zat h;obtain⟨_,_,M,_⟩:=zca h1;obtain⟨q,rfl,I,_⟩:=zdv M;obtain⟨m,rfl,O,E⟩:=zgw J;rw[yi] at F |-;rw[yi];obtain⟨g1,g2⟩:=zbJ.1 (H.qs q I);refine H.queue I (zbJ.2 ⟨?_,fun x D=>?_⟩)
 ·rw[List.length_append];by_cases e:(que W q).length=16
  ·rw[yb e] at F;omega
  ·simp;omega
 ·rcases List.mem_append.1 D with D|D
  ·exact g2 x D
  ·have:x=⟨k,zbg (rlm W k) m⟩:=(by simpa using D);subst this;exact⟨⟨by show (0:Int)<=(k:Int);omega,by show (k:Int)<=(W.fs.length:Int)-1;omega⟩,zbF.2 (zjn O E)⟩
theorem zti{W:Wl}(H:zao W){k:Nat}{n a:Int}(h:zan [zdN W.fs k n 5,goE W.fs n a]=0) :
  zao { fs:=goF W.fs n a,rs:=W.rs.set n.toNat (zdl (rlm W n.toNat).s.length),ps:=W.ps.set n.toNat [],qs:=W.qs.set n.toNat [],pt:=W.pt }:=by
 obtain⟨h1,h⟩:=zat h;obtain⟨F,_⟩:=zat h;obtain⟨_,_,I,_⟩:=zca h1;obtain⟨q,rfl,D,_⟩:=zdv I;rw[yi];have hs:=(zaB (H.rs q D)).1.small;have H1:=H.setR (zjs _ hs).1 D;have H2:=zao.prog (q:=[]) H1 D (by simp);have E:=zao.queue (q:=[]) H2 D rfl;exact zao.frames (L:=goF W.fs q a) E (zpz F) (zgU _ _ _)
theorem zjv{W:Wl}(H:zao W){k:Nat}(h:zfw W.pt (many W) k (zaD W k)=0):zao { W with pt:=zcw W.pt k (zaD W k) }:=by
 unfold zfw at h;by_cases h1:zba W.pt (many W)=0
 ·rw[ya (yJ h1)] at h;by_cases D:0<=(k:Int)/\(k:Int)<many W
  ·rw[ya (yJ D)] at h;by_cases E:0<=zaD W k/\zaD W k<=1000
   ·rw[ya (yJ E)] at h;by_cases F:10<W.pt.length
    ·rw[yb F] at h;omega
    ·exact H.ports (H.pt.open (by omega) D E)
   ·rw[yb E] at h;omega
  ·rw[yb D] at h;omega
 ·rw[yb h1] at h;exact absurd h h1
theorem zjx{W:Wl}(H:zao W){k:Nat}{a n:Int}(h:zkr W.pt (many W) n k (zaD W k) a (zaD W a)=0):zao { W with pt:=zhJ W.pt n a (zaD W a) }:=by
 unfold zkr at h;by_cases h1:zaU W.pt (many W) n k (zaD W k)=0
 ·rw[ya (yJ h1)] at h;by_cases D:0<=a/\a<many W
  ·rw[ya (yJ D)] at h;by_cases E:0<=zaD W a/\zaD W a<=1000
   ·obtain⟨R,q,rfl,F,_,_,hs⟩:=zco h1;obtain⟨_,_,_,_,h5,I⟩:=zbj.1 (R.ok q F);unfold zhJ;rw[yi];exact H.ports (R.set F rfl D E h5.1 h5.2 I)
   ·rw[yb E] at h;omega
  ·rw[yb D] at h;omega
 ·rw[yb h1] at h;exact absurd h h1
theorem zjA{W:Wl}(H:zao W){k:Nat}{n:Int}{g:List Cl}(h:zhP W.pt (many W) n k (zaD W k) g=0):zao { W with pt:=zix W.pt n g }:=by
 unfold zhP at h;by_cases h1:zaU W.pt (many W) n k (zaD W k)=0
 ·rw[ya (yJ h1)] at h;by_cases E:zav g=0
  ·rw[ya (yJ E)] at h;by_cases F:(zko W.pt n).s=true
   ·rw[yb F] at h;omega
   ·rw[ya F] at h;by_cases J:(zko W.pt n).cm.length=16
    ·rw[yb J] at h;omega
    ·obtain⟨R,q,rfl,Z,_,_,hs⟩:=zco h1;obtain⟨m,M,D,T,U⟩:=R.mate Z;obtain⟨p1,p2,p3,p4,p5,p6⟩:=zbj.1 (R.ok m D);have e:zko W.pt (q:Int)=pt W.pt m:=(by unfold zko;rw[yi,M,yi]);unfold zix;rw[e] at F J |-;rw[yi,M,yi];refine H.ports (R.set D rfl p1 p4 (by show ((pt W.pt m).cm++[zbt g]).length<=16;rw[List.length_append];simp;have:=p5.1;omega) (fun hs=>absurd hs F) ?_);rw[zci];intro i hi;by_cases I:i<(pt W.pt m).cm.length
     ·show Right (gr ((pt W.pt m).cm++[zbt g]) i);rw[zom I];exact zci.1 p6 i I
     ·have O:i=(pt W.pt m).cm.length:=(by simp at hi;omega);subst O;show Right (gr ((pt W.pt m).cm++[zbt g]) _);rw[zol];exact(zbF.1 E).copy
  ·rw[yb E] at h;exact absurd h E
 ·rw[yb h1] at h;exact absurd h h1
theorem zgy{W:Wl}(H:zao W){k:Nat}(F:k<W.fs.length){n:Int}(h:zfy W.pt (many W) n k (zaD W k)=0):zao { setR W k { rlm W k with i:=gr (pt W.pt n.toNat).cm 0 } with pt:=zhO W.pt n }:=by
 unfold zfy at h;by_cases h1:zaU W.pt (many W) n k (zaD W k)=0
 ·rw[ya (yJ h1)] at h;by_cases E:(pt W.pt n.toNat).cm.length=0
  ·rw[yb E] at h;omega
  ·obtain⟨R,q,rfl,I,_,_,hs⟩:=zco h1;rw[yi] at E |-;obtain⟨M,Z,p3,O,J,T⟩:=zbj.1 (R.ok q I);have hg:=zci.1 T;obtain⟨r1,r2,r3,U⟩:=zaB (H.rs k F);have H1:=H.setR (R:={ rlm W k with i:=gr (pt W.pt q).cm 0 }) (zep r1 r2 (zbF.2 (hg 0 (by omega))) U) F;unfold zhO;rw[yi];refine H1.ports (R.set I rfl M O (by show ((pt W.pt q).cm.drop 1).length<=16;rw[List.length_drop];have:=J.1;omega) (fun h=>by have:=J.2 h;omega) ?_);rw[zci];intro i hi
   have D:i+1<(pt W.pt q).cm.length:=by
    have:i<((pt W.pt q).cm.drop 1).length:=hi;rw[List.length_drop] at this;omega
   show Right (gr ((pt W.pt q).cm.drop 1) i);rw[zok _ D];exact hg (i+1) D
 ·rw[yb h1] at h;exact absurd h h1
theorem zjL{W:Wl}(H:zao W){k:Nat}{n:Int}(h:zaU W.pt (many W) n k (zaD W k)=0):zao { W with pt:=zhX W.pt n }:=by
 obtain⟨R,q,rfl,D,_,_,hs⟩:=zco h;obtain⟨E,I,J,F,M,O⟩:=zbj.1 (R.ok q D);unfold zhX;rw[yi];exact H.ports (R.set D rfl E F (by simp) (fun _=>rfl) rfl)
theorem zby{Es:List Int}{W V:Wl}{o:Int}(H:zao W)(E:zan Es=0->zao V):zao (zfe Es W V o).w:=by
 rcases zqk (Es:=Es) (W:=W) (V:=V) (o:=o) with h |⟨h,D⟩
 ·rw[h];exact H
 ·rw[D];exact E h
theorem zso{W:Wl}(H:zao W){k:Nat}(D:k<W.fs.length)(x:Ac):zao (zdT W k x).w:=by
 unfold zdT
 repeat' split
 ·exact zby H (fun _=>H)
 ·exact zby H (fun _=>zji H k _)
 ·exact zby H (fun _=>H)
 ·exact zby H (fun h=>zlb H D h)
 ·exact zby H (fun h=>zti H h)
 ·exact zby H (fun h=>zjv H (zat h).1)
 ·exact zby H (fun h=>zjx H (zat (zat h).2).1)
 ·exact zby H (fun h=>zjA H (zat (zat (zat h).2).2).1)
 ·exact zby H (fun h=>zgy H D (zat h).1)
 ·exact zby H (fun h=>zjL H (zat h).1)
 ·exact zby H (fun h=>H.setR (zoe (zat h).1).2.2 D)
theorem zme{Es:List Int}{W V:Wl}{o:Int}(E:V.fs.length=W.fs.length):(zfe Es W V o).w.fs.length=W.fs.length:=by
 rcases zqk (Es:=Es) (W:=W) (V:=V) (o:=o) with h |⟨h,D⟩
 ·rw[h]
 ·rw[D];exact E
theorem zxW(W:Wl)(k:Nat)(x:Ac):(zdT W k x).w.fs.length=W.fs.length:=by
 unfold zdT
 repeat' split
 all_goals first|exact zme rfl|exact zme (zdr _ _)|exact zme (zgU _ _ _)
theorem zld{L M:List Fr}(hl:M.length=L.length)(D:∀ j,j<L.length->(fr M j).p=(fr L j).p)(top:Int):∀ (n:Nat) (k:Int),zcW M n k top=zcW L n k top
 | 0,_=>rfl
 | n+1,k=>by
  rw[zcW,zcW,hl];by_cases h:0<=k/\k<L.length
  ·rw[yb h,yb h,D k.toNat (by omega),zld hl D top n]
  ·rw[ya h,ya h]
theorem zwh{L M:List Fr}(hl:M.length=L.length)(D:∀ j,j<L.length->(fr M j).p=(fr L j).p)(k top:Int):inF M k top=inF L k top:=by
 unfold inF;rw[hl];exact zld hl D top _ _
structure Aft (k:Nat) (W V:Wl):Prop where
 len:V.fs.length=W.fs.length
 par:∀ j,j<W.fs.length->(fr V.fs j).p=(fr W.fs j).p
 may:∀ j,j<W.fs.length->(fr V.fs j).m=(fr W.fs j).m
 gone:∀ j,j<W.fs.length->(fr W.fs j).g=true->(fr V.fs j).g=true
 turn:∀ j,j<W.fs.length->(fr W.fs j).t<=(fr V.fs j).t
 org:∀ j,j<W.fs.length->(fr V.fs j).t=(fr W.fs j).t->(fr V.fs j).o=(fr W.fs j).o
 moved:∀ j,j<W.fs.length->(fr V.fs j).t≠(fr W.fs j).t->j≠k/\inF W.fs j k=true/\prg V j=[]/\rlm V j=zdl (rlm W j).s.length
 realm:∀ j,j<W.fs.length->(fr V.fs j).t=(fr W.fs j).t->j≠k->rlm V j=rlm W j
 prog:∀ j,j<W.fs.length->(fr V.fs j).t=(fr W.fs j).t->prg V j=prg W j
 que:∀ j,j<W.fs.length->(fr V.fs j).t=(fr W.fs j).t->∃ ex,que V j=que W j++ex/\∀ m ∈ ex,m.f=k/\bits .and .i64 (fr W.fs k).m 2≠0
theorem Aft.refl(k:Nat)(W:Wl):Aft k W W :=
 ⟨rfl,fun _ _=>rfl,fun _ _=>rfl,fun _ _ h=>h,fun _ _=>Int.le_refl _,fun _ _ _=>rfl,fun _ _ h=>absurd rfl h,fun _ _ _ _=>rfl,fun _ _ _=>rfl,fun _ _ _=>⟨[],by simp,fun m D=>by cases D⟩⟩
theorem zwK{n:Nat}(h:n<=24):(zdl n).s.length=n/\(zdl n).t=[]:=by
 rw[(zjs n h).2];exact⟨by simp,rfl⟩
theorem Aft.trans{k:Nat}{W V U:Wl}(H:zao W)(h:Aft k W V)(g:Aft k V U)(hk:k<W.fs.length):Aft k W U:=by
 have cv:∀ j,j<W.fs.length->j<V.fs.length:=fun j D=>by rw[h.len];exact D
 have two:∀ j,j<W.fs.length->(fr U.fs j).t=(fr W.fs j).t->(fr V.fs j).t=(fr W.fs j).t/\(fr U.fs j).t=(fr V.fs j).t:=fun j D e=>by
  have a:=h.turn j D;have b:=g.turn j (cv j D);exact⟨by omega,by omega⟩
 refine⟨g.len.trans h.len,fun j D=>(g.par j (cv j D)).trans (h.par j D),fun j D=>(g.may j (cv j D)).trans (h.may j D),fun j D hg=>g.gone j (cv j D) (h.gone j D hg),fun j D=>Int.le_trans (h.turn j D) (g.turn j (cv j D)),fun j D e=>by
  obtain⟨I,E⟩:=two j D e;exact(g.org j (cv j D) E).trans (h.org j D I),fun j D F=>?_,fun j D e F=>?_,fun j D e=>?_,fun j D e=>?_⟩
 ·by_cases e:(fr U.fs j).t=(fr V.fs j).t
  ·obtain⟨M,O,T,Z⟩:=h.moved j D (fun E=>F (e.trans E));exact⟨M,O,(g.prog j (cv j D) e).trans T,by rw[g.realm j (cv j D) e M];exact Z⟩
  ·obtain⟨M,O,T,Z⟩:=g.moved j (cv j D) e;refine⟨M,by rw[<- zwh h.len h.par];exact O,T,?_⟩;rw[Z];by_cases e3:(fr V.fs j).t=(fr W.fs j).t
   ·rw[h.realm j D e3 M]
   ·rw[(h.moved j D e3).2.2.2,(zwK (zaB (H.rs j D)).1.small).1]
 ·obtain⟨I,E⟩:=two j D e;exact(g.realm j (cv j D) E F).trans (h.realm j D I F)
 ·obtain⟨I,E⟩:=two j D e;exact(g.prog j (cv j D) E).trans (h.prog j D I)
 ·obtain⟨I,E⟩:=two j D e;obtain⟨x1,q1,p1⟩:=h.que j D I;obtain⟨x2,q2,p2⟩:=g.que j (cv j D) E;refine⟨x1++x2,by rw[q2,q1,List.append_assoc],fun m J=>?_⟩;rcases List.mem_append.1 J with J|J
  ·exact p1 m J
  ·have:=p2 m J
   rwa [h.may k hk] at this
theorem Aft.setR{k:Nat}{W:Wl}{R:Rl}(E:k<W.rs.length):Aft k W (setR W k R) :=
 ⟨rfl,fun _ _=>rfl,fun _ _=>rfl,fun _ _ h=>h,fun _ _=>Int.le_refl _,fun _ _ _=>rfl,fun _ _ h=>absurd rfl h,fun j _ _ D=>by rw[zdy E,ya D],fun _ _ _=>rfl,fun _ _ _=>⟨[],by simp[Go.Proofs.YtcbcpomacdngmaaGreat.que,Go.Proofs.YtcbcpomacdngmaaGreat.setR],fun m F=>by cases F⟩⟩
theorem Aft.ports{k:Nat}{W V:Wl}(h:Aft k W V)(P:List Pt):Aft k W { V with pt:=P }:=⟨h.len,h.par,h.may,h.gone,h.turn,h.org,h.moved,h.realm,h.prog,h.que⟩
theorem zwR{m:Int}(h0:0<=m)(D:m<=7)(h:bits .andNot .i64 2 m=0):bits .and .i64 m 2≠0:=zBs (P:=fun a=>bits .andNot .i64 2 a=0->bits .and .i64 a 2≠0) (by decide +kernel) h0 D h
theorem zoD{W:Wl}(k:Nat)(n:Int):Aft k W { W with fs:=zjW W.fs n }:=by
 have e:∀ j,j<W.fs.length->fr (zjW W.fs n) j={ fr W.fs j with g:=(fr W.fs j).g || inF W.fs j n }:=fun j D=>zpw D;refine⟨zdr _ _,fun j D=>?_,fun j D=>?_,fun j D hg=>?_,fun j D=>?_,fun j D _=>(by show (fr (zjW W.fs n) j).o=_;rw[e j D]),fun j D E=>?_,fun _ _ _ _=>rfl,fun _ _ _=>rfl,fun _ _ _=>⟨[],by simp[Go.Proofs.YtcbcpomacdngmaaGreat.que],fun m F=>by cases F⟩⟩
 ·show (fr (zjW W.fs n) j).p=_;rw[e j D]
 ·show (fr (zjW W.fs n) j).m=_;rw[e j D]
 ·show (fr (zjW W.fs n) j).g=true;rw[e j D];dsimp only;rw[hg];rfl
 ·show _<=(fr (zjW W.fs n) j).t;rw[e j D];exact Int.le_refl _
 ·exact absurd (by show (fr (zjW W.fs n) j).t=_;rw[e j D]) E
theorem zrT{W:Wl}(H:zao W){k:Nat}(I:k<W.fs.length){a:Int}(h:zdN W.fs k a 3=0)(g:List Cl) :
  Aft k W { W with qs:=W.qs.set a.toNat (que W a.toNat++[⟨k,g⟩]) }:=by
 obtain⟨_,_,F,h5⟩:=zca h;obtain⟨q,rfl,E,_⟩:=zdv F;rw[yi];refine⟨rfl,fun _ _=>rfl,fun _ _=>rfl,fun _ _ h=>h,fun _ _=>Int.le_refl _,fun _ _ _=>rfl,fun _ _ h=>absurd rfl h,fun _ _ _ _=>rfl,fun _ _ _=>rfl,fun j J _=>?_⟩;by_cases e:j=q
 ·subst e;refine⟨[⟨k,g⟩],?_,fun m D=>?_⟩
  ·show (W.qs.set j _).getD j []=_;rw[zbe _ _ _ _ _ (by rw[H.lq];exact E),yb rfl]
  ·have:m=⟨k,g⟩:=(by simpa using D);subst this;refine⟨rfl,?_⟩;unfold zsq at h5;rw[ya (by decide),ya (by decide),yb rfl] at h5;have D:=H.fs.may I;rw[yi] at h5;exact zwR D.1 D.2 (of_decide_eq_true h5)
 ·refine⟨[],?_,fun m D=>by cases D⟩;show (W.qs.set q _).getD j []=_;rw[zbe _ _ _ _ _ (by rw[H.lq];exact E),ya e,List.append_nil];rfl
theorem zwa{W:Wl}(H:zao W){k:Nat}{n a:Int}(h:zdN W.fs k n 5=0)(U:goE W.fs n a=0) :
  Aft k W { fs:=goF W.fs n a,rs:=W.rs.set n.toNat (zdl (rlm W n.toNat).s.length),ps:=W.ps.set n.toNat [],qs:=W.qs.set n.toNat [],pt:=W.pt }:=by
 obtain⟨_,_,O,h5⟩:=zca h;obtain⟨q,rfl,F,_⟩:=zdv O;rw[yi]
 have J:q≠k/\inF W.fs q k=true:=by
  unfold zsq at h5;rw[ya (by decide),ya (by decide),ya (by decide)] at h5;simp only[Bool.and_eq_true,Bool.not_eq_true', decide_eq_false_iff_not] at h5;exact⟨fun e=>h5.1 (by rw[e]),h5.2⟩
 have I:∀ j,j<W.fs.length->(fr (goF W.fs q a) j).t=if j=q then (fr W.fs j).t+1 else (fr W.fs j).t:=fun j D=>by
  by_cases e:j=q
  ·subst e;rw[zgq D,yb rfl]
  ·rw[zdD D e,ya e]
 have only:∀ j,j<W.fs.length->(fr (goF W.fs q a) j).t=(fr W.fs j).t->j≠q:=fun j D e M=>by
  rw[I j D,yb M] at e;omega
 refine⟨zgU _ _ _,fun j D=>zAZ D,fun j D=>zAO D,fun j D hg=>?_,fun j D=>?_,fun j D e=>(by show (fr (goF W.fs q a) j).o=_;rw[zdD D (only j D e)]),fun j D E=>?_,fun j D e E=>?_,fun j D e=>?_,fun j D e=>?_⟩
 ·show (fr (goF W.fs q a) j).g=true;by_cases e:j=q
  ·subst e;rw[zgq D];exact hg
  ·rw[zdD D e];dsimp only;rw[hg];rfl
 ·show _<=(fr (goF W.fs q a) j).t;rw[I j D]
  split <;> omega
 ·have e:j=q:=by
   refine Classical.byContradiction fun e=>E ?_;show (fr (goF W.fs q a) j).t=_;rw[I j D,ya e]
  subst e;refine⟨J.1,J.2,?_,?_⟩
  ·show (W.ps.set j []).getD j []=[];rw[zbe _ _ _ _ _ (by rw[H.lp];exact F),yb rfl]
  ·show (W.rs.set j _).getD j zbE=_;rw[zbe _ _ _ _ _ (by rw[H.lr];exact F),yb rfl]
 ·show (W.rs.set q _).getD j zbE=_;rw[zbe _ _ _ _ _ (by rw[H.lr];exact F),ya (only j D e)];rfl
 ·show (W.ps.set q _).getD j []=_;rw[zbe _ _ _ _ _ (by rw[H.lp];exact F),ya (only j D e)];rfl
 ·refine⟨[],?_,fun m T=>by cases T⟩;show (W.qs.set q _).getD j []=_;rw[zbe _ _ _ _ _ (by rw[H.lq];exact F),ya (only j D e),List.append_nil];rfl
theorem zbx{k:Nat}{Es:List Int}{W V:Wl}{o:Int}(E:zan Es=0->Aft k W V):Aft k W (zfe Es W V o).w:=by
 rcases zqk (Es:=Es) (W:=W) (V:=V) (o:=o) with h |⟨h,D⟩
 ·rw[h];exact Aft.refl k W
 ·rw[D];exact E h
theorem zsn{W:Wl}(H:zao W){k:Nat}(D:k<W.fs.length)(x:Ac):Aft k W (zdT W k x).w:=by
 have E:k<W.rs.length:=by rw[H.lr];exact D
 unfold zdT
 repeat' split
 ·exact zbx (fun _=>Aft.refl k W)
 ·exact zbx (fun _=>zoD k _)
 ·exact zbx (fun _=>Aft.refl k W)
 ·exact zbx (fun h=>zrT H D (zat h).1 _)
 ·exact zbx (fun h=>zwa H (zat h).1 (zat (zat h).2).1)
 ·exact zbx (fun h=>(Aft.refl k W).ports _)
 ·exact zbx (fun h=>(Aft.refl k W).ports _)
 ·exact zbx (fun h=>(Aft.refl k W).ports _)
 ·exact zbx (fun h=>(Aft.setR E).ports _)
 ·exact zbx (fun h=>(Aft.refl k W).ports _)
 ·exact zbx (fun h=>Aft.setR E)
theorem zcu{k:Nat}{Es:List Int}{W V:Wl}{o:Int}(E:zan Es=0->(rlm V k).t=(rlm W k).t):(rlm (zfe Es W V o).w k).t=(rlm W k).t:=by
 rcases zqk (Es:=Es) (W:=W) (V:=V) (o:=o) with h |⟨h,D⟩
 ·rw[h]
 ·rw[D];exact E h
theorem zyy{W:Wl}{k:Nat}{n a:Int}(h:zdN W.fs k n 5=0)(R:Rl):(W.rs.set n.toNat R).getD k zbE=rlm W k:=by
 obtain⟨_,_,D,h5⟩:=zca h;obtain⟨q,rfl,E,_⟩:=zdv D;rw[yi];unfold zsq at h5;rw[ya (by decide),ya (by decide),ya (by decide)] at h5;simp only[Bool.and_eq_true,Bool.not_eq_true', decide_eq_false_iff_not] at h5;exact ziE _ _ _ _ _ (fun e=>h5.1 (by rw[e]))
theorem zpl{W:Wl}(H:zao W){k:Nat}(E:k<W.fs.length)(x:Ac):(rlm (zdT W k x).w k).t=(rlm W k).t:=by
 have D:k<W.rs.length:=by rw[H.lr];exact E
 unfold zdT
 repeat' split
 ·exact zcu (fun _=>rfl)
 ·exact zcu (fun _=>rfl)
 ·exact zcu (fun _=>rfl)
 ·exact zcu (fun _=>rfl)
 ·exact zcu (fun h=>by
   show ((W.rs.set _ _).getD k zbE).t=_;rw[zyy (a:=x.a) (zat h).1])
 ·exact zcu (fun _=>rfl)
 ·exact zcu (fun _=>rfl)
 ·exact zcu (fun _=>rfl)
 ·exact zcu (fun _=>by
   show (rlm (setR W k _) k).t=_;rw[zdy D,yb rfl])
 ·exact zcu (fun _=>rfl)
 ·exact zcu (fun h=>by
   rw[zdy D,yb rfl];exact(zoe (zat h).1).2.1.tld)
theorem znx{W:Wl}{k:Nat}(D:k<W.rs.length)(o:Int):rlm (zmb W k o) k={ rlm W k with t:=(rlm W k).t++[o] }:=by
 unfold zmb;rw[zdy D,yb rfl]
theorem zjR{W:Wl}(H:zao W){k:Nat}(D:k<W.fs.length)(o:Int)(E:(rlm W k).t.length+1<=4800):zao (zmb W k o):=by
 obtain⟨r1,r2,r3,F⟩:=zaB (H.rs k D);exact H.setR (zep r1 r2 r3 (by show ((rlm W k).t++[o]).length<=4800;rw[List.length_append];simpa using E)) D
theorem zzC{W:Wl}(H:zao W){k:Nat}(D:k<W.fs.length)(x:Ac)(M:(rlm W k).t.length+1<=4800) :
  zao (doW k W x)/\Aft k W (doW k W x)/\(rlm (doW k W x) k).t=(rlm W k).t++[toldOf (zdT W k x)]:=by
 have H1:=zso H D x;have J:=zsn H D x;have E:k<(zdT W k x).w.fs.length:=by rw[zxW];exact D
 have I:=zpl H D x;have F:k<(zdT W k x).w.rs.length:=by rw[H1.lr];exact E
 refine⟨zjR H1 E _ (by rw[I];exact M),Aft.trans H J (Aft.setR F) D,?_⟩;show (rlm (zmb _ _ _) k).t=_;rw[znx F];dsimp only;rw[I]
theorem zlB{k:Nat}:∀ (D:List Ac) {W:Wl},zao W->k<W.fs.length->(rlm W k).t.length+D.length<=4800 ->
  zao (D.foldl (doW k) W)/\Aft k W (D.foldl (doW k) W)/\(rlm (D.foldl (doW k) W) k).t.length=(rlm W k).t.length+D.length
 | [],W,H,E,_=>⟨H,Aft.refl k W,rfl⟩
 | x :: D,W,H,E,J=>by
  have I:(rlm W k).t.length+1<=4800:=by simp at J;omega
  obtain⟨a,b,c⟩:=zzC H E x I;have F:k<(doW k W x).fs.length:=by rw[b.len];exact E
  have hl:(rlm (doW k W x) k).t.length=(rlm W k).t.length+1:=by rw[c,List.length_append];rfl
  obtain⟨a2,M,c2⟩:=zlB D a F (by rw[hl];simp at J;omega);refine⟨a2,Aft.trans H b M E,?_⟩;rw[List.foldl_cons,c2,hl,List.length_cons];omega
theorem ziR(W:Wl)(k:Nat)(s:Bool):(zcn W k s).fs=W.fs:=by unfold zcn;split <;> rfl
theorem zmo(W:Wl)(k:Nat)(s:Bool):(zcn W k s).ps=W.ps:=by unfold zcn;split <;> rfl
theorem zhs{W:Wl}{k:Nat}(D:k<W.rs.length)(s:Bool):rlm (zcn W k s) k={ rlm W k with i:=if s then [] else ((que W k).getD 0 ⟨0,[]⟩).g }:=by
 unfold zcn;split
 ·rw[zdy D,yb rfl]
 ·show rlm (setR W k _) k=_;rw[zdy D,yb rfl]
theorem ziS{W:Wl}(H:zao W){k:Nat}(D:k<W.fs.length)(s:Bool)(J:s=false->(que W k).length≠0):zao (zcn W k s):=by
 obtain⟨r1,r2,r3,I⟩:=zaB (H.rs k D);obtain⟨M,F⟩:=zbJ.1 (H.qs k D);unfold zcn;split
 ·exact H.setR (zep r1 r2 rfl I) D
 ·rename_i h
  have h0:0<(que W k).length:=by
   have:=J (by simpa using h);omega
  have E:=F ((que W k).getD 0 ⟨0,[]⟩) (by rw[zae _ _ h0];exact List.getElem_mem h0);have H1:=H.setR (R:={ rlm W k with i:=((que W k).getD 0 ⟨0,[]⟩).g }) (zep r1 r2 E.2 I) D;exact zao.queue (q:=(que W k).drop 1) H1 D (zbJ.2 ⟨by rw[List.length_drop];omega,fun m E=>F m (List.mem_of_mem_drop E)⟩)
theorem zhM{W:Wl}{k:Int}{s:Bool}(h:zfb W k s=0):zao W/\∃ q:Nat,k=q/\q<W.fs.length/\(fr W.fs q).g=false/\bits .and .i64 (fr W.fs q).m 1≠0/\(rlm W q).t.length<=4760/\(s=false->(que W q).length≠0):=by
 unfold zfb at h;obtain⟨h1,h⟩:=zat h;obtain⟨I,h⟩:=zat h;obtain⟨D,h⟩:=zat h;obtain⟨E,h⟩:=zat h;obtain⟨h5,_⟩:=zat h;obtain⟨q,rfl,J,hg⟩:=zdv I;rw[yi] at D E h5;refine⟨zdA.1 h1,q,rfl,J,hg,fun e=>?_,?_,fun e F=>?_⟩
 ·unfold zjo at D;rw[yb e] at D;omega
 ·by_cases e:4760<(rlm W q).t.length
  ·rw[yb e] at E;omega
  ·omega
 ·rw[yb ⟨e,F⟩] at h5;omega
theorem zpS{W:Wl}{q:Nat}{s:Bool}(h:zfb W q s=0) :
  zao (zfc W q s)/\Aft q (zcn W q s) (zfc W q s)/\(rlm (zfc W q s) q).t.length=(rlm W q).t.length+(prg W q).length/\(zfc W q s).fs.length=W.fs.length:=by
 obtain⟨H,D,e,E,hg,U,ht,F⟩:=zhM h;have:D=q:=by omega
 subst this;have T:D<W.rs.length:=by rw[H.lr];exact E
 have J:=ziS H E s F;have O:D<(zcn W D s).fs.length:=by rw[ziR];exact E
 have I:(rlm (zcn W D s) D).t.length=(rlm W D).t.length:=by rw[zhs T]
 have Z:=H.ps D E
 have M:zfc W D s=(prg W D).foldl (doW D) (zcn W D s):=by
  unfold zfc;rw[yb h,yi]
 obtain⟨a,b,c⟩:=zlB (prg W D) J O (by rw[I];omega);rw[M];exact⟨a,b,by rw[c,I],by rw[b.len,ziR]⟩
theorem zuJ{W:Wl}(H:zao W)(p:Int × Bool):zao (zhW W p)/\(zhW W p).fs.length=W.fs.length:=by
 unfold zhW;by_cases h:zfb W p.1 p.2=0
 ·rw[yb h];obtain⟨_,q,e,_⟩:=zhM h;rw[e] at h |-;exact⟨(zpS h).1,(zpS h).2.2.2⟩
 ·rw[ya h];exact⟨H,rfl⟩
theorem zrF(W:Wl)(a b:List (Int × Bool)):(a++b).foldl zhW W=b.foldl zhW (a.foldl zhW W)/\zlW W (a++b)=zlW W a++zlW (a.foldl zhW W) b:=by
 refine⟨List.foldl_append,?_⟩
 induction a generalizing W with
 | nil=>rfl
 | cons p a D =>
  rw[List.cons_append,zlW,zlW,D (zhW W p)];rfl
theorem zfU:∀ (l:List (Int × Bool)) {W:Wl},zao W->zao (l.foldl zhW W)/\(l.foldl zhW W).fs.length=W.fs.length
 | [],W,H=>⟨H,rfl⟩
 | p :: l,W,H=>by
  obtain⟨a,b⟩:=zuJ H p;obtain⟨c,d⟩:=zfU l a;exact⟨c,d.trans b⟩
theorem zhf:∀ (l:List (Int × Bool)) (W:Wl),(zlW W l).length=l.length
 | [],_=>rfl
 | p :: l,W=>by rw[zlW,List.length_cons,List.length_cons,zhf l]
end Go.Proofs.YtcbcpomacdngmaaGreat
