/-
  x
-/
import Derived.Test.YtcbcpomacdngmaaGreatA24
import Derived.WalkSpells
namespace Go.Proofs.YtcbcpomacdngmaaGreat
set_option maxRecDepth 100000
set_option maxHeartbeats 4000000
set_option linter.unusedVariables false
open Go.RowKit Go.ChangeShapes Go.WideShapes Go Tryz
theorem Om:(prog.info? 34).map (fun i=>(i.zero,i.size,i.bytes))=some (some (.slice none 0 0),1,24):=oad
theorem Oo(J:OA)(n cap:Nat)(E:List Value)(w:Wd)(hn:n<=1000)(hl:E.length=n*1)(h0:J=none->n=0/\cap=0)(hc:∀ j u,E[j]?=some u->∃ b o,J=some ⟨b,o,none⟩/\w.cell? ⟨b,o+j,none⟩=some u)(h1:∀ u ∈ E,u.oneCell' = true) :
  yO 12 #[.slice J n cap] w fun e w' => ∃ v2,e=.returned v2/\Below w.heap.size w w' /\ w'.ownsRow w.heap.size 34 1 v2 n E:=by
 obtain⟨i0,Z,a5,a6,a7⟩:=info_parts Om;have a8:=fun(W:Wd) n c n' c' => Lib.run_eql_slice_nil (P:=prog) W 24 34 J n c n' c' underlying24
 cases J with
 | none =>
  obtain⟨rfl,rfl⟩:=h0 rfl;have U:E=[]:=List.eq_nil_of_length_eq_zero (by simpa using hl);subst U;clear hc h1
  go_enter func12,ntmps12
  go_wp2_with fail
  go_ret;exact⟨_,rfl,yv _ _,World.ownsRow_nil _ _ _ _⟩
 | some ad =>
  obtain⟨g,o,sp⟩:=ad
  have O:Hid (∀ o1,∀ j u,E[j]?=some u->(w.alloc o1).cell? ((⟨g,o,sp⟩:Addr).add j)=some u):=fun o1 j u hj=>by
   obtain⟨b,o', e,I⟩:=hc j u hj;cases e;rw[Addr.add_lit];exact aA I (aB w o1)
  have T:Hid (∀ u ∈ E,u.oneCell' = true):=h1;have M:Hid (E.length=n*1):=hl;clear hc h1 hl h0
  go_enter func12,ntmps12
  go_wp2_with (at_builtin;refine wpList_append_own _ rfl _ _ 24 rfl w.heap.size 34 i0 (.slice none 0 0) 1 24 underlying24 Z a5 a6 a7 rfl oae (.slice (some ⟨w.heap.size,0,none⟩) 0 0) 0 [] rfl ?c0 ⟨g,o,sp⟩ n cap E rfl M.out (O _) T.out ?c3 ?c4 ?c5 ?_)
  case c0=>exact⟨oac,Or.inr ⟨w.heap.size,0,#[],rfl,yr _,yN w _,oaa,oai,oac,oac⟩⟩
  case c3=>unfold maxLen;omega
  case c4=>omega
  case c5=>simp
  intro v2 w2 F D _;have OW:Hid (w2.ownsRow w.heap.size 34 1 v2 n E):=(show w2.ownsRow _ _ _ _ _ _ from by simpa using F);have BB:Hid (Bl w w2):=(aB w _).trans ⟨D.os,D.tape,D.output,D.size,fun k hk=>D.block k oab (fun e=>by have:k=w.heap.size:=Option.some.inj e;omega)⟩;clear F D
  go_wp2
  go_ret;exact⟨_,rfl,BB.out,OW.out⟩
theorem lQ.row{w:Wd}{a:OA}{P:List (List Ac)}{c:Nat}(h:lQ w a P)(hs:SlA a P.length c):∃ K:Nat->Value,(∀ i,i<P.length->∃ pa pc,K i=.slice pa (pg P i).length pc/\dY w pa (pg P i))/\∀ j u,((List.range P.length).map K)[j]?=some u->∃ b o,a=some ⟨b,o,none⟩/\w.cell? ⟨b,o+j,none⟩=some u:=by
 have E:∀ i,∃ v:Value,i<P.length->∃ b o pa pc,a=some ⟨b,o,none⟩/\w.cell? ⟨b,o+i,none⟩=some v/\v=.slice pa (pg P i).length pc/\dY w pa (pg P i):=fun i=>by
  by_cases hi:i<P.length
  ·obtain⟨b,o,pa,pc,e,hc,ha⟩:=h i hi;exact⟨_,fun _=>⟨b,o,pa,pc,e,hc,rfl,ha⟩⟩
  ·exact⟨.slice none 0 0,fun h=>absurd h hi⟩
 refine⟨fun i=>Classical.choose (E i),fun i hi=>?_,fun j u D=>?_⟩
 ·obtain⟨b,o,pa,pc,e,hc,hv,ha⟩:=Classical.choose_spec (E i) hi;exact⟨pa,pc,hv,ha⟩
 ·rw[List.getElem?_map] at D;by_cases hi:j<P.length
  ·rw[List.getElem?_range hi] at D;cases D;obtain⟨b,o,pa,pc,e,hc,hv,ha⟩:=Classical.choose_spec (E j) hi;exact⟨b,o,e,hc⟩
  ·rw[List.getElem?_eq_none (by simpa using hi)] at D;cases D
theorem Oq:(prog.info? 50).map (fun i=>(i.zero,i.size,i.bytes))=some (some (.agg #[.slice none 0 0,.slice none 0 0,.slice none 0 0,.slice none 0 0]),4,96):=oad
theorem Ot(J:OA)(n cap:Nat)(E:List Value)(w:Wd)(hn:n<=1000)(hl:E.length=n*4)(h0:J=none->n=0/\cap=0)(hc:∀ j u,E[j]?=some u->∃ b o,J=some ⟨b,o,none⟩/\w.cell? ⟨b,o+j,none⟩=some u)(h1:∀ u ∈ E,u.oneCell' = true) :
  yO 24 #[.slice J n cap] w fun e w' => ∃ v2,e=.returned v2/\Below w.heap.size w w' /\ w'.ownsRow w.heap.size 50 4 v2 n E:=by
 obtain⟨i0,Z,a5,a6,a7⟩:=info_parts Oq;have a8:=fun(W:Wd) n c n' c' => Lib.run_eql_slice_nil (P:=prog) W 23 50 J n c n' c' underlying23
 cases J with
 | none =>
  obtain⟨rfl,rfl⟩:=h0 rfl;have U:E=[]:=List.eq_nil_of_length_eq_zero (by simpa using hl);subst U;clear hc h1
  go_enter func24,ntmps24
  go_wp2_with fail
  go_ret;exact⟨_,rfl,yv _ _,World.ownsRow_nil _ _ _ _⟩
 | some ad =>
  obtain⟨g,o,sp⟩:=ad
  have O:Hid (∀ o1,∀ j u,E[j]?=some u->(w.alloc o1).cell? ((⟨g,o,sp⟩:Addr).add j)=some u):=fun o1 j u hj=>by
   obtain⟨b,o', e,I⟩:=hc j u hj;cases e;rw[Addr.add_lit];exact aA I (aB w o1)
  have T:Hid (∀ u ∈ E,u.oneCell' = true):=h1;have M:Hid (E.length=n*4):=hl;clear hc h1 hl h0
  go_enter func24,ntmps24
  go_wp2_with (at_builtin;refine wpList_append_own _ rfl _ _ 23 rfl w.heap.size 50 i0 (.agg #[.slice none 0 0,.slice none 0 0,.slice none 0 0,.slice none 0 0]) 4 96 underlying23 Z a5 a6 a7 rfl oae (.slice (some ⟨w.heap.size,0,none⟩) 0 0) 0 [] rfl ?c0 ⟨g,o,sp⟩ n cap E rfl M.out (O _) T.out ?c3 ?c4 ?c5 ?_)
  case c0=>exact⟨oac,Or.inr ⟨w.heap.size,0,#[],rfl,yr _,yN w _,oaa,oai,oac,oac⟩⟩
  case c3=>unfold maxLen;omega
  case c4=>omega
  case c5=>simp
  intro v2 w2 F D _;have OW:Hid (w2.ownsRow w.heap.size 50 4 v2 n E):=(show w2.ownsRow _ _ _ _ _ _ from by simpa using F);have BB:Hid (Bl w w2):=(aB w _).trans ⟨D.os,D.tape,D.output,D.size,fun k hk=>D.block k oab (fun e=>by have:k=w.heap.size:=Option.some.inj e;omega)⟩;clear F D
  go_wp2
  go_ret;exact⟨_,rfl,BB.out,OW.out⟩
variable {M:Nat->Prop} {T:Nat->Int} {O:Int} {W V:Wl}
theorem nI{k:Nat}{Es:List Int}{W V:Wl}{o:Int}(E:aQ Es=0->(rlm V k).s.length=(rlm W k).s.length):(rlm (bP Es W V o).w k).s.length=(rlm W k).s.length:=by
 rcases yX (Es:=Es) (W:=W) (V:=V) (o:=o) with h |⟨h,D⟩
 ·rw[h]
 ·rw[D];exact E h
theorem Po{W:Wl}(H:aI W){k:Nat}(E:k<W.fs.length)(x:Ac):(rlm (bD W k x).w k).s.length=(rlm W k).s.length:=by
 have D:k<W.rs.length:=by rw[H.lr];exact E
 unfold bD
 repeat' split
 ·exact nI (fun _=>rfl)
 ·exact nI (fun _=>rfl)
 ·exact nI (fun _=>rfl)
 ·exact nI (fun _=>rfl)
 ·exact nI (fun h=>by
   show ((W.rs.set _ _).getD k dJ).s.length=_;rw[WC (a:=x.a) (bM h).1])
 ·exact nI (fun _=>rfl)
 ·exact nI (fun _=>rfl)
 ·exact nI (fun _=>rfl)
 ·exact nI (fun _=>by
   show (rlm (setR W k _) k).s.length=_;rw[gW D,ye rfl])
 ·exact nI (fun _=>rfl)
 ·exact nI (fun h=>by
   rw[gW D,ye rfl];exact(xS (bM h).1).2.1.len)
theorem Pp{W:Wl}(H:aI W){k:Nat}(D:k<W.fs.length)(x:Ac):(rlm (doW k W x) k).s.length=(rlm W k).s.length:=by
 have H1:=VZ H D x;have E:k<(bD W k x).w.rs.length:=by rw[H1.lr,ME];exact D
 show (rlm (mZ _ _ _) k).s.length=_;rw[MH E];exact Po H D x
theorem fold_size{k:Nat}:∀ (E:List Ac) {W:Wl},aI W->k<W.fs.length->(rlm W k).t.length+E.length<=4800->(rlm (E.foldl (doW k) W) k).s.length=(rlm W k).s.length
 | [],W,H,D,_=>rfl
 | x :: E,W,H,D,I=>by
  have F:(rlm W k).t.length+1<=4800:=by simp at I;omega
  obtain⟨a,b,c⟩:=MI H D x F;have hl:(rlm (doW k W x) k).t.length=(rlm W k).t.length+1:=by rw[c,List.length_append];rfl
  rw[List.foldl_cons,fold_size E a (by rw[b.len];exact D) (by rw[hl];simp at I;omega)];exact Pp H D x
theorem Pq(S:Sim M T O W V){k:Nat}(F:k<W.fs.length)(I:¬ M k)(ht:(fr W.fs k).t=T k)(x:Ac)(hl:(rlm W k).t.length+1<=4800):Sim M T O (doW k W x) (doW k V x):=by
 obtain⟨J,U,E⟩:=Pn S F I ht x;have D:k<(bD W k x).w.fs.length:=by rw[ME];exact F
 have Z:toldOf (bD V k x)=toldOf (bD W k x):=by unfold toldOf;rw[J,U]
 unfold doW mZ;rw[Z,E.self D I];obtain⟨r1,r2,r3,r4⟩:=gI (E.hw.rs k D);exact E.setR D (rW r1 r2 r3 (by show ((rlm (bD W k x).w k).t ++ _).length<=4800;rw[MF S.hw F x,List.length_append];simpa using hl))
theorem WK{k:Nat}:∀ (E:List Ac) {W V:Wl},Sim M T O W V->k<W.fs.length->¬ M k->(fr W.fs k).t=T k->(rlm W k).t.length+E.length<=4800->Sim M T O (E.foldl (doW k) W) (E.foldl (doW k) V)
 | [],W,V,S,_,_,_,_=>S
 | x :: E,W,V,S,F,J,U,hl=>by
  have D:(rlm W k).t.length+1<=4800:=by simp at hl;omega
  obtain⟨a,b,c⟩:=MI S.hw F x D;have I:(rlm (doW k W x) k).t.length=(rlm W k).t.length+1:=by rw[c,List.length_append];rfl
  rw[List.foldl_cons,List.foldl_cons];refine WK E (Pq S F J U x D) (by rw[b.len];exact F) J ?_ (by rw[I];simp at hl;omega)
  have:(fr (doW k W x).fs k).t=(fr W.fs k).t:=by
   refine Classical.byContradiction fun e=>?_;exact(b.moved k F e).1 rfl
  rw[this];exact U
theorem Ps(S:Sim M T O W V){k:Nat}(F:k<W.fs.length)(hM:¬ M k)(s:Bool)(hq:s=false->(que W k).length≠0):Sim M T O (bQ W k s) (bQ V k s):=by
 have E:k<V.fs.length:=by rw[S.fs];exact F
 have Z:que V k=que W k:=S.qe k F (Or.inl hM);have r1:=zH S.hw F s hq;have r2:=zH S.hv E s (by rw[Z];exact hq);have hr:k<W.rs.length:=by rw[S.hw.lr];exact F
 have U:k<V.rs.length:=by rw[S.hv.lr];exact E
 have J:k<W.qs.length:=by rw[S.hw.lq];exact F
 have I:k<V.qs.length:=by rw[S.hv.lq];exact E
 have er:∀ j,j<W.fs.length->(Out M T W j->rlm (bQ V k s) j=rlm (bQ W k s) j)/\(rlm (bQ V k s) j).s.length=(rlm (bQ W k s) j).s.length:=fun j D=>by
  by_cases e:j=k
  ·subst e;rw[qP hr,qP U,Z,S.self F hM];exact⟨fun _=>rfl,rfl⟩
  ·rw[EY hr s e,EY U s e];exact⟨S.rl j D,S.sz j D⟩
 have f1:=pK W k s;have out:∀ j,Out M T (bQ W k s) j->Out M T W j:=fun j h=>by unfold Out at h |-;rw[f1] at h;exact h
 refine⟨by rw[pK,pK];exact S.fs,r1,r2,by rw[f1];exact S.tm,by rw[f1];exact S.org,fun j D h=>?_,fun j D=>?_,fun j D h=>?_,fun j D=>?_,fun j D h=>?_,by rw[vQ,vQ];exact S.pl,by rw[vQ,vQ];exact S.pf,by rw[vQ,vQ];exact S.pc⟩
 ·rw[f1] at D;exact(er j D).1 (out j h)
 ·rw[f1] at D;exact(er j D).2
 ·rw[f1] at D;show (bQ V k s).ps.getD j []=(bQ W k s).ps.getD j [];rw[zG,zG];exact S.pr j D (out j h)
 ·rw[f1] at D;rw[EZ J,EZ I,Z];split
  ·rfl
  ·exact S.ql j D
 ·rw[f1] at D;rw[EZ J,EZ I,Z];split
  ·rfl
  ·exact S.qe j D (out j h)
theorem Pv(S:Sim M T O W V){k:Nat}(F:¬ M k)(s:Bool):bT V k s=bT W k s/\(bT W k s=0->(fr W.fs k).t=T k->Sim M T O (cB W k s) (cB V k s)):=by
 have J:bT V k s=bT W k s:=by
  unfold bT;rw[pI.2 S.hw,pI.2 S.hv,S.mayS,S.fs,yk];refine FH (fun _=>FH (fun h=>?_));obtain⟨q,e,E,_⟩:=iV h;have:q=k:=oaa
  subst this;rw[S.self E F,S.ql q E]
 refine⟨J,fun h ht=>?_⟩;obtain⟨H,D,e,E,hg,hm,a5,I⟩:=zI h;have:D=k:=oaa
 subst this;have U:=Ps S E F s I;have hr:D<W.rs.length:=by rw[H.lr];exact E
 have Z:D<(bQ W D s).fs.length:=by rw[pK];exact E
 have tb:(rlm (bQ W D s) D).t.length=(rlm W D).t.length:=by rw[qP hr]
 have hp:=H.ps D E;unfold cB;rw[ye h,ye (J.trans h),yk,S.pr D E (Or.inl F)];exact WK _ U Z F (by rw[pK];exact ht) (by rw[tb];omega)
theorem WL{W:Wl}(H:aI W){k:Nat}(hk:k<W.fs.length)(s:Bool):(aT W (k,s)).fs.length=W.fs.length/\(∀ j,j<W.fs.length->(fr W.fs j).t<=(fr (aT W (k,s)).fs j).t) /\
  (∀ j,j<W.fs.length->(fr (aT W (k,s)).fs j).t=(fr W.fs j).t->(fr (aT W (k,s)).fs j).o=(fr W.fs j).o/\(j≠k->rlm (aT W (k,s)) j=rlm W j/\prg (aT W (k,s)) j=prg W j)) /\
  (∀ j,j<W.fs.length->(fr (aT W (k,s)).fs j).t≠(fr W.fs j).t->j≠k/\rlm (aT W (k,s)) j=bB (rlm W j).s.length/\prg (aT W (k,s)) j=[]) /\
  (rlm (aT W (k,s)) k).s.length=(rlm W k).s.length:=by
 unfold aT;dsimp only;by_cases h:bT W k s=0
 ·rw[ye h];obtain⟨_,D,e,I,_,_,a5,M⟩:=zI h;have:D=k:=oaa
  subst this;obtain⟨_,A,_,hl⟩:=FC h;have J:D<W.rs.length:=by rw[H.lr];exact I
  have f1:=pK W D s;have U:∀ j,prg (bQ W D s) j=prg W j:=fun j=>by show (bQ W D s).ps.getD j []=_;rw[zG];rfl
  refine⟨hl,fun j E=>?_,fun j E e=>⟨?_,fun F=>⟨?_,?_⟩⟩,fun j E e=>?_,?_⟩
  ·have:=A.turn j (by rw[f1];exact E)
   rwa [f1] at this
  ·have:=A.org j (by rw[f1];exact E) (by rw[f1];exact e)
   rwa [f1] at this
  ·exact(A.realm j (by rw[f1];exact E) (by rw[f1];exact e) F).trans (EY J s F)
  ·exact(A.prog j (by rw[f1];exact E) (by rw[f1];exact e)).trans (U j)
  ·obtain⟨O,_,m3,m4⟩:=A.moved j (by rw[f1];exact E) (by rw[f1];exact e);exact⟨O,by rw[m4,EY J s O],m3⟩
  ·have T:=zH H I s M;have hp:=H.ps D I
   have Z:cB W D s=(prg W D).foldl (doW D) (bQ W D s):=by
    unfold cB;rw[ye h,yk]
   rw[Z,fold_size _ T (by rw[f1];exact I) (by rw[qP J];dsimp only;omega),qP J]
 ·rw[yd h];exact⟨rfl,fun j _=>Int.le_refl _,fun j _ _=>⟨rfl,fun _=>⟨rfl,rfl⟩⟩,fun j _ e=>absurd rfl e,rfl⟩
def fD(W:Wl)(O:Int)(j:Nat):Prop:=(fr W.fs j).o=O
def Base(O:Int)(W V:Wl):Prop:=Sim (fD W O) (fun j=>(fr W.fs j).t) O W V
structure Seen (O:Int) (W V:Wl):Prop where
 fs:V.fs=W.fs
 pl:V.pt.length=W.pt.length
 pf:∀ i,i<W.pt.length->(pt V.pt i).o=(pt W.pt i).o/\(pt V.pt i).t=(pt W.pt i).t/\(pt V.pt i).m=(pt W.pt i).m/\(pt V.pt i).s=(pt W.pt i).s/\(pt V.pt i).cm.length=(pt W.pt i).cm.length
 pc:∀ i,i<W.pt.length->¬ fD W O (pt W.pt i).o.toNat->(pt V.pt i).cm=(pt W.pt i).cm
 ql:∀ j,j<W.fs.length->(que V j).length=(que W j).length
 qe:∀ j,j<W.fs.length->¬ fD W O j->que V j=que W j
theorem MR{O:Int}{W:Wl}{j:Nat}(h:Out (fD W O) (fun j=>(fr W.fs j).t) W j):¬ fD W O j:=h.elim id (fun e=>absurd rfl e)
theorem base_of{O:Int}{W V:Wl}(hw:aI W)(hv:aI V)(C:Seen O W V)(rl:∀ j,j<W.fs.length->¬ fD W O j->rlm V j=rlm W j/\prg V j=prg W j)(sz:∀ j,j<W.fs.length->(rlm V j).s.length=(rlm W j).s.length):Base O W V :=
 ⟨C.fs,hw,hv,fun _ _=>Int.le_refl _,fun _ _ _=>Iff.rfl,fun j D h=>(rl j D (MR h)).1,sz,fun j D h=>(rl j D (MR h)).2,C.ql,fun j D h=>C.qe j D (MR h),C.pl,C.pf,C.pc⟩
theorem WM{W:Wl}{k:Int}(H:aI W)(s:Bool)(h:bC W.fs k≠0):bT W k s=bC W.fs k:=by
 unfold bT;rw[pI.2 H];unfold aQ;rw[ye rfl];unfold aQ;rw[yd h]
theorem Pw{O:Int}{W V:Wl}(S:Base O W V)(p:Int × Bool)(C:Seen O (aT W p) (aT V p)) :
  Base O (aT W p) (aT V p)/\((¬ ∃ k:Nat,p.1=k/\k<W.fs.length/\fD (aT W p) O k)->bT V p.1 p.2=bT W p.1 p.2):=by
 obtain⟨pk,ps⟩:=p;dsimp only at C |-;by_cases hh:bC W.fs pk=0
 ·obtain⟨k,rfl,U,hg⟩:=iV hh;have a5:k<V.fs.length:=by rw[S.fs];exact U
  have a8:=(FD S.hw ((k:Int),ps)).1;have a7:=(FD S.hv ((k:Int),ps)).1;by_cases hM:fD W O k
  ·obtain⟨l1,t1,s1,m1,z1⟩:=WL S.hw U ps;obtain⟨l2,t2,s2,m2,z2⟩:=WL S.hv a5 ps;have tk:(fr (aT W ((k:Int),ps)).fs k).t=(fr W.fs k).t:=Classical.byContradiction fun e=>(m1 k U e).1 rfl;have tv:∀ j,(fr (aT V ((k:Int),ps)).fs j).t=(fr (aT W ((k:Int),ps)).fs j).t:=fun j=>by rw[C.fs]
   have mk:fD (aT W ((k:Int),ps)) O k:=by
    show (fr (aT W ((k:Int),ps)).fs k).o=O;rw[(s1 k U tk).1];exact hM
   refine⟨base_of a8 a7 C (fun j D hn=>?_) (fun j D=>?_),fun a6=>absurd ⟨k,rfl,U,mk⟩ a6⟩
   ·rw[l1] at D;have E:j<V.fs.length:=(by rw[S.fs];exact D);by_cases e:(fr (aT W ((k:Int),ps)).fs j).t=(fr W.fs j).t
    ·have T:j≠k:=fun F=>hn (by rw[F];exact mk);have Z:¬ fD W O j:=fun h=>hn (by show (fr (aT W ((k:Int),ps)).fs j).o=O;rw[(s1 j D e).1];exact h);have I:(fr (aT V ((k:Int),ps)).fs j).t=(fr V.fs j).t:=(by rw[tv j,e,S.fs]);obtain⟨a1,a2⟩:=(s1 j D e).2 T;obtain⟨b1,b2⟩:=(s2 j E I).2 T;rw[a1,a2,b1,b2];exact⟨S.rl j D (Or.inl Z),S.pr j D (Or.inl Z)⟩
    ·have I:(fr (aT V ((k:Int),ps)).fs j).t≠(fr V.fs j).t:=(by rw[tv j,S.fs];exact e);obtain⟨_,a1,a2⟩:=m1 j D e;obtain⟨_,b1,b2⟩:=m2 j E I;rw[a1,a2,b1,b2,S.sz j D];exact⟨rfl,rfl⟩
   ·rw[l1] at D;have E:j<V.fs.length:=(by rw[S.fs];exact D);by_cases ek:j=k
    ·subst ek;rw[z1,z2];exact S.sz j D
    ·by_cases e:(fr (aT W ((k:Int),ps)).fs j).t=(fr W.fs j).t
     ·have I:(fr (aT V ((k:Int),ps)).fs j).t=(fr V.fs j).t:=(by rw[tv j,e,S.fs]);rw[((s1 j D e).2 ek).1,((s2 j E I).2 ek).1];exact S.sz j D
     ·have I:(fr (aT V ((k:Int),ps)).fs j).t≠(fr V.fs j).t:=(by rw[tv j,S.fs];exact e);rw[(m1 j D e).2.1,(m2 j E I).2.1,S.sz j D]
  ·obtain⟨pe,pa⟩:=Pv S hM ps;refine⟨?_,fun _=>pe⟩;by_cases h:bT W k ps=0
   ·have J:=pa h rfl;have M:aT W ((k:Int),ps)=cB W k ps:=(by unfold aT;rw[ye h]);have F:aT V ((k:Int),ps)=cB V k ps:=(by unfold aT;rw[ye (by rw[pe];exact h)]);rw[M,F] at C |-;have hl:=(FC h).2.2.2;refine base_of J.hw J.hv C (fun j D hn=>?_) J.sz
    have out:Out (fD W O) (fun j=>(fr W.fs j).t) (cB W k ps) j:=by
     by_cases e:(fr (cB W k ps).fs j).t=(fr W.fs j).t
     ·exact Or.inl (fun hm=>hn ((J.org j D e).1 hm))
     ·exact Or.inr e
    exact⟨J.rl j D out,J.pr j D out⟩
   ·have M:aT W ((k:Int),ps)=W:=(by unfold aT;rw[yd h]);have F:aT V ((k:Int),ps)=V:=(by unfold aT;rw[yd (by rw[pe];exact h)]);rw[M,F];exact S
 ·have hv:bC V.fs pk≠0:=by rw[S.fs];exact hh
  have p1:=WM S.hw ps hh;have p2:=WM S.hv ps hv;have M:aT W (pk,ps)=W:=by unfold aT;rw[yd (by dsimp only;rw[p1];exact hh)]
  have F:aT V (pk,ps)=V:=by unfold aT;rw[yd (by dsimp only;rw[p2];exact hv)]
  rw[M,F];exact⟨S,fun _=>by rw[p1,p2,S.fs]⟩
structure ECl where
 n:Int
 ka:OA
 kl:Nat
 kc:Nat
def sM(x:ECl):Nat->Value
 | 0=>.int .i64 x.n
 | _=>.slice x.ka x.kl x.kc
theorem WR(n:Nat)(hn:n<=100000)(w:Wd):(Instr.makeSlice 45 (.int .i64 (n:Int)) (.int .i64 (n:Int))).run prog w=.ok (.slice (some ⟨w.heap.size,0,none⟩) n n) (w.alloc (.cells (madeCells #[.int .i64 0,.slice none 0 0] (n*2)) 55)):=by
 have I:(prog.info? 55).map (fun i=>(i.zero,i.size,i.bytes))=some (some (.agg #[.int .i64 0,.slice none 0 0]),2,32):=oad
 obtain⟨i,hi,D,E,F⟩:=info_parts I;have h:=run_make (P:=prog) w 45 55 i _ underlying45 hi D .i64 .i64 n n oaa oaa (by rw[F];omega) oaa;rw[E] at h;simp only[yk] at h;exact h
theorem aN.putCl{w:Wd}{g n k:Nat}{F:Nat->Value}(h:w.rowIs g 55 (n*2) F)(x:ECl):∃ D,((w.setCell ⟨g,k*2,none⟩ (.int .i64 x.n)).setCell ⟨g,k*2+1,none⟩ (.slice x.ka x.kl x.kc)).rowIs g 55 (n*2) D/\(∀ j,j<2->D (k*2+j)=sM x j)/\∀ i,i<k->∀ j,j<2->D (i*2+j)=F (i*2+j):=by
 refine⟨_,(h.set _ _).set _ _,fun j E=>?_,fun i hi j E=>?_⟩
 ·rcases(by omega:j=0\/j=1) with rfl|rfl
  ·rw[yd oaa,ye oaa];rfl
  ·rw[ye rfl];rfl
 ·rw[yd oaa,yd oaa]
theorem Qq(K:Nat)(eg:∀ args w,(callFunc K args).run prog w=.ok (.enter K args) w)(a:OA)(c n:Nat)(S:Nat->ECl)(R:Nat->ECl->Nat->Nat->World->Prop)(w:Wd)(hn:n<=100000)
  (hs:∀ i,i<n->∃ b o,a=some ⟨b,o,none⟩/\w.cell? ⟨b,o+i*2,none⟩=some (.int .i64 (S i).n)/\w.cell? ⟨b,o+i*2+1,none⟩=some (.slice (S i).ka (S i).kl (S i).kc))
  (hK:∀ i,i<n->∀ W,Bl w W->yO K #[.agg #[.int .i64 (S i).n,.slice (S i).ka (S i).kl (S i).kc]] W fun e T=>∃ y:ECl,e=.returned (.agg #[.int .i64 y.n,.slice y.ka y.kl y.kc])/\Below W.heap.size W T/\St (fun b=>b<W.heap.size\/T.heap.size<=b) (R i y W.heap.size T.heap.size) T) :
  yO 134 #[.slice a n c,.func (.func K) #[] #[]] w fun e w' => e=.returned (.slice (some ⟨w.heap.size,0,none⟩) n n)/\Below w.heap.size w w' /\ aN sM 55 2 n R w.heap.size n w' := by
 have HS:Hid _:=hs;have HK:Hid _:=hK;clear hs hK;have b2:=WR n hn
 go_enter func134,ntmps134
 go_wp2
 go_loopg [13] n (fun m s13 wr=>∃ k:Nat,k<=n/\n-k<=m/\s13=.int .i64 k/\Below w.heap.size w wr/\Hid (aN sM 55 2 n R w.heap.size k wr))
 case atStart=>exact⟨0,oaa,oaa,rfl,aB _ _,aN.zero w _ 55 2 n R (S 0)⟩
 case round =>
  obtain⟨k,hk,hg,rfl,hb,O⟩:=hrel;by_cases J:k<n
  ·have a9:(k:Int)<(n:Int):=oaa;obtain⟨b,o,rfl,c0,c1⟩:=HS.out k J;replace c0:=aA c0 hb;replace c1:=aA c1 hb;have b0:b<wr.heap.size:=yi _ _ c0;obtain⟨E,Z,F,U⟩:=O.facts;have D:Hid (∀ W,Bl wr W->Calls _ _ _ _ _):=fun W hW=>HK.out k J W (hb.trans (hW.mono hb.size));generalize S k=x at *;obtain⟨xn,b3,b5,b4⟩:=x;dsimp only at c0 c1 D
   go_wp2_with (go_at_fn K;refine(D _ ?nd).mono ?_;(case nd=>exact aB _ _);rintro e w3 ⟨⟨yn,a5,a7,a6⟩,rfl,I,h3⟩;have HR:Hid _:=h3;clear h3;have M:Hid (Bl wr w3):=(aB _ _).trans (I.mono oac);have s3:Hid (wr.heap.size<=w3.heap.size):=M.size;have SZ:Hid _:=I.size;clear I;have q0:=(M.cell (by exact E)).trans (U (k*2) oaa);have q1:=(M.cell (by exact E)).trans (U (k*2+1) oaa);have a8:=fun o=>(M.frozen (by exact E)).trans (Z o);have b1:w.heap.size<w3.heap.size:=yC E s3.out)
   go_roundg (n-(k+1))
   case measure=>omega
   case rel =>
    refine⟨k+1,oaa,oaa,by go_num,(((hb.trans (M.mono hb.size)).setCell oac _).setCell oac _),aN.step O.out J M.out oac ?_ HR.out rfl (((aC.refl (fun b=>b=w.heap.size) _).trans (aC.set (X:=fun b=>b=w.heap.size) _ _ rfl)).trans (aC.set (X:=fun b=>b=w.heap.size) _ _ rfl)) (fun F U=>aN.putCl U ⟨yn,a5,a7,a6⟩)⟩;have:=SZ.out;simpa using this
  ·have:k=n:=oaa;subst this
   go_wp2
   go_ret;exact⟨rfl,hb,O.out⟩
def RCl(G:List Cl)(i:Nat)(y:ECl)(lo hi:Nat)(V:Wd):Prop:=y.n=(cl G i).n/\y.kl=(cl G i).ks.length/\aG V y.ka (cl G i).ks
theorem Qr{w:Wd}{g:Nat}{G:List Cl}(h:aN sM 55 2 G.length (RCl G) g G.length w):aO w (some ⟨g,0,none⟩) G:=fun i hi=>by
 obtain⟨v,_,_,F,D,hv⟩:=h;obtain⟨h1,_,_,_,_,J⟩:=hv i hi;obtain⟨E,I,M⟩:=J.at;refine⟨g,0,rfl,?_⟩;rw[yD];refine⟨(D.cell oaa).trans ?_,(v i).ka,(v i).kc,(D.cell oaa).trans ?_,M⟩
 ·rw[<- E];exact congrArg some (h1 0 oaa)
 ·rw[<- I];exact congrArg some (h1 1 oaa)
theorem Qs(n:Int)(ka:OA)(kc:Nat)(ks:List Int)(w:Wd)(hk:ks.length<=1000)(M:aG w ka ks) :
  yO 135 #[.agg #[.int .i64 n,.slice ka ks.length kc]] w fun e w' => ∃ g,e=.returned (.agg #[.int .i64 n,.slice (some ⟨g,0,none⟩) ks.length ks.length])/\Below w.heap.size w w' /\ w.heap.size<=g/\w'.rowIs g 3 ks.length (fun j=>.int .i64 (ks.getD j 0)):=by
 have D:Hid (∀ W,Bl w W->Calls _ _ _ _ _):=fun W hW=>IJ ka kc ks W oaa (M.below hW);clear M hk;obtain⟨l,hl⟩:∃ l,ks.length=l:=⟨_,rfl⟩;rw[hl] at D |-;clear hl
 go_enter func135,ntmps135
 go_wp2_with fail
 obtain⟨V,I⟩:∃ V,(w.alloc (.cells #[.int .i64 n,.slice ka l kc] 55)).alloc (.cells #[.int .i64 0,.slice none 0 0] 55)=V:=⟨_,rfl⟩;have Z:V.cell? ⟨w.heap.size,0,none⟩=some (.int .i64 n):=by rw[<- I];exact fE _ _ _ 0 _ rfl
 have v1:V.cell? ⟨w.heap.size,1,none⟩=some (.slice ka l kc):=by rw[<- I];exact fE _ _ _ 1 _ rfl
 have z0:V.cell? ⟨w.heap.size+1,0,none⟩=some (.int .i64 0):=by rw[<- I];exact fF _ _ _ 0 _ rfl
 have z1:V.cell? ⟨w.heap.size+1,1,none⟩=some (.slice none 0 0):=by rw[<- I];exact fF _ _ _ 1 _ rfl
 have zf:∀ o,V.frozen? ⟨w.heap.size+1,o,none⟩=false:=fun o=>by rw[<- I];exact IK _ _ _ _ _
 have T:Hid (Bl w V):=by rw[<- I];exact aM _ _ _
 have sV:w.heap.size+1<V.heap.size:=yi _ _ z0;have a5:w.heap.size<V.heap.size:=yi _ _ Z;rw[I];clear I
 go_region_held3 (fun O=>O.cell? ⟨w.heap.size,0,none⟩=some (.int .i64 n)/\O.cell? ⟨w.heap.size,1,none⟩=some (.slice ka l kc)) (go_keep) (first|(go_at_call 85;refine yj (D _ ?nd) ?_;(case nd=>exact T.drew);rintro e w3 ⟨rfl,J,F⟩;have E:Hid (Bl V w3):=(yv V.heap.size V).drew.trans J;have U:Hid (Bl w w3):=T.trans (E.mono T.size);have HR:Hid (w3.rowIs V.heap.size 3 l (fun j=>.int .i64 (ks.getD j 0))):=F;have u0:=aA Z E;have u1:=aA v1 E;have q0:=aA z0 E;have q1:=aA z1 E;have fz:=fun o=>(E.frozen (show (⟨w.heap.size+1,o,none⟩:Addr).block<V.heap.size from sV)).trans (zf o);have s3:V.heap.size<w3.heap.size:=World.rowIs.lt F;clear J F))
 go_wp2
 refine yz (v:=.agg #[.int .i64 n,.slice (some ⟨V.heap.size,0,none⟩) l l]) (by simp[results,results135,go_sem,q0,q1]) rfl ⟨V.heap.size,rfl,(U.setCell oac _).setCell oac _,T.size,(HR.setOther oab _).setOther oab _⟩
theorem Qt(a:OA)(c:Nat)(G:List Cl)(w:Wd)(T:G.length<=1000)(hK:∀ i,i<G.length->(cl G i).ks.length<=1000)(J:aO w a G) :
  yO 134 #[.slice a G.length c,.func (.func 135) #[] #[]] w fun e w' => e=.returned (.slice (some ⟨w.heap.size,0,none⟩) G.length G.length)/\Below w.heap.size w w' /\ aN sM 55 2 G.length (RCl G) w.heap.size G.length w' := by
 obtain⟨f,I⟩:=Classical.skolem.1 (fun i=>show ∃ x:OA × Nat,i<G.length->(∃ b o,a=some ⟨b,o,none⟩/\w.cell? ⟨b,o+i*2,none⟩=some (.int .i64 (cl G i).n)/\w.cell? ⟨b,o+i*2+1,none⟩=some (.slice x.1 (cl G i).ks.length x.2))/\aG w x.1 (cl G i).ks by
  by_cases hi:i<G.length
  ·obtain⟨b,o,e,c0,ka,kc,c1,D⟩:=J i hi;exact⟨(ka,kc),fun _=>⟨⟨b,o,e,c0,c1⟩,D⟩⟩
  ·exact⟨(none,0),fun h=>absurd h hi⟩)
 refine Qq 135 (yM func135 oad rfl) a c G.length (fun i=>⟨(cl G i).n,(f i).1,(cl G i).ks.length,(f i).2⟩) (RCl G) w oaa (fun i hi=>(I i hi).1) (fun i hi W M=>?_);refine(Qs (cl G i).n (f i).1 (f i).2 (cl G i).ks W (hK i hi) ((I i hi).2.below M)).mono ?_;rintro e w' ⟨g,rfl,hb,hg,E⟩;refine⟨⟨(cl G i).n,some ⟨g,0,none⟩,(cl G i).ks.length,(cl G i).ks.length⟩,rfl,hb,fun w2 O=>⟨rfl,rfl,wY (E.of_block (O.block g E.lt (fun F=>?_)))⟩⟩;have:=E.lt;rcases F with F|F <;> omega
theorem MX(a:OA)(c:Nat)(G:List Cl)(w:Wd)(Z:G.length<=1000)(hK:∀ i,i<G.length->(cl G i).ks.length<=1000)(I:aO w a G) :
  yO 104 #[.agg #[.slice a G.length c]] w fun e w' => ∃ g,e=.returned (.agg #[.slice (some ⟨g,0,none⟩) G.length G.length])/\Below w.heap.size w w' /\ w.heap.size<=g/\St (fun b=>b<w.heap.size\/w'.heap.size<=b) (fun V=>aO V (some ⟨g,0,none⟩) G) w' := by
 have D:Hid (∀ J M,Calls _ _ _ _ _):=fun J M=>Qt a c G ((w.alloc J).alloc M) Z hK (I.below (aM _ _ _));have T:Hid (∀ V:World,aN sM 55 2 G.length (RCl G) (w.heap.size+1+1) G.length V->St (fun b=>b<w.heap.size\/V.heap.size<=b) (fun V=>aO V (some ⟨w.heap.size+1+1,0,none⟩) G) V):=fun V h=>(h.st oaa (yr _)).imp (fun V h=>Qr h);clear I hK;simp only[yw] at D;generalize G.length=n at *
 go_enter func104,ntmps104
 go_wp2_with (go_at_call 134;refine(D _ _).mono ?_;rintro e w3 ⟨rfl,E,F⟩;have U:Hid (aN sM 55 2 n (RCl G) (w.heap.size+1+1) n w3):=F;clear F;have y1:w3.cell? ⟨w.heap.size+1,0,none⟩=some (.slice none 0 0):=(E.cell oac).trans oaf;have y2:∀ o,w3.frozen? ⟨w.heap.size+1,o,none⟩=false:=fun o=>(E.frozen oac).trans oaf;have O:Hid (Bl w w3):=(aM _ _ _).trans (E.mono oaa);clear E)
 refine yz (v:=.agg #[.slice (some ⟨w.heap.size+1+1,0,none⟩) n n]) (by simp[results,results104,go_sem,y1]) rfl ⟨w.heap.size+1+1,rfl,O.setCell oac _,oaa,T.out _ (U.set oaa _)⟩
section
variable {P:Program} {ops:Array Oper} {Q:Exit->Act->World->Prop} {md:Region.Mode} {S:World->Prop} {x:Nat}
def kU(P:Program)(md:Region.Mode)(ops:Array Oper)(Q:Exit->Act->World->Prop)(S:World->Prop)(x:Nat):Nat->Array Bool->Act->World->Prop
 | 0,listed,a,w=>Region.ready md ops listed=[]/\Q .normal a w
 | fuel+1,listed,a,w =>
  (Region.ready md ops listed=[]->Q .normal a w) /\
  ∀ i ∈ Region.ready md ops listed,wpOp P ops Q i (fun D w' => (i=x\/S w')/\kU P md ops Q S x fuel (listed.setIfInBounds i true) D w') a w
theorem WS:∀ (fuel:Nat) (listed:Array Bool) (a:Act) (w:Wd),kU P md ops Q S x fuel listed a w->wpAny P md ops Q fuel listed a w
 | 0,_,_,_,h=>h
 | fuel+1,_,_,_,h=>⟨h.1,fun i hi=>wpOp_mono (fun D w' E=>WS fuel _ D w' E.2) (h.2 i hi)⟩
def waits(md:Region.Mode)(ops:Array Oper)(x i:Nat):Bool:=match ops[x]? with
 | some o=>o.after.any (fun e=>Region.binds md e && e.on == i)
 | none=>false
theorem Qw{i:Nat}{U:Oper}{v:Value}(hi:ops[i]?=some U)(O:∀ (j:Nat) (o:Oper) cs b,ops[j]?=some o->o.op≠.select cs b)(hX:waits md ops x i=true)
  (hQ:∀ c a w,Q (.panic c) (a.put U.dst v) w->Q (.panic c) a w) :
  ∀ (fuel:Nat) (listed:Array Bool) (a:Act) (w:Wd),
   (∀ j Z,ops[j]?=some Z->j≠i->listed.getD j true=false->(∀ e ∈ Z.after,Region.binds md e=true->e.on≠i)->U.apart ops Z=true) ->
   i ∈ Region.ready md ops listed->YieldsIf P ops S U v a->S w ->
   kU P md ops Q S x fuel (listed.setIfInBounds i true) (a.put U.dst v) w->kU P md ops Q S x (fuel+1) listed a w:=by
 intro fuel
 induction fuel with
 | zero =>
  intro listed a w _ T hy hS H;refine⟨fun h=>(by rw[h] at T;cases T),fun j hj=>?_⟩;by_cases D:j=i
  ·subst D;exact hy.wpOp hi hS ⟨Or.inr hS,H⟩
  ·have:=ready_mono hj D;rw[H.1] at this;cases this
 | succ fuel ih =>
  intro listed a w E T hy hS H;refine⟨fun h=>(by rw[h] at T;cases T),fun j hj=>?_⟩;by_cases D:j=i
  ·subst D;exact hy.wpOp hi hS ⟨Or.inr hS,H⟩
  ·have h1:=H.2 j (ready_mono hj D);obtain⟨J,Z,I,a6⟩:=mem_ready.1 hj
   have M:∀ e ∈ Z.after,Region.binds md e=true->e.on≠i:=fun e he hb a9=>by
    have h1:=a6 e he hb;have h0:=(mem_ready.1 T).1;rw[a9] at h1;rcases Nat.lt_or_ge i listed.size with h' | h'
    ·simp[h'] at h0 h1;rw[h0] at h1;cases h1
    ·simp[Array.getElem?_eq_none h'] at h1
   have b0:j≠x:=fun e=>by
    subst e;unfold waits at hX;rw[I] at hX;simp only[Array.any_eq_true,Bool.and_eq_true] at hX;obtain⟨k,hk,h5,h6⟩:=hX;exact M _ (Array.getElem_mem hk) h5 (by simpa using h6)
   have h2:=wpOp_putIf I (E j Z I D J M) (fun cs b=>O i U cs b hi) (fun cs b=>O j Z cs b I) hQ hy h1
   have F:∀ k ok,ops[k]?=some ok->k≠i->(listed.setIfInBounds j true).getD k true=false ->
     (∀ e ∈ ok.after,Region.binds md e=true->e.on≠i)->U.apart ops ok=true:=fun k ok hk b1 a8 b2=>by
    refine E k ok hk b1 ?_ b2;by_cases a7:j=k
    ·subst a7;exact J
    ·rw[getD_set_ne true a7] at a8;exact a8
   refine wpOp_mono (fun a' w' h3=>?_) h2;have a5:S w' := h3.2.1.resolve_left b0;refine⟨Or.inr a5,ih (listed.setIfInBounds j true) a' w' F (ready_mono T (Ne.symm D)) h3.1 a5 ?_⟩;rw[Array.setIfInBounds_comm _ _ D];exact h3.2.2
theorem Qx{i:Nat}{D:Oper}{v:Value}{fuel:Nat}{listed:Array Bool}{a:Act}{w:Wd}(hi:ops[i]?=some D)
  (hs:Region.noSelect ops=true) (J:Region.free md ops listed i=true) (M:(Region.ready md ops listed).contains i=true) (I:waits md ops x i=true)
  (E:∀ c a w,Q (.panic c) (a.put D.dst v) w->Q (.panic c) a w) (O:YieldsIf P ops S D v a) (F:S w)
  (h:kU P md ops Q S x fuel (listed.setIfInBounds i true) (a.put D.dst v) w):kU P md ops Q S x (fuel+1) listed a w :=
 Qw hi (Region.noSelect_spec hs) I E fuel listed a w (Region.free_spec hi J) (by simpa using M) O F h
theorem aY{i:Nat}{D:Oper}{v:Value}{fuel:Nat}{listed:Array Bool}{a:Act}{w:Wd}(h:kU P md ops Q S x fuel (listed.setIfInBounds i true) (a.put D.dst v) w)(hi:ops[i]?=some D:=by rfl)
  (hs:Region.noSelect ops=true:=by kernel_rfl) (M:Region.free md ops listed i=true:=by kernel_rfl) (O:(Region.ready md ops listed).contains i=true:=by kernel_rfl) (J:waits md ops x i=true:=by kernel_rfl)
  (F:∀ c a w,Q (.panic c) (a.put D.dst v) w->Q (.panic c) a w:=by exact fun _ _ _ h=>h) (I:S w:=by assumption) (T:YieldsIf P ops S D v a:=by exact Or.inl ⟨by rfl,by intro w E;(try dsimp only at E);first|(go_simp;done)|(go_simp;with_reducible rfl)⟩):kU P md ops Q S x (fuel+1) listed a w :=
 Qx hi hs M O J F T I h
theorem nJ{i:Nat}{o:Oper}{fuel:Nat}{listed:Array Bool}{a:Act}{w:Wd}(I:Region.ready md ops listed=[i])(M:ops[i]?=some o)
  (h:∀ D:Act->World->Prop,Shut (∀ a w,S w->(S w->kU P md ops Q S x fuel (listed.setIfInBounds i true) a w)->D a w)->if Region.wanted o (yielded ops a.tmps)=true then Oper.wp P o a w D Q else D (a.put o.dst undef) w) :
  kU P md ops Q S x (fuel+1) listed a w:=by
 refine⟨fun h0=>(by rw[I] at h0;cases h0),fun j E=>?_⟩;rw[I] at E;have E:j=i:=by simpa using E
 subst E;exact wpOp_step M (fun D hK=>h D (fun a w F J=>hK a w ⟨Or.inr F,J F⟩))
theorem FP{o:Oper}{fuel:Nat}{listed:Array Bool}{a:Act}{w:Wd}(F:Region.ready md ops listed=[x])(J:ops[x]?=some o)
  (h:∀ D:Act->World->Prop,Shut (∀ a w,kU P md ops Q S x fuel (listed.setIfInBounds x true) a w->D a w)->if Region.wanted o (yielded ops a.tmps)=true then Oper.wp P o a w D Q else D (a.put o.dst undef) w) :
  kU P md ops Q S x (fuel+1) listed a w:=by
 refine⟨fun h0=>(by rw[F] at h0;cases h0),fun j E=>?_⟩;rw[F] at E;have E:j=x:=by simpa using E
 subst E;exact wpOp_step J (fun D hK=>h D (fun a w I=>hK a w ⟨Or.inl rfl,I⟩))
theorem FQ{listed:Array Bool}{a:Act}{w:Wd}(D:Region.ready md ops listed=[])(h:Q .normal a w) :
  ∀ fuel,kU P md ops Q S x fuel listed a w
 | 0=>⟨D,h⟩
 | _+1=>⟨fun _=>h,by rw[D];simp⟩
theorem FV{id:Nat}{a:Act}{w:Wd}(x:Nat)(E:P.follows .mixedOrders=true)(D:S w.drew)
  (h:S w.drew->kU P .any ops Q S x ops.size (Array.replicate ops.size false) a w.drew):(Code.region id ops true).wp P Q a w :=
 wp_region_any E (WS _ _ _ _ (h D))
end
theorem Qy:(prog.info? 47).map (fun i=>(i.zero,i.size,i.bytes))=some (some (.agg #[.slice none 0 0]),1,24):=oad
def GrV(w:Wd)(v:Value)(G:List Cl):Prop:=∃ ga gc,v=.slice ga G.length gc/\aO w ga G
def grow(n:Nat)(J:Nat->Value):List Value:=(List.range n).map J
theorem WT(n:Nat)(J:Nat->Value):(grow n J).length=n:=by unfold grow;simp
theorem WU{n:Nat}{J:Nat->Value}{i:Nat}(h:i<n):(grow n J)[i]?=some (J i):=by unfold grow;simp[h]
theorem Qz(n:Nat)(J:Nat->Value)(v:Value):grow n J++[v]=grow (n+1) (fun i=>if i=n then v else J i):=by
 unfold grow;rw[List.range_succ,List.map_append]
 congr 1
 ·refine List.map_congr_left (fun i hi=>?_);have:=List.mem_range.1 hi;rw[yd oaa]
 ·simp
theorem Ra{B:Nat}{w:Wd}{v:Value}{C:List (List Cl)}{J:Nat->Value}(h:w.ownsRow B 47 1 v C.length (grow C.length J))(hg:∀ i,i<C.length->GrV w (J i) (gr C i)):mM w v C:=by
 have hc:=fun g hg=>h.cells (g:=g) hg;rcases h.2 with ⟨rfl,h0⟩ |⟨g,cap,I,rfl,_,_,D,E,_⟩
 ·exact⟨none,0,by rw[h0],⟨fun _=>rfl,oaa,oaa⟩,fun i hi=>oaa⟩
 ·refine⟨some ⟨g,0,none⟩,cap,rfl,⟨(fun h=>oah),D,(by unfold maxLen at E;omega)⟩,fun i hi=>?_⟩;obtain⟨ga,gc,e,F⟩:=hg i hi;refine⟨g,0,ga,gc,rfl,?_,F⟩;have:=hc g rfl i (J i) (WU hi);rw[Addr.add_lit,yD] at this;rw[yD,this,e]
theorem Rb{W:Wd}{b:Nat}{v:Value}(c0:W.cell? ⟨b,0,none⟩=some v):∀ j u,([v]:List Value)[j]?=some u->W.cell? ((⟨b,0,none⟩:Addr).add j)=some u:=fun j u D=>by
 rw[Addr.add_lit]
 match j,D with
 | 0,D=>cases D;exact c0
 | j+1,D=>simp at D
theorem Rc(w:Wd)(r:Option Nat):w.grownBy w r:=⟨rfl,rfl,rfl,yr _,fun _ _ _=>rfl⟩
theorem Re{P:Program}{ops:Array Oper}{o:Oper}{a:Act}{w:Wd}{K:Act->World->Prop}{Q:Exit->Act->World->Prop}{E:Prop}
  (hg:o.guard=none) (s x:Operand) (t:TypeId) (M:o.op=Op.call { callee:=Callee.builtin Builtin.append,args:=#[s,x],argTypes:=#[t,t] })
  (base:Nat) (e:TypeId) (i:TypeInfo) (z:Value) (size bytes:Nat) (h1:P.underlying t=some (.slice e)) (h2:P.info? e=some i) (h3:i.zero=some z) (h4:i.size=size) (h5:i.bytes=bytes) (h6:z.cells.size=size) (h7:0<size)
  (v:Value) (n:Nat) (U:List Value) (hs:a.eval s=v) (D:w.ownsRow base e size v n U)
  (sa:OA) (m c:Nat) (news:List Value) (J:sa=none->m=0/\c=0) (hx:a.eval x=.slice sa m c) (hn:news.length=m*size) (hc:∀ I,sa=some I->∀ j u,news[j]?=some u->w.cell? (I.add j)=some u) (Z:∀ u ∈ news,u.oneCell' = true)
  (b1:n+m<=maxLen) (b2:(n+m)*bytes<=140737488355328) (F:base<=w.heap.size)
  (hK:∀ T w', w'.ownsRow base e size T (n+m) (U++news)->w.grownBy w' v.ownBlock->K (a.put o.dst T) w') :
  if Region.wanted o (yielded ops a.tmps)=true then Oper.wp P o a w K Q else E:=by
 have hw:Region.wanted o (yielded ops a.tmps)=true:=by simp[Region.wanted,hg]
 rw[ye hw]
 cases sa with
 | some I=>exact wp_append_own w s x t M base e i z size bytes h1 h2 h3 h4 h5 h6 h7 v n U hs D I m c news hx hn (hc I rfl) Z b1 b2 F (fun T w' r1 r2 _=>hK T w' r1 r2)
 | none =>
  obtain⟨rfl,rfl⟩:=J rfl;have en:news=[]:=List.eq_nil_of_length_eq_zero (by rw[hn];simp);subst en;have O:=run_append_owned_none (P:=P) (w:=w) base t o.type e i size h1 h2 v n U D;unfold Oper.wp;simp[execOp,M,resolve,invoke,builtin,hs,hx,O,Result.andThen];exact hK v w (by simpa using D) (Rc w _)
section
variable {P:Program} {ops:Array Oper} {Q:Exit->Act->World->Prop} {md:Region.Mode} {S:World->Prop} {x:Nat}
end
theorem Rf{P:Program}(w:Wd)(J T U elem:TypeId)(i:TypeInfo)(d a:OA)(D F E I:Nat)(O:P.underlying J=some (.slice elem))(M:P.info? elem=some i)(hn:Nat.min E D=0) :
  (Builtin.copy_ #[J,T] U #[.slice d D F,.slice a E I]).run P w=.ok (goInt 0) w:=by
 have hl:∀ (x:Addr),(loadCells x 0).run P w=.ok #[] w:=fun x=>by simpa using run_loadCells_list (P:=P) w x [] oac
 cases d <;> cases a <;> simp[Builtin.copy_,run_underlying O,Builtin.lenOf,Builtin.firstCells,sizeOf,typeInfo,M,hn,storeCells,hl]
theorem NB{P:Program}{w:Wd}{ops:Array Oper}{rest:List Oper}{o:Oper}{a:Act}{Q:Exit->Act->World->Prop}(O:o.guard=none)(d s:Operand)(Z sT:TypeId)
  (ho:o.op=.call { callee:=.builtin .copy,args:=#[d,s],argTypes:=#[Z,sT] }) (elem:TypeId) (i:TypeInfo) (size:Nat) (hu:P.underlying Z=some (.slice elem)) (hi:P.info? elem=some i) (hz:i.size=size)
  (g n D:Nat) (sa:OA) (F:Nat) (hd:a.eval d=.slice (some ⟨g,0,none⟩) n D) (hs:a.eval s=.slice sa n F)
  (I:List Value) (t:TypeId) (hg:w.heap[g]?=some (.cells I.toArray t (0,0))) (J:List Value) (hl:J.length=n*size) (E:I.length=n*size) (T:sa=none->n=0)
  (hsrc:∀ M,sa=some M->∀ j v,J[j]?=some v->w.cell? (M.add j)=some v) (h1:∀ v ∈ J,v.oneCell' = true)
  (h:∀ w', Hid (w'.heap[g]?=some (.cells J.toArray t (0,0)))->Hid (∀ B w0,Below B w0 w->B<=g->Below B w0 w')->wpList P ops Q rest (a.put o.dst (goInt n)) w'):wpList P ops Q (o :: rest) a w:=by
 subst hz;by_cases h0:n=0
 ·subst h0;rw[Nat.zero_mul] at hl E;obtain rfl:J=[]:=List.eq_nil_of_length_eq_zero hl;obtain rfl:I=[]:=List.eq_nil_of_length_eq_zero E;refine wpList_plain O fun K hK=>?_;have U:=Rf (P:=P) w Z sT o.type elem i (some ⟨g,0,none⟩) sa 0 D 0 F hu hi rfl;unfold Oper.wp;simp[execOp,ho,resolve,invoke,builtin,hd,hs,U,Result.andThen];exact hK _ _ (h w hg (fun _ _ hb _=>hb))
 ·cases sa with
  | none=>exact absurd (T rfl) h0
  | some M =>
   refine KH O d s Z sT ho elem i hu hi g 0 n D M n F n hd hs I t hg J (Nat.min_self n).symm hl (hsrc M rfl) oaa h1 (fun w' hw hb=>h w' ?_ hb);show _=_;rw[hw];simp[hl,E]
theorem WY(x m:Int)(w:Wd) :
  yO 98 #[.int .i64 x,.int .i64 m] w fun e w' => e=.returned (.bool (decide (0<=x/\x<m)))/\w' = w:=by
 by_cases h1:0<=x
 ·have d1:decide (0<=x)=true:=yI h1;by_cases D:x<m
  ·have d2:decide (x<m)=true:=yI D;rw[yI (⟨h1,D⟩:0<=x/\x<m)]
   go_enter func98,ntmps98
   go_wp2
   go_ret;exact⟨rfl,rfl⟩
  ·have d2:decide (x<m)=false:=yH D;rw[yH (fun h=>D h.2:¬ (0<=x/\x<m))]
   go_enter func98,ntmps98
   go_wp2
   go_ret;exact⟨rfl,rfl⟩
 ·have d1:decide (0<=x)=false:=yH h1;rw[yH (fun h=>h1 h.1:¬ (0<=x/\x<m))]
  go_enter func98,ntmps98
  go_wp2
  go_ret;exact⟨rfl,rfl⟩
theorem WZ(a:OA)(n c:Nat)(k:Int)(w:Wd)(hn:n<=1000) :
  yO 99 #[.slice a n c,.int .i64 k] w fun e w' => e=.returned (.bool (decide (0<=k/\k<=(n:Int)-1)))/\w' = w:=by
 obtain⟨Q,D⟩:∃ Q:Int,(n:Int)-1=Q:=⟨_,rfl⟩;have F:IntKind.i64.wrap ((n:Int)-1)=Q:=by rw[yK,<- D];omega
 have hw:=fun W=>gU k 0 Q W;rw[D];clear D;generalize decide (0<=k/\k<=Q)=r at hw |-;have E:Hid _:=hw;clear hw
 go_enter func99,ntmps99
 go_wp2_with (go_at_call 66;refine(E _).mono ?_;rintro e w' ⟨rfl,rfl⟩)
 go_ret;exact⟨rfl,rfl⟩
theorem XC(k:Int)(w:Wd) :
  yO 100 #[.int .i64 k] w fun e w' => e=.returned (.bool (decide (0<=k/\k<=1000)))/\w' = w:=by
 have hw:=fun W=>gU k 0 1000 W;generalize decide (0<=k/\k<=1000)=r at hw |-;have D:Hid _:=hw;clear hw
 go_enter func100,ntmps100
 go_wp2_with (go_at_call 66;refine(D _).mono ?_;rintro e w' ⟨rfl,rfl⟩)
 go_ret;exact⟨rfl,rfl⟩
def zK(l:Nat)(s:Bool)(G:Int):Int:=if 16<l\/(0<l/\s=true) then 1 else G
theorem Rp(x:Pt)(ca:OA)(cc:Nat)(w:Wd)(b2:x.cm.length<=9223372036854775807)(hB:mK x.cm)(hg:jD w ca x.cm) :
  yO 101 #[.agg #[.int .i64 x.o,.int .i64 x.t,.int .i64 x.m,.slice ca x.cm.length cc,.bool x.s]] w fun e w' => e=.returned (.int .i64 (zK x.cm.length x.s (fM x.cm)))/\Below w.heap.size w w' := by
 have HG:Hid (jD w ca x.cm):=hg;have BG:Hid (mK x.cm):=hB;have GS:Hid (∀ j,j<x.cm.length->fM (x.cm.drop j)=if bF (gr x.cm j)=0 then fM (x.cm.drop (j+1)) else bF (gr x.cm j)):=fun j hj=>Mk hj;have GN:Hid (fM (x.cm.drop x.cm.length)=0):=Mm _;have T:Hid (fM (x.cm.drop 0)=fM x.cm):=by show fM _=_;rw[List.drop_zero]
 clear hg hB;obtain⟨xo,xt,xm,C,xs⟩:=x;dsimp only at *;obtain⟨cl,F⟩:∃ z,C.length=z:=⟨_,rfl⟩;have HC:Hid (C.length=cl):=F;rw[F] at b2 GS GN |-;clear F;unfold zK;by_cases b4:16<cl
 ·rw[ye (Or.inl b4)];have g1:decide ((16:Int)<(cl:Int))=true:=yI oaa;clear HG BG GS GN T
  go_enter func101,ntmps101
  go_wp2_with fail
  go_ret;exact⟨rfl,aB _ _⟩
 ·have g1:decide ((16:Int)<(cl:Int))=false:=yH oaa
  have I:Hid (∀ (O:Int),fM C=O->(cl=0\/xs=false)->yO 101 #[.agg #[.int .i64 xo,.int .i64 xt,.int .i64 xm,.slice ca cl cc,.bool xs]] w fun e w' => e=.returned (.int .i64 O)/\Below w.heap.size w w'):=fun O b0 a6=>by
   rw[b0] at T;clear b0;by_cases h0:0<cl
   ·have b5:xs=false:=by rcases a6 with h|h;omega;exact h
    subst b5;have g2:decide ((0:Int)<(cl:Int))=true:=yI oaa;clear a6
    go_enter func101,ntmps101
    go_wp2_with fail
    go_loopg [23] cl (fun g s23 wr=>∃ j:Nat,j<=cl/\cl-j<=g/\s23=.int .i64 j/\Hid (Bl w wr)/\Hid (fM (C.drop j)=O))
    case atStart=>exact⟨0,oaa,oaa,rfl,aB _ _,T⟩
    case round =>
     obtain⟨j,hj,b9,rfl,D,J⟩:=hrel;clear T;by_cases a5:j<cl
     ·have b6:(j:Int)<(cl:Int):=oaa;obtain⟨b,o,ga,gc,ea,c0,F⟩:=(HG.below D) j (by rw[HC.out];exact a5);subst ea;have b8:b<wr.heap.size:=yi _ _ c0;obtain⟨b3,a9⟩:=BG.out j (by rw[HC.out];exact a5);have D1:Hid (∀ o1:Obj,_):=fun o1=>CE ga gc (gr C j) (wr.alloc o1) b3 a9 (F.below (aB _ _));have a8:=(GS j a5).symm.trans J;have M:Hid _:=a8;clear F a9 a8 J;generalize gr C j=G at *;generalize bF G=E at *;generalize G.length=gl at *
      go_wp2_with fail
      refine yj (D1 _) ?_;rintro e w1 ⟨rfl,b1⟩;have a7:Hid (Bl w w1):=D.trans (((aB _ _).trans (b1.mono oac)).mono D.size);clear b1 D1;by_cases hE:E=0
      ·have U:Hid (fM (C.drop (j+1))=O):=(by have:=M.out;rw[ye hE] at this;exact this);subst hE;clear M
       go_wp2_with fail
       go_roundg (cl-(j+1))
       case measure=>omega
       case rel=>exact⟨j+1,oaa,oaa,by go_num,a7,U⟩
      ·have U:Hid (E=O):=(by have:=M.out;rw[yd hE] at this;exact this);have y1:decide (E=0)=false:=yH hE;have y2:(E == 0)=false:=(by simp[hE]);clear M
       go_wp2_with fail
       go_ret;exact⟨by rw[U.out];rfl,a7.out⟩
     ·have e:j=cl:=oaa;have Z:Hid (0=O):=(by have:=J.out;rw[e,GN.out] at this;exact this);have b7:decide ((j:Int)<(cl:Int))=false:=yH oaa;clear J e
      go_wp2_with fail
      go_ret;exact⟨by rw[Z.out];rfl,D.out⟩
   ·have hz:cl=0:=oaa;subst hz;have Z:Hid (0=O):=(by have h1:=T.out;have h2:=GN.out;show _=_;rw[<- h1,<- h2]);clear a6 GS GN T HG BG
    go_enter func101,ntmps101
    go_wp2_with fail
    go_loopg [23] 0 (fun g s23 wr=>s23=.int .i64 0/\Hid (Bl w wr))
    case atStart=>exact⟨rfl,aB _ _⟩
    case round =>
     obtain⟨rfl,D⟩:=hrel
     go_wp2_with fail
     go_ret;exact⟨by rw[Z.out];rfl,D.out⟩
  by_cases h0:0<cl
  ·cases xs
   ·rw[yd (fun h=>by rcases h with h|h;omega;cases h.2)];exact I.out _ rfl (Or.inr rfl)
   ·rw[ye (Or.inr ⟨h0,rfl⟩)];have g2:decide ((0:Int)<(cl:Int))=true:=yI oaa;clear HG BG GS GN T I
    go_enter func101,ntmps101
    go_wp2_with fail
    go_ret;exact⟨rfl,aB _ _⟩
  ·rw[yd (fun h=>by rcases h with h|h;omega;omega)];exact I.out _ rfl (Or.inl oaa)
theorem XD(Fr o t:Int)(w:Wd) :
  yO 158 #[.int .i64 Fr,.int .i64 o,.int .i64 t] w fun e w' => e=.returned (.int .i64 (iI Fr o t))/\w' = w:=by
 have J:Hid (∀ W,_):=fun W=>WY o Fr W;have M:Hid (∀ W,_):=fun W=>XC t W;unfold iI;by_cases E:0<=o/\o<Fr
 ·rw[yI E] at J;rw[yd (yL E)];by_cases I:0<=t/\t<=1000
  ·rw[yI I] at M;rw[yd (yL I)];clear E I
   go_enter func158,ntmps158
   go_wp2_with fail
   refine yj (J _) ?_;rintro e w2 ⟨rfl,D⟩;subst D
   go_wp2_with fail
   refine yj (M _) ?_;rintro e w3 ⟨rfl,F⟩;subst F
   go_wp2_with fail
   go_ret;exact⟨rfl,rfl⟩
  ·rw[yH I] at M;rw[ye I];clear E I
   go_enter func158,ntmps158
   go_wp2_with fail
   refine yj (J _) ?_;rintro e w2 ⟨rfl,D⟩;subst D
   go_wp2_with fail
   refine yj (M _) ?_;rintro e w3 ⟨rfl,F⟩;subst F
   go_wp2_with fail
   go_ret;exact⟨rfl,rfl⟩
 ·rw[yH E] at J;rw[ye E];clear E
  go_enter func158,ntmps158
  go_wp2_with fail
  refine yj (J _) ?_;rintro e w2 ⟨rfl,D⟩;subst D
  go_wp2_with fail
  go_ret;exact⟨rfl,rfl⟩
