/-
  x
-/
import Derived.Test.YtcbcpomacdngmaaGreatA21
namespace Go.Proofs.YtcbcpomacdngmaaGreat
set_option maxRecDepth 100000
set_option maxHeartbeats 4000000
set_option linter.unusedVariables false
open Go.RowKit Go Tryz
def LX:Ml:=⟨0,[]⟩
def ml(q:List Ml)(i:Nat):Ml:=q.getD i LX
theorem VN{q:List Ml}{i:Nat}(h:i<q.length):ml q i=q[i]:=aJ q LX h
def gX(w:Wd)(a:OA)(q:List Ml):Prop :=
 ∀ i,i<q.length->∃ b o ga gc,a=some ⟨b,o,none⟩/\w.cell? ⟨b,o+i*2,none⟩=some (.int .i64 (ml q i).f)/\w.cell? ⟨b,o+i*2+1,none⟩=some (.slice ga (ml q i).g.length gc)/\aO w ga (ml q i).g
theorem gX.below{w w' : World}{a:OA}{q:List Ml}(h:gX w a q)(hb:Bl w w'):gX w' a q:=fun i hi=>by
 obtain⟨b,o,ga,gc,e,c0,c1,hc⟩:=h i hi;exact⟨b,o,ga,gc,e,aA c0 hb,aA c1 hb,hc.below hb⟩
def qu(Q:List (List Ml))(i:Nat):List Ml:=Q.getD i []
def qN(w:Wd)(a:OA)(Q:List (List Ml)):Prop :=
 ∀ i,i<Q.length->∃ b o qa qc,a=some ⟨b,o,none⟩/\w.cell? ⟨b,o+i,none⟩=some (.slice qa (qu Q i).length qc)/\SlA qa (qu Q i).length qc/\gX w qa (qu Q i)
theorem qN.below{w w' : World}{a:OA}{Q:List (List Ml)}(h:qN w a Q)(hb:Bl w w'):qN w' a Q:=fun i hi=>by
 obtain⟨b,o,qa,qc,e,c0,hs,D⟩:=h i hi;exact⟨b,o,qa,qc,e,aA c0 hb,hs,D.below hb⟩
def pg(P:List (List Ac))(i:Nat):List Ac:=P.getD i []
def lQ(w:Wd)(a:OA)(P:List (List Ac)):Prop :=
 ∀ i,i<P.length->∃ b o pa pc,a=some ⟨b,o,none⟩/\w.cell? ⟨b,o+i,none⟩=some (.slice pa (pg P i).length pc)/\dY w pa (pg P i)
theorem lQ.below{w w' : World}{a:OA}{P:List (List Ac)}(h:lQ w a P)(hb:Bl w w'):lQ w' a P:=fun i hi=>by
 obtain⟨b,o,qa,qc,e,c0,D⟩:=h i hi;exact⟨b,o,qa,qc,e,aA c0 hb,D.below hb⟩
def rl(R:List Rl)(i:Nat):Rl:=R.getD i dJ
def kR(w:Wd)(a:OA)(R:List Rl):Prop :=
 ∀ i,i<R.length->∃ b o A,a=some ⟨b,o,none⟩/\w.cell? ⟨b,o+i*4,none⟩=some (.slice (RA.a0 A) (rl R i).s.length A.c0)/\w.cell? ⟨b,o+i*4+1,none⟩=some (.slice A.a1 (rl R i).hs.length A.c1)/\w.cell? ⟨b,o+i*4+2,none⟩=some (.slice A.a2 (rl R i).i.length A.c2)/\w.cell? ⟨b,o+i*4+3,none⟩=some (.slice A.a3 (rl R i).t.length A.c3)/\aU w A (rl R i)
theorem kR.below{w w' : World}{a:OA}{R:List Rl}(h:kR w a R)(hb:Bl w w'):kR w' a R:=fun i hi=>by
 obtain⟨b,o,A,e,c0,c1,c2,c3,D⟩:=h i hi;exact⟨b,o,A,e,aA c0 hb,aA c1 hb,aA c2 hb,aA c3 hb,D.below hb⟩
structure WA where
 a0:OA
 a1:OA
 a2:OA
 a3:OA
 a4:OA
 c0:Nat
 c1:Nat
 c2:Nat
 c3:Nat
 c4:Nat
abbrev wlV(A:WA)(W:Wl):Value:=.agg #[.slice A.a0 W.fs.length A.c0,.slice A.a1 W.rs.length A.c1,.slice A.a2 W.ps.length A.c2,.slice A.a3 W.qs.length A.c3,.slice A.a4 W.pt.length A.c4]
structure gP (w:Wd) (A:WA) (W:Wl):Prop where
 fs:aS w A.a0 W.fs
 rs:kR w A.a1 W.rs
 ps:lQ w A.a2 W.ps
 qs:qN w A.a3 W.qs
 pt:cK w A.a4 W.pt
structure WlC (A:WA) (W:Wl):Prop where
 s0:SlA A.a0 W.fs.length A.c0
 s1:SlA A.a1 W.rs.length A.c1
 s2:SlA A.a2 W.ps.length A.c2
 s3:SlA A.a3 W.qs.length A.c3
 s4:SlA A.a4 W.pt.length A.c4
theorem gP.below{w w' : World}{A:WA}{W:Wl}(h:gP w A W)(hb:Bl w w'):gP w' A W:=⟨h.fs.below hb,h.rs.below hb,h.ps.below hb,h.qs.below hb,h.pt.below hb⟩
theorem jE:SlA none 0 0:=⟨fun _=>rfl,yr _,oaa⟩
theorem LY(w:Wd)(A:WA):gP w A vH:=⟨fun _ h=>absurd h (yB _),fun _ h=>absurd h (yB _),fun _ h=>absurd h (yB _),fun _ h=>absurd h (yB _),fun _ h=>absurd h (yB _)⟩
abbrev cO(X:Nat->Prop)(w:Wd)(A:WA)(W:Wl):Prop:=St X (fun w=>gP w A W) w
theorem Nc{w:Wd}{A:WA}{W:Wl}(h:gP w A W):cO (fun _=>False) w A W:=fun w' E=>by
 have D:gP { w' with os:=w.os,tape:=w.tape,output:=w.output } A W:=h.below ⟨rfl,rfl,rfl,E.size,fun b hb=>E.block b hb id⟩;exact⟨D.fs,D.rs,D.ps,D.qs,D.pt⟩
def kS(W:Wl):Prop:=W.fs.length<=9223372036854775807/\(W.rs.length<=9223372036854775807/\∀ i,i<W.rs.length->iG (rl W.rs i))/\(W.ps.length<=9223372036854775807/\∀ i,i<W.ps.length->(pg W.ps i).length<=9223372036854775807)/\(W.qs.length<=9223372036854775807/\∀ i,i<W.qs.length->(qu W.qs i).length<=9223372036854775807/\∀ j,j<(qu W.qs i).length->(ml (qu W.qs i) j).g.length<=9223372036854775807/\fK (ml (qu W.qs i) j).g)/\(W.pt.length<=9223372036854775807/\iH W.pt)
def pk(L:List (Int × Bool))(i:Nat):Int × Bool:=L.getD i (0,false)
def mO(w:Wd)(a:OA)(L:List (Int × Bool)):Prop :=
 ∀ i,i<L.length->∃ b o,a=some ⟨b,o,none⟩/\w.cell? ⟨b,o+i*2,none⟩=some (.int .i64 (pk L i).1)/\w.cell? ⟨b,o+i*2+1,none⟩=some (.bool (pk L i).2)
theorem mO.below{w w' : World}{a:OA}{L:List (Int × Bool)}(h:mO w a L)(hb:Bl w w'):mO w' a L:=fun i hi=>by
 obtain⟨b,o,e,c0,c1⟩:=h i hi;exact⟨b,o,e,aA c0 hb,aA c1 hb⟩
def kT(W:Wl)(L:List (Int × Bool)):Int:=if fZ W=0 then (if 120<L.length then 1 else 0) else fZ W
def jU(W:Wl)(L:List (Int × Bool)):Wl:=if kT W L=0 then L.foldl aT W else vH
def qO(W:Wl)(L:List (Int × Bool)):List Int:=if kT W L=0 then lK W L else []
def zB:Prop:=∀ (A:WA) (W:Wl) (w:Wd),kS W->WlC A W->gP w A W ->
 yO 10 #[wlV A W] w fun e w' => e=.returned (.int .i64 (fZ W))/\Below w.heap.size w w'
def zC:Prop:=∀ (X:Nat->Prop) (A:WA) (W:Wl) (k:Int) (s:Bool) (w:Wd),(∀ b,X b->b<w.heap.size)->kS W->WlC A W->cO X w A W ->
 yO 13 #[wlV A W,.agg #[.int .i64 k,.bool s]] w fun e w' => ∃ B:WA,e=.returned (.tuple #[wlV B (cB W k s),.int .i64 (bT W k s)])/\Below w.heap.size w w' /\ WlC B (cB W k s)/\cO X w' B (cB W k s)
def EJ:Prop:=∀ (X:Nat->Prop) (A:WA) (W:Wl) (D:OA) (E:Nat) (L:List (Int × Bool)) (w:Wd),(∀ b,X b->b<w.heap.size)->kS W->WlC A W->cO X w A W->L.length<=9223372036854775807->SlA D L.length E->mO w D L ->
 yO 20 #[wlV A W,.slice D L.length E] w fun e w' => ∃ (B:WA) (sa:OA) (sc:Nat),e=.returned (.tuple #[wlV B (jU W L),.slice sa (qO W L).length sc,.int .i64 (kT W L)])/\Below w.heap.size w w' /\ WlC B (jU W L)/\cO X w' B (jU W L)/\St X (fun w=>aG w sa (qO W L)) w'
def tW:Wl:=⟨[⟨-1,0,7,0,false⟩,⟨0,1,1,0,false⟩],[bB 2,bB 2],[[⟨1,0,0,0,1⟩,⟨5,0,0,0,7⟩,⟨10,1,0,0,1⟩,⟨9,0,0,0,0⟩],[⟨1,0,0,0,0⟩,⟨11,0,0,0,1⟩,⟨6,0,0,0,0⟩,⟨12,0,0,0,0⟩,⟨10,0,0,0,0⟩]],[[],[]],[]⟩
def tL:List (Int × Bool):=[(0,true),(1,false),(1,false)]
theorem Nf:kT tW tL=0/\qO tW tL=[0,0,8]/\(rl (jU tW tL).rs 0).t=[0,0,0,1]/\(rl (jU tW tL).rs 1).t=[0,0,7,-7,-7]/\(jU tW tL).rs.length=2:=oae
theorem VO{p q:Nat->Bool}:∀ {l:List Nat},(∀ x ∈ l,q x=true->p x=true)->l.countP q<=l.countP p
 | [],_=>yr _
 | x :: l,h=>by
  have F:=VO (l:=l) (fun y E=>h y (List.mem_cons_of_mem _ E));have D:=h x (List.mem_cons_self ..);rw[List.countP_cons,List.countP_cons]
  cases hq:q x with
  | true=>rw[D hq];simp;exact F
  | false=>simp;omega
theorem VQ{p q:Nat->Bool}:∀ {l:List Nat},(∀ x ∈ l,q x=true->p x=true)->(∃ x ∈ l,p x=true/\q x=false)->l.countP q<l.countP p
 | [],_,⟨_,h,_⟩=>oah
 | x :: l,h,⟨y,D,h1,E⟩=>by
  have hl:=fun z I=>h z (List.mem_cons_of_mem x I);have F:=h x (List.mem_cons_self ..);rw[List.countP_cons,List.countP_cons];rcases List.mem_cons.1 D with e|D
  ·subst e;have:=VO (l:=l) hl;rw[h1,E];simp;omega
  ·have:=VQ (l:=l) hl ⟨y,D,h1,E⟩
   cases hq:q x with
   | true=>rw[F hq];simp;exact this
   | false=>simp;omega
section
variable {P:Program} {ops:Array Oper} {Q:Exit->Act->World->Prop} {md:Region.Mode}
def EM(ops:Array Oper)(listed:Array Bool):Nat:=(List.range ops.size).countP fun i=>!listed.getD i true
theorem VR{listed:Array Bool}{i:Nat}(hi:i ∈ Region.ready md ops listed):EM ops (listed.setIfInBounds i true)<EM ops listed:=by
 have h:=hi;unfold Region.ready at h;rw[List.mem_filter,Bool.and_eq_true] at h;obtain⟨I,E,_⟩:=h;refine VQ (fun x _ F=>?_) ⟨i,I,E,?_⟩
 ·by_cases e:x=i
  ·subst e;exact E
  ·have:(listed.setIfInBounds i true).getD x true=listed.getD x true:=by
    simp only[Array.getD_eq_getD_getElem?];rw[Array.getElem?_setIfInBounds_ne oaa]
   rw[this] at F;exact F
 ·have hl:i<listed.size:=by
   rcases Nat.lt_or_ge i listed.size with D|D
   ·exact D
   ·simp[Array.getElem?_eq_none D] at E
  simp[hl]
theorem VS(I:Array Bool->Act->World->Prop)
  (E:∀ listed a w i,I listed a w->i ∈ Region.ready md ops listed->wpOp P ops Q i (I (listed.setIfInBounds i true)) a w)
  (D:∀ listed a w,I listed a w->Region.ready md ops listed=[]->Q .normal a w) :
  ∀ (fuel:Nat) (listed:Array Bool) (a:Act) (w:Wd),EM ops listed<=fuel->I listed a w->wpAny P md ops Q fuel listed a w
 | 0,listed,a,w,O,F=>by
  have h0:Region.ready md ops listed=[]:=by
   cases h:Region.ready md ops listed with
   | nil=>rfl
   | cons i l =>
    have:=VR (md:=md) (ops:=ops) (listed:=listed) (i:=i) (by rw[h];exact List.mem_cons_self ..);omega
  exact⟨h0,D _ _ _ F h0⟩
 | fuel+1,listed,a,w,O,F=>⟨fun h=>D _ _ _ F h,fun i hi=>wpOp_mono (fun J w' M=>VS I E D fuel _ J w' (by have:=VR (md:=md) hi;omega) M) (E _ _ _ _ F hi)⟩
theorem Ng{id:Nat}{a:Act}{w:Wd}(I:Array Bool->Act->World->Prop)(F:P.follows .mixedOrders=true)(h0:I (Array.replicate ops.size false) a { w with drawn:=w.drawn+1 })
  (E:∀ listed a w i,I listed a w->i ∈ Region.ready .any ops listed->wpOp P ops Q i (I (listed.setIfInBounds i true)) a w)
  (D:∀ listed a w,I listed a w->Region.ready .any ops listed=[]->Q .normal a w):(Code.region id ops true).wp P Q a w :=
 wp_region_any F (VS I E D _ _ _ _ (by unfold EM;exact yJ List.countP_le_length oac) h0)
theorem Nh{listed:Array Bool}{i:Nat}(h:i ∈ Region.ready md ops listed):i<ops.size/\listed.getD i true=false/\∃ o,ops[i]?=some o/\(o.after.all fun e=>!Region.binds md e || listed.getD e.on false)=true:=by
 unfold Region.ready at h;rw[List.mem_filter,Bool.and_eq_true] at h;obtain⟨h1,D,E⟩:=h;rw[List.mem_range] at h1;refine⟨h1,by simpa using D,ops[i],by simp[h1],?_⟩;simpa [h1] using E
theorem Ni{listed:Array Bool}{j:Nat}(h:listed.getD j false=true):listed.getD j true=true:=by
 rw[Array.getD_eq_getD_getElem?] at h |-
 cases hj:listed[j]? with
 | none=>rw[hj] at h;cases h
 | some b=>rw[hj] at h;exact h
theorem bK{o:Oper}{listed:Array Bool}{j:Nat}{g:Ground}(h:(o.after.all fun e=>!Region.binds md e || listed.getD e.on false)=true)(D:(⟨j,g⟩:Edge) ∈ o.after)(hb:Region.binds md ⟨j,g⟩=true):listed.getD j true=true:=by
 rw[Array.all_eq_true_iff_forall_mem] at h;have:=h _ D;rw[hb] at this;exact Ni (by simpa using this)
theorem gB{listed:Array Bool}{i j:Nat}(h:(listed.setIfInBounds i true).getD j true=true)(D:j≠i):listed.getD j true=true:=by
 rw[Array.getD_eq_getD_getElem?] at h |-
 rwa [Array.getElem?_setIfInBounds_ne (Ne.symm D)] at h
theorem gD{listed:Array Bool}{i:Nat}{o:Oper}(h:Region.ready md ops listed=[])(D:ops[i]?=some o)(hd:(o.after.all fun e=>!Region.binds md e || listed.getD e.on false)=true):listed.getD i true=true:=by
 have hi:i<ops.size:=(Array.getElem?_eq_some_iff.1 D).1;by_cases hl:listed.getD i true=true
 ·exact hl
 ·have:i ∈ Region.ready md ops listed:=by
   unfold Region.ready;rw[List.mem_filter,Bool.and_eq_true,List.mem_range];refine⟨hi,by simpa using hl,?_⟩;rw[D];exact hd
  rw[h] at this;cases this
theorem gQ{i:Nat}{K:Act->World->Prop}{a:Act}{w w' : World}{o:Oper}{v:Value}(E:ops[i]?=some o)(hg:o.guard=none)(F:(execOp a.eval o).run P w=.ok (.value v) w')(D:K (a.put o.dst v) w'):wpOp P ops Q i K a w:=by
 unfold wpOp;rw[E];dsimp only;have hw:Region.wanted o (yielded ops a.tmps)=true:=by unfold Region.wanted;rw[hg]
 rw[ye hw];left;unfold Oper.wp;rw[F];exact D
end
theorem WB{L M:List Fr}(hl:M.length=L.length)(D:∀ j,j<L.length->(fr M j).p=(fr L j).p)(top:Int):∀ (n:Nat) (k:Int),eZ M n k top=eZ L n k top
 | 0,_=>rfl
 | n+1,k=>by
  rw[eZ,eZ,hl];by_cases h:0<=k/\k<L.length
  ·rw[ye h,ye h,D k.toNat oaa,WB hl D top n]
  ·rw[yd h,yd h]
theorem Oa{L M:List Fr}(hl:M.length=L.length)(D:∀ j,j<L.length->(fr M j).p=(fr L j).p)(k top:Int):inF M k top=inF L k top:=by
 unfold inF;rw[hl];exact WB hl D top _ _
structure Aft (k:Nat) (W V:Wl):Prop where
 len:V.fs.length=W.fs.length
 par:∀ j,j<W.fs.length->(fr V.fs j).p=(fr W.fs j).p
 may:∀ j,j<W.fs.length->(fr V.fs j).m=(fr W.fs j).m
 gone:∀ j,j<W.fs.length->(fr W.fs j).g=true->(fr V.fs j).g=true
 turn:∀ j,j<W.fs.length->(fr W.fs j).t<=(fr V.fs j).t
 org:∀ j,j<W.fs.length->(fr V.fs j).t=(fr W.fs j).t->(fr V.fs j).o=(fr W.fs j).o
 moved:∀ j,j<W.fs.length->(fr V.fs j).t≠(fr W.fs j).t->j≠k/\inF W.fs j k=true/\prg V j=[]/\rlm V j=bB (rlm W j).s.length
 realm:∀ j,j<W.fs.length->(fr V.fs j).t=(fr W.fs j).t->j≠k->rlm V j=rlm W j
 prog:∀ j,j<W.fs.length->(fr V.fs j).t=(fr W.fs j).t->prg V j=prg W j
 que:∀ j,j<W.fs.length->(fr V.fs j).t=(fr W.fs j).t->∃ ex,que V j=que W j++ex/\∀ m ∈ ex,m.f=k/\bits .and .i64 (fr W.fs k).m 2≠0
theorem Aft.refl(k:Nat)(W:Wl):Aft k W W :=
 ⟨rfl,fun _ _=>rfl,fun _ _=>rfl,fun _ _ h=>h,fun _ _=>Int.le_refl _,fun _ _ _=>rfl,fun _ _ h=>absurd rfl h,fun _ _ _ _=>rfl,fun _ _ _=>rfl,fun _ _ _=>⟨[],oac,fun m D=>by cases D⟩⟩
theorem Ob{n:Nat}(h:n<=24):(bB n).s.length=n/\(bB n).t=[]:=by
 rw[(LG n h).2];exact⟨oac,rfl⟩
theorem Aft.trans{k:Nat}{W V U:Wl}(H:aI W)(h:Aft k W V)(g:Aft k V U)(hk:k<W.fs.length):Aft k W U:=by
 have cv:∀ j,j<W.fs.length->j<V.fs.length:=fun j D=>by rw[h.len];exact D
 have two:∀ j,j<W.fs.length->(fr U.fs j).t=(fr W.fs j).t->(fr V.fs j).t=(fr W.fs j).t/\(fr U.fs j).t=(fr V.fs j).t:=fun j D e=>by
  have a:=h.turn j D;have b:=g.turn j (cv j D);exact⟨oaa,oaa⟩
 refine⟨g.len.trans h.len,fun j D=>(g.par j (cv j D)).trans (h.par j D),fun j D=>(g.may j (cv j D)).trans (h.may j D),fun j D hg=>g.gone j (cv j D) (h.gone j D hg),fun j D=>Int.le_trans (h.turn j D) (g.turn j (cv j D)),fun j D e=>by
  obtain⟨I,E⟩:=two j D e;exact(g.org j (cv j D) E).trans (h.org j D I),fun j D F=>?_,fun j D e F=>?_,fun j D e=>?_,fun j D e=>?_⟩
 ·by_cases e:(fr U.fs j).t=(fr V.fs j).t
  ·obtain⟨M,O,T,Z⟩:=h.moved j D (fun E=>F (e.trans E));exact⟨M,O,(g.prog j (cv j D) e).trans T,by rw[g.realm j (cv j D) e M];exact Z⟩
  ·obtain⟨M,O,T,Z⟩:=g.moved j (cv j D) e;refine⟨M,by rw[<- Oa h.len h.par];exact O,T,?_⟩;rw[Z];by_cases e3:(fr V.fs j).t=(fr W.fs j).t
   ·rw[h.realm j D e3 M]
   ·rw[(h.moved j D e3).2.2.2,(Ob (gI (H.rs j D)).1.small).1]
 ·obtain⟨I,E⟩:=two j D e;exact(g.realm j (cv j D) E F).trans (h.realm j D I F)
 ·obtain⟨I,E⟩:=two j D e;exact(g.prog j (cv j D) E).trans (h.prog j D I)
 ·obtain⟨I,E⟩:=two j D e;obtain⟨x1,q1,p1⟩:=h.que j D I;obtain⟨x2,q2,p2⟩:=g.que j (cv j D) E;refine⟨x1++x2,by rw[q2,q1,List.append_assoc],fun m J=>?_⟩;rcases List.mem_append.1 J with J|J
  ·exact p1 m J
  ·have:=p2 m J
   rwa [h.may k hk] at this
theorem Aft.setR{k:Nat}{W:Wl}{R:Rl}(E:k<W.rs.length):Aft k W (setR W k R) :=
 ⟨rfl,fun _ _=>rfl,fun _ _=>rfl,fun _ _ h=>h,fun _ _=>Int.le_refl _,fun _ _ _=>rfl,fun _ _ h=>absurd rfl h,fun j _ _ D=>by rw[gW E,yd D],fun _ _ _=>rfl,fun _ _ _=>⟨[],by simp[Go.Proofs.YtcbcpomacdngmaaGreat.que,Go.Proofs.YtcbcpomacdngmaaGreat.setR],fun m F=>by cases F⟩⟩
theorem Aft.ports{k:Nat}{W V:Wl}(h:Aft k W V)(P:List Pt):Aft k W { V with pt:=P }:=⟨h.len,h.par,h.may,h.gone,h.turn,h.org,h.moved,h.realm,h.prog,h.que⟩
theorem Oc{m:Int}(h0:0<=m)(D:m<=7)(h:bits .andNot .i64 2 m=0):bits .and .i64 m 2≠0:=UO (P:=fun a=>bits .andNot .i64 2 a=0->bits .and .i64 a 2≠0) (by decide +kernel) h0 D h
theorem Od{W:Wl}(k:Nat)(n:Int):Aft k W { W with fs:=fV W.fs n }:=by
 have e:∀ j,j<W.fs.length->fr (fV W.fs n) j={ fr W.fs j with g:=(fr W.fs j).g || inF W.fs j n }:=fun j D=>vD D;refine⟨mH _ _,fun j D=>?_,fun j D=>?_,fun j D hg=>?_,fun j D=>?_,fun j D _=>(by show (fr (fV W.fs n) j).o=_;rw[e j D]),fun j D E=>?_,fun _ _ _ _=>rfl,fun _ _ _=>rfl,fun _ _ _=>⟨[],by simp[Go.Proofs.YtcbcpomacdngmaaGreat.que],fun m F=>by cases F⟩⟩
 ·show (fr (fV W.fs n) j).p=_;rw[e j D]
 ·show (fr (fV W.fs n) j).m=_;rw[e j D]
 ·show (fr (fV W.fs n) j).g=true;rw[e j D];dsimp only;rw[hg];rfl
 ·show _<=(fr (fV W.fs n) j).t;rw[e j D];exact Int.le_refl _
 ·exact absurd (by show (fr (fV W.fs n) j).t=_;rw[e j D]) E
theorem Oe{W:Wl}(H:aI W){k:Nat}(I:k<W.fs.length){a:Int}(h:bG W.fs k a 3=0)(g:List Cl) :
  Aft k W { W with qs:=W.qs.set a.toNat (que W a.toNat++[⟨k,g⟩]) }:=by
 obtain⟨_,_,F,h5⟩:=kP h;obtain⟨q,rfl,E,_⟩:=iV F;rw[yk];refine⟨rfl,fun _ _=>rfl,fun _ _=>rfl,fun _ _ h=>h,fun _ _=>Int.le_refl _,fun _ _ _=>rfl,fun _ _ h=>absurd rfl h,fun _ _ _ _=>rfl,fun _ _ _=>rfl,fun j J _=>?_⟩;by_cases e:j=q
 ·subst e;refine⟨[⟨k,g⟩],?_,fun m D=>?_⟩
  ·show (W.qs.set j _).getD j []=_;rw[dE _ _ _ _ _ (by rw[H.lq];exact E),ye rfl]
  ·have:m=⟨k,g⟩:=(by simpa using D);subst this;refine⟨rfl,?_⟩;unfold mI at h5;rw[yd oae,yd oae,ye rfl] at h5;have D:=H.fs.may I;rw[yk] at h5;exact Oc D.1 D.2 (of_decide_eq_true h5)
 ·refine⟨[],?_,fun m D=>by cases D⟩;show (W.qs.set q _).getD j []=_;rw[dE _ _ _ _ _ (by rw[H.lq];exact E),yd e,List.append_nil];rfl
theorem Og{W:Wl}(H:aI W){k:Nat}{n a:Int}(h:bG W.fs k n 5=0)(U:goE W.fs n a=0) :
  Aft k W { fs:=goF W.fs n a,rs:=W.rs.set n.toNat (bB (rlm W n.toNat).s.length),ps:=W.ps.set n.toNat [],qs:=W.qs.set n.toNat [],pt:=W.pt }:=by
 obtain⟨_,_,O,h5⟩:=kP h;obtain⟨q,rfl,F,_⟩:=iV O;rw[yk]
 have J:q≠k/\inF W.fs q k=true:=by
  unfold mI at h5;rw[yd oae,yd oae,yd oae] at h5;simp only[Bool.and_eq_true,Bool.not_eq_true', decide_eq_false_iff_not] at h5;exact⟨fun e=>h5.1 (by rw[e]),h5.2⟩
 have I:∀ j,j<W.fs.length->(fr (goF W.fs q a) j).t=if j=q then (fr W.fs j).t+1 else (fr W.fs j).t:=fun j D=>by
  by_cases e:j=q
  ·subst e;rw[qL D,ye rfl]
  ·rw[nW D e,yd e]
 have only:∀ j,j<W.fs.length->(fr (goF W.fs q a) j).t=(fr W.fs j).t->j≠q:=fun j D e M=>by
  rw[I j D,ye M] at e;omega
 refine⟨nV _ _ _,fun j D=>KW D,fun j D=>EB D,fun j D hg=>?_,fun j D=>?_,fun j D e=>(by show (fr (goF W.fs q a) j).o=_;rw[nW D (only j D e)]),fun j D E=>?_,fun j D e E=>?_,fun j D e=>?_,fun j D e=>?_⟩
 ·show (fr (goF W.fs q a) j).g=true;by_cases e:j=q
  ·subst e;rw[qL D];exact hg
  ·rw[nW D e];dsimp only;rw[hg];rfl
 ·show _<=(fr (goF W.fs q a) j).t;rw[I j D]
  split <;> omega
 ·have e:j=q:=by
   refine Classical.byContradiction fun e=>E ?_;show (fr (goF W.fs q a) j).t=_;rw[I j D,yd e]
  subst e;refine⟨J.1,J.2,?_,?_⟩
  ·show (W.ps.set j []).getD j []=[];rw[dE _ _ _ _ _ (by rw[H.lp];exact F),ye rfl]
  ·show (W.rs.set j _).getD j dJ=_;rw[dE _ _ _ _ _ (by rw[H.lr];exact F),ye rfl]
 ·show (W.rs.set q _).getD j dJ=_;rw[dE _ _ _ _ _ (by rw[H.lr];exact F),yd (only j D e)];rfl
 ·show (W.ps.set q _).getD j []=_;rw[dE _ _ _ _ _ (by rw[H.lp];exact F),yd (only j D e)];rfl
 ·refine⟨[],?_,fun m T=>by cases T⟩;show (W.qs.set q _).getD j []=_;rw[dE _ _ _ _ _ (by rw[H.lq];exact F),yd (only j D e),List.append_nil];rfl
theorem nE{k:Nat}{Es:List Int}{W V:Wl}{o:Int}(E:aQ Es=0->Aft k W V):Aft k W (bP Es W V o).w:=by
 rcases yX (Es:=Es) (W:=W) (V:=V) (o:=o) with h |⟨h,D⟩
 ·rw[h];exact Aft.refl k W
 ·rw[D];exact E h
theorem Oh{W:Wl}(H:aI W){k:Nat}(D:k<W.fs.length)(x:Ac):Aft k W (bD W k x).w:=by
 have E:k<W.rs.length:=by rw[H.lr];exact D
 unfold bD
 repeat' split
 ·exact nE (fun _=>Aft.refl k W)
 ·exact nE (fun _=>Od k _)
 ·exact nE (fun _=>Aft.refl k W)
 ·exact nE (fun h=>Oe H D (bM h).1 _)
 ·exact nE (fun h=>Og H (bM h).1 (bM (bM h).2).1)
 ·exact nE (fun h=>(Aft.refl k W).ports _)
 ·exact nE (fun h=>(Aft.refl k W).ports _)
 ·exact nE (fun h=>(Aft.refl k W).ports _)
 ·exact nE (fun h=>(Aft.setR E).ports _)
 ·exact nE (fun h=>(Aft.refl k W).ports _)
 ·exact nE (fun h=>Aft.setR E)
theorem nG{k:Nat}{Es:List Int}{W V:Wl}{o:Int}(E:aQ Es=0->(rlm V k).t=(rlm W k).t):(rlm (bP Es W V o).w k).t=(rlm W k).t:=by
 rcases yX (Es:=Es) (W:=W) (V:=V) (o:=o) with h |⟨h,D⟩
 ·rw[h]
 ·rw[D];exact E h
theorem WC{W:Wl}{k:Nat}{n a:Int}(h:bG W.fs k n 5=0)(R:Rl):(W.rs.set n.toNat R).getD k dJ=rlm W k:=by
 obtain⟨_,_,D,h5⟩:=kP h;obtain⟨q,rfl,E,_⟩:=iV D;rw[yk];unfold mI at h5;rw[yd oae,yd oae,yd oae] at h5;simp only[Bool.and_eq_true,Bool.not_eq_true', decide_eq_false_iff_not] at h5;exact CS _ _ _ _ _ (fun e=>h5.1 (by rw[e]))
theorem MF{W:Wl}(H:aI W){k:Nat}(E:k<W.fs.length)(x:Ac):(rlm (bD W k x).w k).t=(rlm W k).t:=by
 have D:k<W.rs.length:=by rw[H.lr];exact E
 unfold bD
 repeat' split
 ·exact nG (fun _=>rfl)
 ·exact nG (fun _=>rfl)
 ·exact nG (fun _=>rfl)
 ·exact nG (fun _=>rfl)
 ·exact nG (fun h=>by
   show ((W.rs.set _ _).getD k dJ).t=_;rw[WC (a:=x.a) (bM h).1])
 ·exact nG (fun _=>rfl)
 ·exact nG (fun _=>rfl)
 ·exact nG (fun _=>rfl)
 ·exact nG (fun _=>by
   show (rlm (setR W k _) k).t=_;rw[gW D,ye rfl])
 ·exact nG (fun _=>rfl)
 ·exact nG (fun h=>by
   rw[gW D,ye rfl];exact(xS (bM h).1).2.1.tld)
theorem MH{W:Wl}{k:Nat}(D:k<W.rs.length)(o:Int):rlm (mZ W k o) k={ rlm W k with t:=(rlm W k).t++[o] }:=by
 unfold mZ;rw[gW D,ye rfl]
theorem WE{W:Wl}(H:aI W){k:Nat}(D:k<W.fs.length)(o:Int)(E:(rlm W k).t.length+1<=4800):aI (mZ W k o):=by
 obtain⟨r1,r2,r3,F⟩:=gI (H.rs k D);exact H.setR (rW r1 r2 r3 (by show ((rlm W k).t++[o]).length<=4800;rw[List.length_append];simpa using E)) D
theorem MI{W:Wl}(H:aI W){k:Nat}(D:k<W.fs.length)(x:Ac)(M:(rlm W k).t.length+1<=4800) :
  aI (doW k W x)/\Aft k W (doW k W x)/\(rlm (doW k W x) k).t=(rlm W k).t++[toldOf (bD W k x)]:=by
 have H1:=VZ H D x;have J:=Oh H D x;have E:k<(bD W k x).w.fs.length:=by rw[ME];exact D
 have I:=MF H D x;have F:k<(bD W k x).w.rs.length:=by rw[H1.lr];exact E
 refine⟨WE H1 E _ (by rw[I];exact M),Aft.trans H J (Aft.setR F) D,?_⟩;show (rlm (mZ _ _ _) k).t=_;rw[MH F];dsimp only;rw[I]
theorem MJ{k:Nat}:∀ (D:List Ac) {W:Wl},aI W->k<W.fs.length->(rlm W k).t.length+D.length<=4800 ->
  aI (D.foldl (doW k) W)/\Aft k W (D.foldl (doW k) W)/\(rlm (D.foldl (doW k) W) k).t.length=(rlm W k).t.length+D.length
 | [],W,H,E,_=>⟨H,Aft.refl k W,rfl⟩
 | x :: D,W,H,E,J=>by
  have I:(rlm W k).t.length+1<=4800:=by simp at J;omega
  obtain⟨a,b,c⟩:=MI H E x I;have F:k<(doW k W x).fs.length:=by rw[b.len];exact E
  have hl:(rlm (doW k W x) k).t.length=(rlm W k).t.length+1:=by rw[c,List.length_append];rfl
  obtain⟨a2,M,c2⟩:=MJ D a F (by rw[hl];simp at J;omega);refine⟨a2,Aft.trans H b M E,?_⟩;rw[List.foldl_cons,c2,hl,List.length_cons];omega
theorem pK(W:Wl)(k:Nat)(s:Bool):(bQ W k s).fs=W.fs:=by unfold bQ;split <;> rfl
theorem zG(W:Wl)(k:Nat)(s:Bool):(bQ W k s).ps=W.ps:=by unfold bQ;split <;> rfl
theorem vQ(W:Wl)(k:Nat)(s:Bool):(bQ W k s).pt=W.pt:=by unfold bQ;split <;> rfl
theorem EY{W:Wl}{k:Nat}(E:k<W.rs.length)(s:Bool){j:Nat}(D:j≠k):rlm (bQ W k s) j=rlm W j:=by
 unfold bQ;split
 ·rw[gW E,yd D]
 ·show rlm (setR W k _) j=_;rw[gW E,yd D]
theorem qP{W:Wl}{k:Nat}(D:k<W.rs.length)(s:Bool):rlm (bQ W k s) k={ rlm W k with i:=if s then [] else ((que W k).getD 0 ⟨0,[]⟩).g }:=by
 unfold bQ;split
 ·rw[gW D,ye rfl]
 ·show rlm (setR W k _) k=_;rw[gW D,ye rfl]
theorem EZ{W:Wl}{k:Nat}(D:k<W.qs.length)(s:Bool)(j:Nat):que (bQ W k s) j=if j=k/\s=false then (que W k).drop 1 else que W j:=by
 unfold bQ
 cases s with
 | true=>simp;rfl
 | false =>
  simp only[Bool.false_eq_true,if_false,and_true];show (W.qs.set k _).getD j []=_;rw[dE _ _ _ _ _ D];rfl
theorem zH{W:Wl}(H:aI W){k:Nat}(D:k<W.fs.length)(s:Bool)(J:s=false->(que W k).length≠0):aI (bQ W k s):=by
 obtain⟨r1,r2,r3,I⟩:=gI (H.rs k D);obtain⟨M,F⟩:=nA.1 (H.qs k D);unfold bQ;split
 ·exact H.setR (rW r1 r2 rfl I) D
 ·rename_i h
  have h0:0<(que W k).length:=by
   have:=J (by simpa using h);omega
  have E:=F ((que W k).getD 0 ⟨0,[]⟩) (by rw[aJ _ _ h0];exact List.getElem_mem h0);have H1:=H.setR (R:={ rlm W k with i:=((que W k).getD 0 ⟨0,[]⟩).g }) (rW r1 r2 E.2 I) D;exact aI.queue (q:=(que W k).drop 1) H1 D (nA.2 ⟨by rw[List.length_drop];omega,fun m E=>F m (List.mem_of_mem_drop E)⟩)
theorem zI{W:Wl}{k:Int}{s:Bool}(h:bT W k s=0):aI W/\∃ q:Nat,k=q/\q<W.fs.length/\(fr W.fs q).g=false/\bits .and .i64 (fr W.fs q).m 1≠0/\(rlm W q).t.length<=4760/\(s=false->(que W q).length≠0):=by
 unfold bT at h;obtain⟨h1,h⟩:=bM h;obtain⟨I,h⟩:=bM h;obtain⟨D,h⟩:=bM h;obtain⟨E,h⟩:=bM h;obtain⟨h5,_⟩:=bM h;obtain⟨q,rfl,J,hg⟩:=iV I;rw[yk] at D E h5;refine⟨pI.1 h1,q,rfl,J,hg,fun e=>?_,?_,fun e F=>?_⟩
 ·unfold kN at D;rw[ye e] at D;omega
 ·by_cases e:4760<(rlm W q).t.length
  ·rw[ye e] at E;omega
  ·omega
 ·rw[ye ⟨e,F⟩] at h5;omega
theorem FC{W:Wl}{q:Nat}{s:Bool}(h:bT W q s=0) :
  aI (cB W q s)/\Aft q (bQ W q s) (cB W q s)/\(rlm (cB W q s) q).t.length=(rlm W q).t.length+(prg W q).length/\(cB W q s).fs.length=W.fs.length:=by
 obtain⟨H,D,e,E,hg,U,ht,F⟩:=zI h;have:D=q:=oaa
 subst this;have T:D<W.rs.length:=by rw[H.lr];exact E
 have J:=zH H E s F;have O:D<(bQ W D s).fs.length:=by rw[pK];exact E
 have I:(rlm (bQ W D s) D).t.length=(rlm W D).t.length:=by rw[qP T]
 have Z:=H.ps D E
 have M:cB W D s=(prg W D).foldl (doW D) (bQ W D s):=by
  unfold cB;rw[ye h,yk]
 obtain⟨a,b,c⟩:=MJ (prg W D) J O (by rw[I];omega);rw[M];exact⟨a,b,by rw[c,I],by rw[b.len,pK]⟩
theorem FD{W:Wl}(H:aI W)(p:Int × Bool):aI (aT W p)/\(aT W p).fs.length=W.fs.length:=by
 unfold aT;by_cases h:bT W p.1 p.2=0
 ·rw[ye h];obtain⟨_,q,e,_⟩:=zI h;rw[e] at h |-;exact⟨(FC h).1,(FC h).2.2.2⟩
 ·rw[yd h];exact⟨H,rfl⟩
theorem WG:∀ (l:List (Int × Bool)) {W:Wl},aI W->aI (l.foldl aT W)/\(l.foldl aT W).fs.length=W.fs.length
 | [],W,H=>⟨H,rfl⟩
 | p :: l,W,H=>by
  obtain⟨a,b⟩:=FD H p;obtain⟨c,d⟩:=WG l a;exact⟨c,d.trans b⟩
theorem WH:∀ (l:List (Int × Bool)) (W:Wl),(lK W l).length=l.length
 | [],_=>rfl
 | p :: l,W=>by rw[lK,List.length_cons,List.length_cons,WH l]
theorem Ou(x y:Pt):x=y↔(x.o=y.o/\x.t=y.t/\x.m=y.m/\x.s=y.s/\x.cm=y.cm):=by
 constructor
 ·rintro rfl;exact⟨rfl,rfl,rfl,rfl,rfl⟩
 ·obtain⟨a,b,c,d,e⟩:=x;obtain⟨D,E,F,I,J⟩:=y;rintro⟨rfl,rfl,rfl,rfl,rfl⟩;rfl
theorem Ov:LP 52:=fun x y ka D kc E W J I h1 F=>TZ ka D kc E x y W J I h1 F
theorem Ow:LQ 91:=by
 intro x y ka a9 kc b0 W T hB h1 Z;have E:Hid (x=y↔(x.o=y.o/\x.t=y.t/\x.m=y.m/\x.s=y.s/\x.cm=y.cm)):=Ou x y;have d:=fun(o1 o2:Obj)=>Mi 52 (yM func52 oad rfl) Ov ka a9 kc b0 x.cm y.cm ((W.alloc o1).alloc o2) T hB (h1.below (aM _ _ _)) (Z.below (aM _ _ _));have D:Hid _:=d;clear h1 Z d hB;obtain⟨F,I,J,xc,M⟩:=x;obtain⟨yo,yt,ym,yc,U⟩:=y;dsimp only at E D |-;obtain⟨xl,a6⟩:∃ z,xc.length=z:=⟨_,rfl⟩;obtain⟨yl,a7⟩:∃ z,yc.length=z:=⟨_,rfl⟩;rw[a6,a7] at D;rw[a6,a7];clear a6 a7 T;by_cases h0:F=yo
 ·subst h0;by_cases h1:I=yt
  ·subst h1;by_cases Z:J=ym
   ·subst Z;by_cases hs:M=U
    ·subst hs;have a8:Hid ((⟨F,I,J,xc,M⟩:Pt)=⟨F,I,J,yc,M⟩↔xc=yc):=(by show _↔_;rw[E.out];simp);clear E
     go_enter func91,ntmps91
     go_wp2_with fail
     refine yj (D _ _) ?_;rintro e w1 ⟨r,rfl,hb,hr⟩;have HB:Hid (Bl W w1):=(aM _ _ _).trans (hb.mono oab);have O:Hid _:=hr.trans a8.symm;clear hb hr
     go_wp2_with fail
     go_ret;exact⟨r,rfl,HB.out,O.out⟩
    ·have O:Hid (¬ (⟨F,I,J,xc,M⟩:Pt)=⟨F,I,J,yc,U⟩):=fun h=>hs (E.out.1 h).2.2.2.1;have hd:decide (M=U)=false:=yH hs;have a5:(M == U)=false:=by cases M <;> cases U <;> simp_all
     clear E
     go_enter func91,ntmps91
     go_wp2_with fail
     go_ret;exact⟨false,rfl,aM _ _ _,⟨fun h=>oah,fun h=>absurd h O.out⟩⟩
   ·have O:Hid (¬ (⟨F,I,J,xc,M⟩:Pt)=⟨F,I,ym,yc,U⟩):=fun h=>Z (E.out.1 h).2.2.1;have hd:decide (J=ym)=false:=yH Z;have a5:(J == ym)=false:=(by simp[Z]);clear E
    go_enter func91,ntmps91
    go_wp2_with fail
    go_ret;exact⟨false,rfl,aM _ _ _,⟨fun h=>oah,fun h=>absurd h O.out⟩⟩
  ·have O:Hid (¬ (⟨F,I,J,xc,M⟩:Pt)=⟨F,yt,ym,yc,U⟩):=fun h=>h1 (E.out.1 h).2.1;have hd:decide (I=yt)=false:=yH h1;have a5:(I == yt)=false:=(by simp[h1]);clear E
   go_enter func91,ntmps91
   go_wp2_with fail
   go_ret;exact⟨false,rfl,aM _ _ _,⟨fun h=>oah,fun h=>absurd h O.out⟩⟩
 ·have O:Hid (¬ (⟨F,I,J,xc,M⟩:Pt)=⟨yo,yt,ym,yc,U⟩):=fun h=>h0 (E.out.1 h).1;have hd:decide (F=yo)=false:=yH h0;have a5:(F == yo)=false:=by simp[h0]
  clear E
  go_enter func91,ntmps91
  go_wp2_with fail
  go_ret;exact⟨false,rfl,aM _ _ _,⟨fun h=>oah,fun h=>absurd h O.out⟩⟩
theorem Ox(a E:OA)(c F:Nat)(S D:List Pt)(w:Wd)(U:S.length<=9223372036854775807)(J:iH S)(h1:cK w a S)(I:cK w E D) :
  yO 61 #[.slice a S.length c,.slice E D.length F] w fun e w' => ∃ r:Bool,e=.returned (.bool r)/\Below w.heap.size w w' /\(r=true↔S=D):=by
 have O:Hid _:=Mj 91 (yM func91 oad rfl) Ow a E c F S D w U J h1 I;clear h1 I J;generalize S.length=n at *;generalize D.length=Z at *
 go_enter func61,ntmps61
 go_wp2_with fail
 refine yj O.out ?_;rintro e w1 ⟨r,rfl,hb,M⟩;have T:Hid _:=M;clear M
 go_wp2_with fail
 go_ret;exact⟨r,rfl,hb,T.out⟩
theorem WQ{α:Type}{z:α}{A B:List α}(hl:A.length=B.length)(h:∀ i,i<A.length->A.getD i z=B.getD i z):A=B:=by
 refine List.ext_getElem hl fun i h1 D=>?_;have:=h i h1
 rwa [aJ _ _ h1,aJ _ _ D] at this
theorem Qh(a a' :OA)(c c' : Nat)(A B:List Fr)(w:Wd)(hN:A.length<=9223372036854775807)(h1:aS w a A)(h2:aS w a' B) :
  yO 26 #[.slice a A.length c,.slice a' B.length c'] w fun e w' => ∃ r:Bool,e=.returned (.bool r)/\Below w.heap.size w w' /\(r=true↔A=B):=by
 by_cases hl:A.length=B.length
 ·have E1:Hid ((∀ i,i<A.length->fr A i=fr B i)->A=B):=fun h=>WQ hl h;have E2:Hid (∀ i,fr A i≠fr B i->A≠B):=fun i h e=>h (by rw[e]);have H1:Hid (aS w a A):=h1;have H2:Hid (aS w a' B):=h2;have HL:Hid (B.length=A.length):=hl.symm;rw[<- hl];clear h1 h2 hl;obtain⟨n,hn⟩:∃ n,A.length=n:=⟨_,rfl⟩;have HN:Hid (A.length=n):=hn;rw[hn] at hN E1 HL |-;clear hn
  go_enter func26,ntmps26
  go_wp2
  go_loopg [13] n (fun g s13 wr=>∃ k:Nat,k<=n/\n-k<=g/\s13=.int .i64 k/\Below w.heap.size w wr/\Hid (∀ i,i<k->fr A i=fr B i))
  case atStart=>exact⟨0,oaa,oaa,rfl,yv _ _,fun i hi=>oaa⟩
  case round =>
   obtain⟨k,hk,hg,rfl,hb,AA⟩:=hrel;by_cases F:k<n
   ·have a5:(k:Int)<(n:Int):=oaa;obtain⟨b,o,rfl,c0,c1,c2,c3,c4⟩:=(H1.below hb) k (by rw[HN.out];exact F);obtain⟨b', o', rfl,e0,e1,e2,e3,e4⟩:=(H2.below hb) k (by rw[HL.out];exact F)
    have KK:Hid (fr A k=fr B k->∀ i,i<k+1->fr A i=fr B i):=fun h i hi=>by
     by_cases e:i=k
     ·subst e;exact h
     ·exact AA.out i oaa
    have E:Hid _:=E2.out k;generalize fr A k=x at *;generalize fr B k=y at *;obtain⟨x0,x1,x2,x3,x4⟩:=x;obtain⟨y0,y1,y2,y3,y4⟩:=y;dsimp only at c0 c1 c2 c3 c4 e0 e1 e2 e3 e4;by_cases J:x0=y0
    ·subst J;by_cases M:x1=y1
     ·subst M;by_cases O:x2=y2
      ·subst O;by_cases T:x3=y3
       ·subst T;by_cases U:x4=y4
        ·subst U
         go_wp2_with fail
         go_quiet (fail)
         go_wp2
         go_roundg (n-(k+1))
         case measure=>omega
         case rel=>exact⟨k+1,oaa,oaa,by go_num,dL hb _,KK.out trivial⟩
        ·have r2:(x4 == y4)=false:=beq_eq_false_iff_ne.2 U;have r3:decide (x4=y4)=false:=yH U;have D:Hid (A≠B):=E.out (fun h=>U (congrArg Fr.g h))
         go_wp2_with fail
         go_quiet (fail)
         go_wp2
         go_ret;exact⟨false,rfl,dL hb _,⟨fun h=>oah,fun h=>absurd h D.out⟩⟩
       ·have r2:(x3 == y3)=false:=beq_eq_false_iff_ne.2 T;have r3:decide (x3=y3)=false:=yH T;have D:Hid (A≠B):=E.out (fun h=>T (congrArg Fr.t h))
        go_wp2_with fail
        go_quiet (fail)
        go_wp2
        go_ret;exact⟨false,rfl,dL hb _,⟨fun h=>oah,fun h=>absurd h D.out⟩⟩
      ·have r2:(x2 == y2)=false:=beq_eq_false_iff_ne.2 O;have r3:decide (x2=y2)=false:=yH O;have D:Hid (A≠B):=E.out (fun h=>O (congrArg Fr.m h))
       go_wp2_with fail
       go_quiet (fail)
       go_wp2
       go_ret;exact⟨false,rfl,dL hb _,⟨fun h=>oah,fun h=>absurd h D.out⟩⟩
     ·have r2:(x1 == y1)=false:=beq_eq_false_iff_ne.2 M;have r3:decide (x1=y1)=false:=yH M;have D:Hid (A≠B):=E.out (fun h=>M (congrArg Fr.o h))
      go_wp2_with fail
      go_quiet (fail)
      go_wp2
      go_ret;exact⟨false,rfl,dL hb _,⟨fun h=>oah,fun h=>absurd h D.out⟩⟩
    ·have r2:(x0 == y0)=false:=beq_eq_false_iff_ne.2 J;have r3:decide (x0=y0)=false:=yH J;have D:Hid (A≠B):=E.out (fun h=>J (congrArg Fr.p h))
     go_wp2_with fail
     go_quiet (fail)
     go_wp2
     go_ret;exact⟨false,rfl,dL hb _,⟨fun h=>oah,fun h=>absurd h D.out⟩⟩
   ·have:k=n:=oaa;subst this;have Y:Hid (A=B):=E1.out AA.out
    go_wp2
    go_ret;exact⟨true,rfl,hb,⟨fun _=>Y.out,fun _=>rfl⟩⟩
 ·have I:A≠B:=fun e=>hl (by rw[e]);have Z:Hid (A≠B):=I;have a6:decide ((A.length:Int)=(B.length:Int))=false:=yH oaa;have a7:((A.length:Int) ==(B.length:Int))=false:=beq_eq_false_iff_ne.2 oaa;have a8:(A.length == B.length)=false:=beq_eq_false_iff_ne.2 hl;clear h1 h2 I;generalize A.length=n at *;generalize B.length=m at *
  go_enter func26,ntmps26
  go_wp2
  go_ret;exact⟨false,rfl,yv _ _,⟨fun h=>oah,fun h=>absurd h Z.out⟩⟩
def MV(q:List Ml):Prop:=∀ j,j<q.length->(ml q j).g.length<=9223372036854775807/\fK (ml q j).g
def MW(K:Nat):Prop:=∀ (x y:Ml) (ka D:OA) (kc E:Nat) (W:Wd),x.g.length<=9223372036854775807->fK x.g->aO W ka x.g->aO W D y.g ->
 yO K #[.agg #[.int .i64 x.f,.slice ka x.g.length kc],.agg #[.int .i64 y.f,.slice D y.g.length E]] W fun e w' => ∃ r:Bool,e=.returned (.bool r)/\Below W.heap.size W w' /\(r=true↔x=y)
theorem Qi(K:Nat)(eg:∀ args w,(callFunc K args).run prog w=.ok (.enter K args) w)(hK:MW K)(a a' :OA)(c c' : Nat)(S D:List Ml)(w:Wd)(hN:S.length<=9223372036854775807)(hB:MV S)(h1:gX w a S)(h2:gX w a' D) :
  yO 50 #[.slice a S.length c,.slice a' D.length c', .func (.func K) #[] #[]] w fun e w' => ∃ r:Bool,e=.returned (.bool r)/\Below w.heap.size w w' /\(r=true↔S=D):=by
 by_cases hl:S.length=D.length
 ·have E1:Hid ((∀ i,i<S.length->ml S i=ml D i)->S=D):=fun h=>WQ hl h;have E2:Hid (∀ i,ml S i≠ml D i->S≠D):=fun i h e=>h (by rw[e]);have H1:Hid (gX w a S):=h1;have H2:Hid (gX w a' D):=h2;have HB:Hid (MV S):=hB;have HK:Hid (MW K):=hK;have HL:Hid (D.length=S.length):=hl.symm;rw[<- hl];clear h1 h2 hB hl hK;generalize hn:S.length=n at *;have T:Hid _:=hn;clear hn
  go_enter func50,ntmps50
  go_wp2
  go_loopg [17] n (fun g s17 wr=>∃ k:Nat,k<=n/\n-k<=g/\s17=.int .i64 k/\Below w.heap.size w wr/\Hid (∀ i,i<k->ml S i=ml D i))
  case atStart=>exact⟨0,oaa,oaa,rfl,yv _ _,fun i hi=>oaa⟩
  case round =>
   obtain⟨k,hk,hg,rfl,hb,A⟩:=hrel;by_cases E:k<n
   ·have a8:(k:Int)<(n:Int):=oaa;obtain⟨b,o,ka,kc,rfl,cf,c0,I⟩:=(H1.below hb) k (by rw[T.out];exact E);obtain⟨b', o', a5,a6,rfl,ef,e0,J⟩:=(H2.below hb) k (by rw[HL.out];exact E);have a9:=yi _ _ c0;have a7:=yi _ _ e0;have d1:=fun o1 o2=>HK.out (ml S k) (ml D k) ka a5 kc a6 ((wr.alloc o1).alloc o2) (HB k (by rw[T.out];exact E)).1 (HB k (by rw[T.out];exact E)).2 (I.below (aM _ _ _)) (J.below (aM _ _ _));have O:Hid _:=E2.out k
    have KK:Hid (ml S k=ml D k->∀ i,i<k+1->ml S i=ml D i):=fun h i hi=>by
     by_cases e:i=k
     ·subst e;exact h
     ·exact A.out i oaa
    clear I J;have D1:Hid _:=d1;clear d1;generalize ml S k=x at *;generalize ml D k=y at *
    go_wp2_with fail
    refine(D1 _ _).mono ?_;rintro e w3 ⟨r,rfl,F,M⟩
    cases r with
    | true =>
     have Z:Hid _:=M.1 rfl;clear M
     go_wp2
     go_roundg (n-(k+1))
     case measure=>omega
     case rel=>exact⟨k+1,oaa,oaa,by go_num,(hb.trans ((aM _ _ _).mono hb.size)).trans (F.mono (by simp;have:=hb.size;omega)),KK.out Z.out⟩
    | false =>
     have Z:Hid (S≠D):=O.out fun e=>by have:=M.2 e;cases this
     clear M
     go_wp2
     go_ret;exact⟨false,rfl,(hb.trans ((aM _ _ _).mono hb.size)).trans (F.mono (by simp;have:=hb.size;omega)),⟨fun h=>oah,fun h=>absurd h Z.out⟩⟩
   ·have:k=n:=oaa;subst this
    go_wp2
    go_ret;exact⟨true,rfl,hb,⟨fun _=>E1.out A.out,fun _=>rfl⟩⟩
 ·have b0:¬ ((S.length:Int)=(D.length:Int)):=oaa
  have U:Hid (S≠D):=fun e=>hl (by rw[e]);clear h1 h2 hB hK;generalize S.length=n at *;generalize D.length=n' at *
  go_enter func50,ntmps50
  go_wp2
  go_ret;exact⟨false,rfl,yv _ _,⟨fun h=>oah,fun h=>absurd h U.out⟩⟩
theorem Qj(x y:Ml):x=y↔x.f=y.f/\x.g=y.g:=by
 cases x;cases y;simp
theorem Ql:MW 51:=by
 intro x y ka a6 kc a7 W hN hB h1 h2;have E:Hid (x=y↔(x.f=y.f/\x.g=y.g)):=Qj x y;have D:Hid (∀ o1 o2,Calls _ _ _ _ _):=fun o1 o2=>TZ ka a6 kc a7 x.g y.g ((W.alloc o1).alloc o2) hN hB (h1.below (aM _ _ _)) (h2.below (aM _ _ _));clear h1 h2 hN hB;obtain⟨J,O⟩:=x;obtain⟨M,T⟩:=y;dsimp only at E D |-;generalize Z:O.length=xl at D |-;generalize a5:T.length=yl at D |-;clear Z a5;by_cases I:J=M
 ·have F:Hid ((⟨J,O⟩:Ml)=⟨M,T⟩↔O=T):=by show _↔_;rw[E.out];simp[I]
  subst I;clear E
  go_enter func51,ntmps51
  go_wp2_with fail
  refine yj (D _ _) ?_;rintro e w1 ⟨r,rfl,hb,hr⟩;have HB:Hid (Bl W w1):=(aM _ _ _).trans (hb.mono oab);have U:Hid _:=hr;clear hb hr
  go_wp2
  go_ret;exact⟨r,rfl,HB.out,U.trans F.symm⟩
 ·have hd:decide (J=M)=false:=yH I;have a8:(J == M)=false:=by simp[I]
  have U:Hid (¬ (⟨J,O⟩:Ml)=⟨M,T⟩):=fun h=>I (E.out.1 h).1;clear E
  go_enter func51,ntmps51
  go_wp2_with fail
  go_ret;exact⟨false,rfl,aM _ _ _,⟨fun h=>oah,fun h=>absurd h U.out⟩⟩
theorem Qm(a E:OA)(c F:Nat)(S D:List Ml)(w:Wd)(U:S.length<=9223372036854775807)(J:MV S)(h1:gX w a S)(I:gX w E D) :
  yO 19 #[.slice a S.length c,.slice E D.length F] w fun e w' => ∃ r:Bool,e=.returned (.bool r)/\Below w.heap.size w w' /\(r=true↔S=D):=by
 have O:Hid _:=Qi 51 (yM func51 oad rfl) Ql a E c F S D w U J h1 I;clear h1 I J;generalize S.length=n at *;generalize D.length=Z at *
 go_enter func19,ntmps19
 go_wp2_with fail
 refine yj O.out ?_;rintro e w1 ⟨r,rfl,hb,M⟩;have T:Hid _:=M;clear M
 go_wp2
 go_ret;exact⟨r,rfl,hb,T.out⟩
