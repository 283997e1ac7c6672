/-
  x
-/
import Derived.Test.YtcbcpomacdngmaaGreatM24
namespace Go.Proofs.YtcbcpomacdngmaaGreat
set_option maxRecDepth 100000
set_option maxHeartbeats 4000000
set_option linter.unusedVariables false
open Go.RowKit Go.ChangeShapes Go.WideShapes Go
def zbN(X:Nat->Prop)(w:World)(a:Option Addr)(L:List Pt):Prop:=∀ w', zar X w w' -> zdr w' a L
theorem zbN.at{X:Nat->Prop}{w:World}{a:Option Addr}{L:List Pt}(h:zbN X w a L):zdr w a L:=h w (zar.refl X w)
theorem zbN.off{X:Nat->Prop}{w w' : World}{a:Option Addr}{L:List Pt}(h:zbN X w a L)(F:zar X w w'):zbN X w' a L:=fun D E=>h D (F.trans E)
theorem zbN.grow{X Y:Nat->Prop}{w w1:World}{a:Option Addr}{L:List Pt}(h:zbN X w a L)(D:zar X w w1)(F:∀ b,b<w.heap.size->Y b->X b):zbN Y w1 a L:=fun w' E=>h w' (zpy D.size D.block F E)
def zuY:Prop:=∀ (X:Nat->Prop) (a:Option Addr) (c:Nat) (L:List Pt) (Fr o t:Int) (w:World),(∀ b,X b->b<w.heap.size)->L.length<=9223372036854775807->zrF L->SlA a L.length c->zbN X w a L ->
 yL 142 #[.slice a L.length c,.int .i64 Fr,.int .i64 o,.int .i64 t] w fun e w' => ∃ D E,e=.returned (.tuple #[.slice D (znA L Fr o t).length E,.int .i64 (zjk L Fr o t),.int .i64 (zfq L Fr o t)])/\Below w.heap.size w w' /\ SlA D (znA L Fr o t).length E/\zbN X w' D (znA L Fr o t)
def zuZ:Prop:=∀ (X:Nat->Prop) (a:Option Addr) (c:Nat) (L:List Pt) (Fr k o t D th:Int) (w:World),(∀ b,X b->b<w.heap.size)->L.length<=9223372036854775807->zrF L->SlA a L.length c->zbN X w a L ->
 yL 144 #[.slice a L.length c,.int .i64 Fr,.int .i64 k,.int .i64 o,.int .i64 t,.int .i64 D,.int .i64 th] w fun e w' => ∃ E F,e=.returned (.tuple #[.slice E (zhN L Fr k o t D th).length F,.int .i64 (zkm L Fr k o t D th)])/\Below w.heap.size w w' /\ SlA E (zhN L Fr k o t D th).length F/\zbN X w' E (zhN L Fr k o t D th)
def zvb:Prop:=∀ (X:Nat->Prop) (a:Option Addr) (c:Nat) (L:List Pt) (Fr k o t:Int) (ga:Option Addr) (gc:Nat) (G:List Cl) (w:World),(∀ b,X b->b<w.heap.size)->L.length<=9223372036854775807->zrF L->SlA a L.length c->zbN X w a L->G.length<=9223372036854775807->zlb G->zaF w ga G ->
 yL 145 #[.slice a L.length c,.int .i64 Fr,.int .i64 k,.int .i64 o,.int .i64 t,.agg #[.slice ga G.length gc]] w fun e w' => ∃ D E,e=.returned (.tuple #[.slice D (zhP L Fr k o t G).length E,.int .i64 (zhL L Fr k o t G)])/\Below w.heap.size w w' /\ SlA D (zhP L Fr k o t G).length E/\zbN X w' D (zhP L Fr k o t G)
def zva:Prop:=∀ (X:Nat->Prop) (a:Option Addr) (c:Nat) (L:List Pt) (Fr k o t:Int) (w:World),(∀ b,X b->b<w.heap.size)->L.length<=9223372036854775807->zrF L->SlA a L.length c->zbN X w a L ->
 yL 146 #[.slice a L.length c,.int .i64 Fr,.int .i64 k,.int .i64 o,.int .i64 t] w fun e w' => ∃ D E ga gc,e=.returned (.tuple #[.slice D (zhO L Fr k o t).length E,.agg #[.slice ga (zug L Fr k o t).length gc],.int .i64 (zfu L Fr k o t)])/\Below w.heap.size w w' /\ SlA D (zhO L Fr k o t).length E/\zbN X w' D (zhO L Fr k o t)/\zpY X w' ga (zug L Fr k o t)
def zvc:Prop:=∀ (X:Nat->Prop) (a:Option Addr) (c:Nat) (L:List Pt) (Fr k o t:Int) (w:World),(∀ b,X b->b<w.heap.size)->L.length<=9223372036854775807->zrF L->SlA a L.length c->zbN X w a L ->
 yL 147 #[.slice a L.length c,.int .i64 Fr,.int .i64 k,.int .i64 o,.int .i64 t] w fun e w' => ∃ D E,e=.returned (.tuple #[.slice D (zhQ L Fr k o t).length E,.int .i64 (zaU L Fr k o t)])/\Below w.heap.size w w' /\ SlA D (zhQ L Fr k o t).length E/\zbN X w' D (zhQ L Fr k o t)
def zuQ:Ml:=⟨0,[]⟩
def ml(q:List Ml)(i:Nat):Ml:=q.getD i zuQ
theorem ztB{q:List Ml}{i:Nat}(h:i<q.length):ml q i=q[i]:=zae q zuQ h
def ziq(w:World)(a:Option Addr)(q:List Ml):Prop :=
 ∀ i,i<q.length->∃ b o ga gc,a=some ⟨b,o,none⟩/\w.cell? ⟨b,o+i*2,none⟩=some (.int .i64 (ml q i).f)/\w.cell? ⟨b,o+i*2+1,none⟩=some (.slice ga (ml q i).g.length gc)/\zaF w ga (ml q i).g
theorem ziq.below{w w' : World}{a:Option Addr}{q:List Ml}(h:ziq w a q)(D:Below w.heap.size w w'):ziq w' a q:=fun i hi=>by
 obtain⟨b,o,ga,gc,e,c0,c1,hc⟩:=h i hi;exact⟨b,o,ga,gc,e,zab c0 D,zab c1 D,hc.below D⟩
def qu(Q:List (List Ml))(i:Nat):List Ml:=Q.getD i []
def zmj(w:World)(a:Option Addr)(Q:List (List Ml)):Prop :=
 ∀ i,i<Q.length->∃ b o qa qc,a=some ⟨b,o,none⟩/\w.cell? ⟨b,o+i,none⟩=some (.slice qa (qu Q i).length qc)/\SlA qa (qu Q i).length qc/\ziq w qa (qu Q i)
theorem zmj.below{w w' : World}{a:Option Addr}{Q:List (List Ml)}(h:zmj w a Q)(D:Below w.heap.size w w'):zmj w' a Q:=fun i hi=>by
 obtain⟨b,o,qa,qc,e,c0,hs,E⟩:=h i hi;exact⟨b,o,qa,qc,e,zab c0 D,hs,E.below D⟩
def pg(P:List (List Ac))(i:Nat):List Ac:=P.getD i []
def zjW(w:World)(a:Option Addr)(P:List (List Ac)):Prop :=
 ∀ i,i<P.length->∃ b o pa pc,a=some ⟨b,o,none⟩/\w.cell? ⟨b,o+i,none⟩=some (.slice pa (pg P i).length pc)/\zbE w pa (pg P i)
theorem zjW.below{w w' : World}{a:Option Addr}{P:List (List Ac)}(h:zjW w a P)(D:Below w.heap.size w w'):zjW w' a P:=fun i hi=>by
 obtain⟨b,o,qa,qc,e,c0,E⟩:=h i hi;exact⟨b,o,qa,qc,e,zab c0 D,E.below D⟩
def rl(R:List Rl)(i:Nat):Rl:=R.getD i zbL
def zmk(w:World)(a:Option Addr)(R:List Rl):Prop :=
 ∀ i,i<R.length->∃ b o A,a=some ⟨b,o,none⟩/\w.cell? ⟨b,o+i*4,none⟩=some (.slice (RA.a0 A) (rl R i).s.length A.c0)/\w.cell? ⟨b,o+i*4+1,none⟩=some (.slice A.a1 (rl R i).hs.length A.c1)/\w.cell? ⟨b,o+i*4+2,none⟩=some (.slice A.a2 (rl R i).i.length A.c2)/\w.cell? ⟨b,o+i*4+3,none⟩=some (.slice A.a3 (rl R i).t.length A.c3)/\zdd w A (rl R i)
theorem zmk.below{w w' : World}{a:Option Addr}{R:List Rl}(h:zmk w a R)(D:Below w.heap.size w w'):zmk w' a R:=fun i hi=>by
 obtain⟨b,o,A,e,c0,c1,c2,c3,E⟩:=h i hi;exact⟨b,o,A,e,zab c0 D,zab c1 D,zab c2 D,zab c3 D,E.below D⟩
structure WA where
 a0:Option Addr
 a1:Option Addr
 a2:Option Addr
 a3:Option Addr
 a4:Option Addr
 c0:Nat
 c1:Nat
 c2:Nat
 c3:Nat
 c4:Nat
abbrev wlV(A:WA)(W:Wl):Value:=.agg #[.slice A.a0 W.fs.length A.c0,.slice A.a1 W.rs.length A.c1,.slice A.a2 W.ps.length A.c2,.slice A.a3 W.qs.length A.c3,.slice A.a4 W.pt.length A.c4]
structure zgb (w:World) (A:WA) (W:Wl):Prop where
 fs:zaS w A.a0 W.fs
 rs:zmk w A.a1 W.rs
 ps:zjW w A.a2 W.ps
 qs:zmj w A.a3 W.qs
 pt:zdr w A.a4 W.pt
structure WlC (A:WA) (W:Wl):Prop where
 s0:SlA A.a0 W.fs.length A.c0
 s1:SlA A.a1 W.rs.length A.c1
 s2:SlA A.a2 W.ps.length A.c2
 s3:SlA A.a3 W.qs.length A.c3
 s4:SlA A.a4 W.pt.length A.c4
theorem zgb.below{w w' : World}{A:WA}{W:Wl}(h:zgb w A W)(D:Below w.heap.size w w'):zgb w' A W:=⟨h.fs.below D,h.rs.below D,h.ps.below D,h.qs.below D,h.pt.below D⟩
theorem zcL:SlA none 0 0:=⟨fun _=>rfl,yj _,by omega⟩
theorem zoS(w:World)(A:WA):zgb w A zjQ:=⟨fun _ h=>absurd h (yw _),fun _ h=>absurd h (yw _),fun _ h=>absurd h (yw _),fun _ h=>absurd h (yw _),fun _ h=>absurd h (yw _)⟩
abbrev zgc(X:Nat->Prop)(w:World)(A:WA)(W:Wl):Prop:=St X (fun w=>zgb w A W) w
theorem zuO{w:World}{A:WA}{W:Wl}(h:zgb w A W):zgc (fun _=>False) w A W:=fun w' E=>by
 have D:zgb { w' with os:=w.os,tape:=w.tape,output:=w.output } A W:=h.below ⟨rfl,rfl,rfl,E.size,fun b F=>E.block b F id⟩;exact⟨D.fs,D.rs,D.ps,D.qs,D.pt⟩
def zrG(W:Wl):Prop:=W.fs.length<=9223372036854775807/\(W.rs.length<=9223372036854775807/\∀ i,i<W.rs.length->zuV (rl W.rs i))/\(W.ps.length<=9223372036854775807/\∀ i,i<W.ps.length->(pg W.ps i).length<=9223372036854775807)/\(W.qs.length<=9223372036854775807/\∀ i,i<W.qs.length->(qu W.qs i).length<=9223372036854775807/\∀ j,j<(qu W.qs i).length->(ml (qu W.qs i) j).g.length<=9223372036854775807/\zlb (ml (qu W.qs i) j).g)/\(W.pt.length<=9223372036854775807/\zrF W.pt)
def pk(L:List (Int × Bool))(i:Nat):Int × Bool:=L.getD i (0,false)
def zrM(w:World)(a:Option Addr)(L:List (Int × Bool)):Prop :=
 ∀ i,i<L.length->∃ b o,a=some ⟨b,o,none⟩/\w.cell? ⟨b,o+i*2,none⟩=some (.int .i64 (pk L i).1)/\w.cell? ⟨b,o+i*2+1,none⟩=some (.bool (pk L i).2)
def zhd(W:Wl)(L:List (Int × Bool)):Int:=if zby W=0 then (if 120<L.length then 1 else 0) else zby W
def zgy(W:Wl)(L:List (Int × Bool)):Wl:=if zhd W L=0 then L.foldl zjz W else zjQ
def zni(W:Wl)(L:List (Int × Bool)):List Int:=if zhd W L=0 then zrq W L else []
def zgG:Prop:=∀ (A:WA) (W:Wl) (w:World),zrG W->WlC A W->zgb w A W ->
 yL 10 #[wlV A W] w fun e w' => e=.returned (.int .i64 (zby W))/\Below w.heap.size w w'
def zgF:Prop:=∀ (X:Nat->Prop) (A:WA) (W:Wl) (k:Int) (s:Bool) (w:World),(∀ b,X b->b<w.heap.size)->zrG W->WlC A W->zgc X w A W ->
 yL 13 #[wlV A W,.agg #[.int .i64 k,.bool s]] w fun e w' => ∃ B:WA,e=.returned (.tuple #[wlV B (zaX W k s),.int .i64 (zbK W k s)])/\Below w.heap.size w w' /\ WlC B (zaX W k s)/\zgc X w' B (zaX W k s)
def zld:Prop:=∀ (X:Nat->Prop) (A:WA) (W:Wl) (D:Option Addr) (E:Nat) (L:List (Int × Bool)) (w:World),(∀ b,X b->b<w.heap.size)->zrG W->WlC A W->zgc X w A W->L.length<=9223372036854775807->SlA D L.length E->zrM w D L ->
 yL 20 #[wlV A W,.slice D L.length E] w fun e w' => ∃ (B:WA) (sa:Option Addr) (sc:Nat),e=.returned (.tuple #[wlV B (zgy W L),.slice sa (zni W L).length sc,.int .i64 (zhd W L)])/\Below w.heap.size w w' /\ WlC B (zgy W L)/\zgc X w' B (zgy W L)/\St X (fun w=>zal w sa (zni W L)) w'
def tW:Wl:=⟨[⟨-1,0,7,0,false⟩,⟨0,1,1,0,false⟩],[zdm 2,zdm 2],[[⟨1,0,0,0,1⟩,⟨5,0,0,0,7⟩,⟨10,1,0,0,1⟩,⟨9,0,0,0,0⟩],[⟨1,0,0,0,0⟩,⟨11,0,0,0,1⟩,⟨6,0,0,0,0⟩,⟨12,0,0,0,0⟩,⟨10,0,0,0,0⟩]],[[],[]],[]⟩
def tL:List (Int × Bool):=[(0,true),(1,false),(1,false)]
theorem zAI:zhd tW tL=0/\zni tW tL=[0,0,8]/\(rl (zgy tW tL).rs 0).t=[0,0,0,1]/\(rl (zgy tW tL).rs 1).t=[0,0,7,-7,-7]/\(zgy tW tL).rs.length=2:=by decide
theorem zkz{p q:Nat->Bool}:∀ {l:List Nat},(∀ x ∈ l,q x=true->p x=true)->l.countP q<=l.countP p
 | [],_=>yj _
 | x :: l,h=>by
  have F:=zkz (l:=l) (fun y E=>h y (List.mem_cons_of_mem _ E));have D:=h x (List.mem_cons_self ..);rw[List.countP_cons,List.countP_cons]
  cases hq:q x with
  | true=>rw[D hq];simp;exact F
  | false=>simp;omega
theorem zkA{p q:Nat->Bool}:∀ {l:List Nat},(∀ x ∈ l,q x=true->p x=true)->(∃ x ∈ l,p x=true/\q x=false)->l.countP q<l.countP p
 | [],_,⟨_,h,_⟩=>by cases h
 | x :: l,h,⟨y,D,h1,E⟩=>by
  have hl:=fun z I=>h z (List.mem_cons_of_mem x I);have F:=h x (List.mem_cons_self ..);rw[List.countP_cons,List.countP_cons];rcases List.mem_cons.1 D with e|D
  ·subst e;have:=zkz (l:=l) hl;rw[h1,E];simp;omega
  ·have:=zkA (l:=l) hl ⟨y,D,h1,E⟩
   cases hq:q x with
   | true=>rw[F hq];simp;exact this
   | false=>simp;omega
section
variable {P:Program} {ops:Array Oper} {Q:Exit->Act->World->Prop} {md:Region.Mode}
def zwd(ops:Array Oper)(listed:Array Bool):Nat:=(List.range ops.size).countP fun i=>!listed.getD i true
theorem zmT{listed:Array Bool}{i:Nat}(hi:i ∈ Region.ready md ops listed):zwd ops (listed.setIfInBounds i true)<zwd ops listed:=by
 have h:=hi;unfold Region.ready at h;rw[List.mem_filter,Bool.and_eq_true] at h;obtain⟨I,E,_⟩:=h;refine zkA (fun x _ F=>?_) ⟨i,I,E,?_⟩
 ·by_cases e:x=i
  ·subst e;exact E
  ·have:(listed.setIfInBounds i true).getD x true=listed.getD x true:=by
    simp only[Array.getD_eq_getD_getElem?];rw[Array.getElem?_setIfInBounds_ne (by omega)]
   rw[this] at F;exact F
 ·have hl:i<listed.size:=by
   rcases Nat.lt_or_ge i listed.size with D|D
   ·exact D
   ·simp[Array.getElem?_eq_none D] at E
  simp[hl]
theorem zny(I:Array Bool->Act->World->Prop)
  (E:∀ listed a w i,I listed a w->i ∈ Region.ready md ops listed->wpOp P ops Q i (I (listed.setIfInBounds i true)) a w)
  (D:∀ listed a w,I listed a w->Region.ready md ops listed=[]->Q .normal a w) :
  ∀ (fuel:Nat) (listed:Array Bool) (a:Act) (w:World),zwd ops listed<=fuel->I listed a w->wpAny P md ops Q fuel listed a w
 | 0,listed,a,w,O,F=>by
  have h0:Region.ready md ops listed=[]:=by
   cases h:Region.ready md ops listed with
   | nil=>rfl
   | cons i l =>
    have:=zmT (md:=md) (ops:=ops) (listed:=listed) (i:=i) (by rw[h];exact List.mem_cons_self ..);omega
  exact⟨h0,D _ _ _ F h0⟩
 | fuel+1,listed,a,w,O,F=>⟨fun h=>D _ _ _ F h,fun i hi=>wpOp_mono (fun J w' M=>zny I E D fuel _ J w' (by have:=zmT (md:=md) hi;omega) M) (E _ _ _ _ F hi)⟩
theorem zmd{id:Nat}{a:Act}{w:World}(I:Array Bool->Act->World->Prop)(F:P.follows .mixedOrders=true)(h0:I (Array.replicate ops.size false) a { w with drawn:=w.drawn+1 })
  (E:∀ listed a w i,I listed a w->i ∈ Region.ready .any ops listed->wpOp P ops Q i (I (listed.setIfInBounds i true)) a w)
  (D:∀ listed a w,I listed a w->Region.ready .any ops listed=[]->Q .normal a w):(Code.region id ops true).wp P Q a w :=
 wp_region_any F (zny I E D _ _ _ _ (by unfold zwd;exact yG List.countP_le_length (by simp)) h0)
theorem zoK{listed:Array Bool}{i:Nat}(h:i ∈ Region.ready md ops listed):i<ops.size/\listed.getD i true=false/\∃ o,ops[i]?=some o/\(o.after.all fun e=>!Region.binds md e || listed.getD e.on false)=true:=by
 unfold Region.ready at h;rw[List.mem_filter,Bool.and_eq_true] at h;obtain⟨h1,D,E⟩:=h;rw[List.mem_range] at h1;refine⟨h1,by simpa using D,ops[i],by simp[h1],?_⟩;simpa [h1] using E
theorem zot{listed:Array Bool}{j:Nat}(h:listed.getD j false=true):listed.getD j true=true:=by
 rw[Array.getD_eq_getD_getElem?] at h |-
 cases hj:listed[j]? with
 | none=>rw[hj] at h;cases h
 | some b=>rw[hj] at h;exact h
theorem zaT{o:Oper}{listed:Array Bool}{j:Nat}{g:Ground}(h:(o.after.all fun e=>!Region.binds md e || listed.getD e.on false)=true)(E:(⟨j,g⟩:Edge) ∈ o.after)(D:Region.binds md ⟨j,g⟩=true):listed.getD j true=true:=by
 rw[Array.all_eq_true_iff_forall_mem] at h;have:=h _ E;rw[D] at this;exact zot (by simpa using this)
theorem zaK{listed:Array Bool}{i j:Nat}(h:(listed.setIfInBounds i true).getD j true=true)(D:j≠i):listed.getD j true=true:=by
 rw[Array.getD_eq_getD_getElem?] at h |-
 rwa [Array.getElem?_setIfInBounds_ne (Ne.symm D)] at h
theorem zaL{listed:Array Bool}{i:Nat}{o:Oper}(h:Region.ready md ops listed=[])(D:ops[i]?=some o)(hd:(o.after.all fun e=>!Region.binds md e || listed.getD e.on false)=true):listed.getD i true=true:=by
 have hi:i<ops.size:=(Array.getElem?_eq_some_iff.1 D).1;by_cases hl:listed.getD i true=true
 ·exact hl
 ·have:i ∈ Region.ready md ops listed:=by
   unfold Region.ready;rw[List.mem_filter,Bool.and_eq_true,List.mem_range];refine⟨hi,by simpa using hl,?_⟩;rw[D];exact hd
  rw[h] at this;cases this
theorem zaP{i:Nat}{K:Act->World->Prop}{a:Act}{w w' : World}{o:Oper}{v:Value}(E:ops[i]?=some o)(hg:o.guard=none)(F:(execOp a.eval o).run P w=.ok (.value v) w')(D:K (a.put o.dst v) w'):wpOp P ops Q i K a w:=by
 unfold wpOp;rw[E];dsimp only;have I:Region.wanted o (yielded ops a.tmps)=true:=by unfold Region.wanted;rw[hg]
 rw[yb I];left;unfold Oper.wp;rw[F];exact D
end
variable {M:Nat->Prop} {T:Nat->Int} {O:Int} {W V:Wl}
theorem zhR{w:World}{B g n cap:Nat}{L:List Pt}{K:Nat->Value}(h:w.ownsRow B 121 5 (.slice (some ⟨g,0,none⟩) n cap) n (zcc L K)){k f:Nat}{u v:Value}{x:Pt}(E:k<L.length)(D:f<5)(F:zcS x v=(zcS (pt L k) (K k)).set f u) :
  (w.setCell ⟨g,k*5+f,none⟩ u).ownsRow B 121 5 (.slice (some ⟨g,0,none⟩) n cap) n (zcc (L.set k x) (fun i=>if i=k then v else K i)):=by
 have:=(h.stored (k*5+f) u).1
 rwa [zrg E D F] at this
theorem zus{w:World}{B g n cap:Nat}{L:List Pt}{K:Nat->Value}(h:w.ownsRow B 121 5 (.slice (some ⟨g,0,none⟩) n cap) n (zcc L K))(hn:L.length=n){k f:Nat}(E:k<n)(D:f<5):w.cell? ⟨g,k*5+f,none⟩=(zcS (pt L k) (K k))[f]?:=by
 rw[h.cellAt (k*5+f) (by omega),zej (by omega) D]
theorem zlV{L:List Pt}{k:Nat}{x:Pt}(D:k<L.length):pt (L.set k x) k=x:=by rw[zkS D,yb rfl]
def zcu(Fr D th:Int):Int:=if ¬ (0<=D/\D<Fr) then 4 else if ¬ (0<=th/\th<=1000) then 2 else 0
theorem ztV(L:List Pt)(Fr k o t D th:Int):zkm L Fr k o t D th=zuI (zaU L Fr k o t) (zcu Fr D th):=rfl
section
variable {P:Program} {ops:Array Oper} {Q:Exit->Act->World->Prop} {md:Region.Mode} {S:World->Prop} {x:Nat}
def zdK(P:Program)(md:Region.Mode)(ops:Array Oper)(Q:Exit->Act->World->Prop)(S:World->Prop)(x:Nat):Nat->Array Bool->Act->World->Prop
 | 0,listed,a,w=>Region.ready md ops listed=[]/\Q .normal a w
 | fuel+1,listed,a,w =>
  (Region.ready md ops listed=[]->Q .normal a w) /\
  ∀ i ∈ Region.ready md ops listed,wpOp P ops Q i (fun D w' => (i=x\/S w')/\zdK P md ops Q S x fuel (listed.setIfInBounds i true) D w') a w
theorem zkZ:∀ (fuel:Nat) (listed:Array Bool) (a:Act) (w:World),zdK P md ops Q S x fuel listed a w->wpAny P md ops Q fuel listed a w
 | 0,_,_,_,h=>h
 | fuel+1,_,_,_,h=>⟨h.1,fun i hi=>wpOp_mono (fun D w' E=>zkZ fuel _ D w' E.2) (h.2 i hi)⟩
def waits(md:Region.Mode)(ops:Array Oper)(x i:Nat):Bool:=match ops[x]? with
 | some o=>o.after.any (fun e=>Region.binds md e && e.on == i)
 | none=>false
theorem znx{i:Nat}{U:Oper}{v:Value}(hi:ops[i]?=some U)(O:∀ (j:Nat) (o:Oper) cs b,ops[j]?=some o->o.op≠.select cs b)(hX:waits md ops x i=true)
  (hQ:∀ c a w,Q (.panic c) (a.put U.dst v) w->Q (.panic c) a w) :
  ∀ (fuel:Nat) (listed:Array Bool) (a:Act) (w:World),
   (∀ j Z,ops[j]?=some Z->j≠i->listed.getD j true=false->(∀ e ∈ Z.after,Region.binds md e=true->e.on≠i)->U.apart ops Z=true) ->
   i ∈ Region.ready md ops listed->YieldsIf P ops S U v a->S w ->
   zdK P md ops Q S x fuel (listed.setIfInBounds i true) (a.put U.dst v) w->zdK P md ops Q S x (fuel+1) listed a w:=by
 intro fuel
 induction fuel with
 | zero =>
  intro listed a w _ T hy hS H;refine⟨fun h=>(by rw[h] at T;cases T),fun j hj=>?_⟩;by_cases D:j=i
  ·subst D;exact hy.wpOp hi hS ⟨Or.inr hS,H⟩
  ·have:=ready_mono hj D;rw[H.1] at this;cases this
 | succ fuel ih =>
  intro listed a w E T hy hS H;refine⟨fun h=>(by rw[h] at T;cases T),fun j hj=>?_⟩;by_cases D:j=i
  ·subst D;exact hy.wpOp hi hS ⟨Or.inr hS,H⟩
  ·have h1:=H.2 j (ready_mono hj D);obtain⟨J,Z,I,a6⟩:=mem_ready.1 hj
   have M:∀ e ∈ Z.after,Region.binds md e=true->e.on≠i:=fun e he hb a9=>by
    have h1:=a6 e he hb;have h0:=(mem_ready.1 T).1;rw[a9] at h1;rcases Nat.lt_or_ge i listed.size with h' | h'
    ·simp[h'] at h0 h1;rw[h0] at h1;cases h1
    ·simp[Array.getElem?_eq_none h'] at h1
   have b0:j≠x:=fun e=>by
    subst e;unfold waits at hX;rw[I] at hX;simp only[Array.any_eq_true,Bool.and_eq_true] at hX;obtain⟨k,hk,h5,h6⟩:=hX;exact M _ (Array.getElem_mem hk) h5 (by simpa using h6)
   have h2:=wpOp_putIf I (E j Z I D J M) (fun cs b=>O i U cs b hi) (fun cs b=>O j Z cs b I) hQ hy h1
   have F:∀ k ok,ops[k]?=some ok->k≠i->(listed.setIfInBounds j true).getD k true=false ->
     (∀ e ∈ ok.after,Region.binds md e=true->e.on≠i)->U.apart ops ok=true:=fun k ok hk b1 a8 b2=>by
    refine E k ok hk b1 ?_ b2;by_cases a7:j=k
    ·subst a7;exact J
    ·rw[getD_set_ne true a7] at a8;exact a8
   refine wpOp_mono (fun a' w' h3=>?_) h2;have a5:S w' := h3.2.1.resolve_left b0;refine⟨Or.inr a5,ih (listed.setIfInBounds j true) a' w' F (ready_mono T (Ne.symm D)) h3.1 a5 ?_⟩;rw[Array.setIfInBounds_comm _ _ D];exact h3.2.2
theorem zoT{i:Nat}{D:Oper}{v:Value}{fuel:Nat}{listed:Array Bool}{a:Act}{w:World}(hi:ops[i]?=some D)
  (hs:Region.noSelect ops=true) (J:Region.free md ops listed i=true) (M:(Region.ready md ops listed).contains i=true) (I:waits md ops x i=true)
  (E:∀ c a w,Q (.panic c) (a.put D.dst v) w->Q (.panic c) a w) (O:YieldsIf P ops S D v a) (F:S w)
  (h:zdK P md ops Q S x fuel (listed.setIfInBounds i true) (a.put D.dst v) w):zdK P md ops Q S x (fuel+1) listed a w :=
 znx hi (Region.noSelect_spec hs) I E fuel listed a w (Region.free_spec hi J) (by simpa using M) O F h
theorem zaf{i:Nat}{D:Oper}{v:Value}{fuel:Nat}{listed:Array Bool}{a:Act}{w:World}(h:zdK P md ops Q S x fuel (listed.setIfInBounds i true) (a.put D.dst v) w)(hi:ops[i]?=some D:=by rfl)
  (hs:Region.noSelect ops=true:=by kernel_rfl) (M:Region.free md ops listed i=true:=by kernel_rfl) (O:(Region.ready md ops listed).contains i=true:=by kernel_rfl) (J:waits md ops x i=true:=by kernel_rfl)
  (F:∀ c a w,Q (.panic c) (a.put D.dst v) w->Q (.panic c) a w:=by exact fun _ _ _ h=>h) (I:S w:=by assumption) (T:YieldsIf P ops S D v a:=by exact Or.inl ⟨by rfl,by intro w E;(try dsimp only at E);first|(go_simp;done)|(go_simp;with_reducible rfl)⟩):zdK P md ops Q S x (fuel+1) listed a w :=
 zoT hi hs M O J F T I h
theorem zbD{i:Nat}{o:Oper}{fuel:Nat}{listed:Array Bool}{a:Act}{w:World}(I:Region.ready md ops listed=[i])(M:ops[i]?=some o)
  (h:∀ D:Act->World->Prop,Shut (∀ a w,S w->(S w->zdK P md ops Q S x fuel (listed.setIfInBounds i true) a w)->D a w)->if Region.wanted o (yielded ops a.tmps)=true then Oper.wp P o a w D Q else D (a.put o.dst undef) w) :
  zdK P md ops Q S x (fuel+1) listed a w:=by
 refine⟨fun h0=>(by rw[I] at h0;cases h0),fun j E=>?_⟩;rw[I] at E;have E:j=i:=by simpa using E
 subst E;exact wpOp_step M (fun D hK=>h D (fun a w F J=>hK a w ⟨Or.inr F,J F⟩))
theorem zeQ{o:Oper}{fuel:Nat}{listed:Array Bool}{a:Act}{w:World}(F:Region.ready md ops listed=[x])(J:ops[x]?=some o)
  (h:∀ D:Act->World->Prop,Shut (∀ a w,zdK P md ops Q S x fuel (listed.setIfInBounds x true) a w->D a w)->if Region.wanted o (yielded ops a.tmps)=true then Oper.wp P o a w D Q else D (a.put o.dst undef) w) :
  zdK P md ops Q S x (fuel+1) listed a w:=by
 refine⟨fun h0=>(by rw[F] at h0;cases h0),fun j E=>?_⟩;rw[F] at E;have E:j=x:=by simpa using E
 subst E;exact wpOp_step J (fun D hK=>h D (fun a w I=>hK a w ⟨Or.inl rfl,I⟩))
theorem zeP{listed:Array Bool}{a:Act}{w:World}(D:Region.ready md ops listed=[])(h:Q .normal a w) :
  ∀ fuel,zdK P md ops Q S x fuel listed a w
 | 0=>⟨D,h⟩
 | _+1=>⟨fun _=>h,by rw[D];simp⟩
theorem zeR{id:Nat}{a:Act}{w:World}(x:Nat)(E:P.follows .mixedOrders=true)(D:S w.drew)
  (h:S w.drew->zdK P .any ops Q S x ops.size (Array.replicate ops.size false) a w.drew):(Code.region id ops true).wp P Q a w :=
 wp_region_any E (zkZ _ _ _ _ (h D))
end
theorem ztf:(Tryz.prog.info? 47).map (fun i=>(i.zero,i.size,i.bytes))=some (some (.agg #[.slice none 0 0]),1,24):=by kernel_rfl
def GrV(w:World)(v:Value)(G:List Cl):Prop:=∃ ga gc,v=.slice ga G.length gc/\zaF w ga G
def grow(n:Nat)(J:Nat->Value):List Value:=(List.range n).map J
theorem zpj(n:Nat)(J:Nat->Value):(grow n J).length=n:=by unfold grow;simp
theorem zsW{n:Nat}{J:Nat->Value}{i:Nat}(h:i<n):(grow n J)[i]?=some (J i):=by unfold grow;simp[h]
theorem zsX(n:Nat)(J:Nat->Value)(v:Value):grow n J++[v]=grow (n+1) (fun i=>if i=n then v else J i):=by
 unfold grow;rw[List.range_succ,List.map_append]
 congr 1
 ·refine List.map_congr_left (fun i hi=>?_);have:=List.mem_range.1 hi;rw[ya (by omega)]
 ·simp
theorem zyj{B:Nat}{w:World}{v:Value}{C:List (List Cl)}{J:Nat->Value}(h:w.ownsRow B 47 1 v C.length (grow C.length J))(hg:∀ i,i<C.length->GrV w (J i) (gr C i)):zrH w v C:=by
 have hc:=fun g hg=>h.cells (g:=g) hg;rcases h.2 with ⟨rfl,h0⟩ |⟨g,cap,I,rfl,_,_,D,E,_⟩
 ·exact⟨none,0,by rw[h0],⟨fun _=>rfl,by omega,by omega⟩,fun i hi=>by omega⟩
 ·refine⟨some ⟨g,0,none⟩,cap,rfl,⟨(fun h=>by cases h),D,(by unfold maxLen at E;omega)⟩,fun i hi=>?_⟩;obtain⟨ga,gc,e,F⟩:=hg i hi;refine⟨g,0,ga,gc,rfl,?_,F⟩;have:=hc g rfl i (J i) (zsW hi);rw[Addr.add_lit,yz] at this;rw[yz,this,e]
theorem zAz{W:World}{b:Nat}{v:Value}(c0:W.cell? ⟨b,0,none⟩=some v):∀ j u,([v]:List Value)[j]?=some u->W.cell? ((⟨b,0,none⟩:Addr).add j)=some u:=fun j u D=>by
 rw[Addr.add_lit]
 match j,D with
 | 0,D=>cases D;exact c0
 | j+1,D=>simp at D
theorem zqy(w:World)(r:Option Nat):w.grownBy w r:=⟨rfl,rfl,rfl,yj _,fun _ _ _=>rfl⟩
theorem zjH{P:Program}{ops:Array Oper}{o:Oper}{a:Act}{w:World}{K:Act->World->Prop}{Q:Exit->Act->World->Prop}{E:Prop}
  (hg:o.guard=none) (s x:Operand) (t:TypeId) (M:o.op=Op.call { callee:=Callee.builtin Builtin.append,args:=#[s,x],argTypes:=#[t,t] })
  (base:Nat) (e:TypeId) (i:TypeInfo) (z:Value) (size bytes:Nat) (h1:P.underlying t=some (.slice e)) (h2:P.info? e=some i) (h3:i.zero=some z) (h4:i.size=size) (h5:i.bytes=bytes) (h6:z.cells.size=size) (h7:0<size)
  (v:Value) (n:Nat) (U:List Value) (hs:a.eval s=v) (D:w.ownsRow base e size v n U)
  (sa:Option Addr) (m c:Nat) (news:List Value) (J:sa=none->m=0/\c=0) (hx:a.eval x=.slice sa m c) (hn:news.length=m*size) (hc:∀ I,sa=some I->∀ j u,news[j]?=some u->w.cell? (I.add j)=some u) (Z:∀ u ∈ news,u.oneCell' = true)
  (b1:n+m<=maxLen) (b2:(n+m)*bytes<=140737488355328) (F:base<=w.heap.size)
  (hK:∀ T w', w'.ownsRow base e size T (n+m) (U++news)->w.grownBy w' v.ownBlock->K (a.put o.dst T) w') :
  if Region.wanted o (yielded ops a.tmps)=true then Oper.wp P o a w K Q else E:=by
 have hw:Region.wanted o (yielded ops a.tmps)=true:=by simp[Region.wanted,hg]
 rw[yb hw]
 cases sa with
 | some I=>exact wp_append_own w s x t M base e i z size bytes h1 h2 h3 h4 h5 h6 h7 v n U hs D I m c news hx hn (hc I rfl) Z b1 b2 F (fun T w' r1 r2 _=>hK T w' r1 r2)
 | none =>
  obtain⟨rfl,rfl⟩:=J rfl;have en:news=[]:=List.eq_nil_of_length_eq_zero (by rw[hn];simp);subst en;have O:=run_append_owned_none (P:=P) (w:=w) base t o.type e i size h1 h2 v n U D;unfold Oper.wp;simp[execOp,M,resolve,invoke,builtin,hs,hx,O,Result.andThen];exact hK v w (by simpa using D) (zqy w _)
section
variable {P:Program} {ops:Array Oper} {Q:Exit->Act->World->Prop} {md:Region.Mode} {S:World->Prop} {x:Nat}
end
theorem zkn{P:Program}(w:World)(J T U elem:TypeId)(i:TypeInfo)(d a:Option Addr)(D F E I:Nat)(O:P.underlying J=some (.slice elem))(M:P.info? elem=some i)(hn:Nat.min E D=0) :
  (Builtin.copy_ #[J,T] U #[.slice d D F,.slice a E I]).run P w=.ok (goInt 0) w:=by
 have hl:∀ (x:Addr),(loadCells x 0).run P w=.ok #[] w:=fun x=>by simpa using run_loadCells_list (P:=P) w x [] (by simp)
 cases d <;> cases a <;> simp[Builtin.copy_,run_underlying O,Builtin.lenOf,Builtin.firstCells,sizeOf,typeInfo,M,hn,storeCells,hl]
theorem zcX{P:Program}{w:World}{ops:Array Oper}{rest:List Oper}{o:Oper}{a:Act}{Q:Exit->Act->World->Prop}(O:o.guard=none)(d s:Operand)(Z sT:TypeId)
  (ho:o.op=.call { callee:=.builtin .copy,args:=#[d,s],argTypes:=#[Z,sT] }) (elem:TypeId) (i:TypeInfo) (size:Nat) (hu:P.underlying Z=some (.slice elem)) (hi:P.info? elem=some i) (hz:i.size=size)
  (g n D:Nat) (sa:Option Addr) (F:Nat) (hd:a.eval d=.slice (some ⟨g,0,none⟩) n D) (hs:a.eval s=.slice sa n F)
  (I:List Value) (t:TypeId) (hg:w.heap[g]?=some (.cells I.toArray t (0,0))) (J:List Value) (hl:J.length=n*size) (E:I.length=n*size) (T:sa=none->n=0)
  (hsrc:∀ M,sa=some M->∀ j v,J[j]?=some v->w.cell? (M.add j)=some v) (h1:∀ v ∈ J,v.oneCell' = true)
  (h:∀ w', Hid (w'.heap[g]?=some (.cells J.toArray t (0,0)))->Hid (∀ B w0,Below B w0 w->B<=g->Below B w0 w')->wpList P ops Q rest (a.put o.dst (goInt n)) w'):wpList P ops Q (o :: rest) a w:=by
 subst hz;by_cases h0:n=0
 ·subst h0;rw[Nat.zero_mul] at hl E;obtain rfl:J=[]:=List.eq_nil_of_length_eq_zero hl;obtain rfl:I=[]:=List.eq_nil_of_length_eq_zero E;refine wpList_plain O fun K hK=>?_;have U:=zkn (P:=P) w Z sT o.type elem i (some ⟨g,0,none⟩) sa 0 D 0 F hu hi rfl;unfold Oper.wp;simp[execOp,ho,resolve,invoke,builtin,hd,hs,U,Result.andThen];exact hK _ _ (h w hg (fun _ _ hb _=>hb))
 ·cases sa with
  | none=>exact absurd (T rfl) h0
  | some M =>
   refine zcY O d s Z sT ho elem i hu hi g 0 n D M n F n hd hs I t hg J (Nat.min_self n).symm hl (hsrc M rfl) (by omega) h1 (fun w' hw hb=>h w' ?_ hb);show _=_;rw[hw];simp[hl,E]
theorem zfV(x m:Int)(w:World) :
  yL 98 #[.int .i64 x,.int .i64 m] w fun e w' => e=.returned (.bool (decide (0<=x/\x<m)))/\w' = w:=by
 by_cases h1:0<=x
 ·have d1:decide (0<=x)=true:=yF h1;by_cases D:x<m
  ·have d2:decide (x<m)=true:=yF D;rw[yF (⟨h1,D⟩:0<=x/\x<m)]
   go_enter Tryz.func98,Tryz.ntmps98
   go_wp2
   go_ret;exact⟨rfl,rfl⟩
  ·have d2:decide (x<m)=false:=yE D;rw[yE (fun h=>D h.2:¬ (0<=x/\x<m))]
   go_enter Tryz.func98,Tryz.ntmps98
   go_wp2
   go_ret;exact⟨rfl,rfl⟩
 ·have d1:decide (0<=x)=false:=yE h1;rw[yE (fun h=>h1 h.1:¬ (0<=x/\x<m))]
  go_enter Tryz.func98,Tryz.ntmps98
  go_wp2
  go_ret;exact⟨rfl,rfl⟩
theorem zkJ(a:Option Addr)(n c:Nat)(k:Int)(w:World)(hn:n<=1000) :
  yL 99 #[.slice a n c,.int .i64 k] w fun e w' => e=.returned (.bool (decide (0<=k/\k<=(n:Int)-1)))/\w' = w:=by
 obtain⟨Q,D⟩:∃ Q:Int,(n:Int)-1=Q:=⟨_,rfl⟩;have I:IntKind.i64.wrap ((n:Int)-1)=Q:=by rw[yH,<- D];omega
 have E:=fun W=>zaR k 0 Q W;rw[D];clear D;generalize decide (0<=k/\k<=Q)=r at E |-;have F:Hid _:=E;clear E
 go_enter Tryz.func99,Tryz.ntmps99
 go_wp2_with (go_at_call 66;refine(F.out _).mono ?_;rintro e w' ⟨rfl,rfl⟩)
 go_ret;exact⟨rfl,rfl⟩
theorem zin(k:Int)(w:World) :
  yL 100 #[.int .i64 k] w fun e w' => e=.returned (.bool (decide (0<=k/\k<=1000)))/\w' = w:=by
 have D:=fun W=>zaR k 0 1000 W;generalize decide (0<=k/\k<=1000)=r at D |-;have E:Hid _:=D;clear D
 go_enter Tryz.func100,Tryz.ntmps100
 go_wp2_with (go_at_call 66;refine(E.out _).mono ?_;rintro e w' ⟨rfl,rfl⟩)
 go_ret;exact⟨rfl,rfl⟩
def zsj(l:Nat)(s:Bool)(G:Int):Int:=if 16<l\/(0<l/\s=true) then 1 else G
theorem zlk(x:Pt)(ca:Option Addr)(cc:Nat)(w:World)(b2:x.cm.length<=9223372036854775807)(hB:zyO x.cm)(hg:zjU w ca x.cm) :
  yL 101 #[.agg #[.int .i64 x.o,.int .i64 x.t,.int .i64 x.m,.slice ca x.cm.length cc,.bool x.s]] w fun e w' => e=.returned (.int .i64 (zsj x.cm.length x.s (zbp x.cm)))/\Below w.heap.size w w' := by
 have HG:Hid (zjU w ca x.cm):=hg;have BG:Hid (zyO x.cm):=hB;have GS:Hid (∀ j,j<x.cm.length->zbp (x.cm.drop j)=if zaz (gr x.cm j)=0 then zbp (x.cm.drop (j+1)) else zaz (gr x.cm j)):=fun j hj=>zoc hj;have GN:Hid (zbp (x.cm.drop x.cm.length)=0):=zqx _;have T:Hid (zbp (x.cm.drop 0)=zbp x.cm):=by show zbp _=_;rw[List.drop_zero]
 clear hg hB;obtain⟨xo,xt,xm,C,xs⟩:=x;dsimp only at *;obtain⟨cl,F⟩:∃ z,C.length=z:=⟨_,rfl⟩;have HC:Hid (C.length=cl):=F;rw[F] at b2 GS GN |-;clear F;unfold zsj;by_cases b4:16<cl
 ·rw[yb (Or.inl b4)];have g1:decide ((16:Int)<(cl:Int))=true:=yF (by omega);clear HG BG GS GN T
  go_enter Tryz.func101,Tryz.ntmps101
  go_wp2_with fail
  go_ret;exact⟨rfl,zaa _ _⟩
 ·have g1:decide ((16:Int)<(cl:Int))=false:=yE (by omega)
  have I:Hid (∀ (O:Int),zbp C=O->(cl=0\/xs=false)->yL 101 #[.agg #[.int .i64 xo,.int .i64 xt,.int .i64 xm,.slice ca cl cc,.bool xs]] w fun e w' => e=.returned (.int .i64 O)/\Below w.heap.size w w'):=fun O b0 a6=>by
   rw[b0] at T;clear b0;by_cases h0:0<cl
   ·have b5:xs=false:=by rcases a6 with h|h;omega;exact h
    subst b5;have g2:decide ((0:Int)<(cl:Int))=true:=yF (by omega);clear a6
    go_enter Tryz.func101,Tryz.ntmps101
    go_wp2_with fail
    go_loopg [23] cl (fun g s23 wr=>∃ j:Nat,j<=cl/\cl-j<=g/\s23=.int .i64 j/\Hid (Below w.heap.size w wr)/\Hid (zbp (C.drop j)=O))
    case atStart=>exact⟨0,by omega,by omega,rfl,zaa _ _,T⟩
    case round =>
     obtain⟨j,hj,b9,rfl,D,J⟩:=hrel;clear T;by_cases a5:j<cl
     ·have b6:(j:Int)<(cl:Int):=(by omega);obtain⟨b,o,ga,gc,ea,c0,F⟩:=(HG.out.below D.out) j (by rw[HC.out];exact a5);subst ea;have b8:b<wr.heap.size:=yd _ _ c0;obtain⟨b3,a9⟩:=BG.out j (by rw[HC.out];exact a5);have D1:Hid (∀ o1:Obj,_):=fun o1=>zfH ga gc (gr C j) (wr.alloc o1) b3 a9 (F.below (zaa _ _));have a8:=(GS.out j a5).symm.trans J.out;have M:Hid _:=a8;clear F a9 a8 J;generalize gr C j=G at *;generalize zaz G=E at *;generalize G.length=gl at *
      go_wp2_with fail
      refine ye (D1.out _) ?_;rintro e w1 ⟨rfl,b1⟩;have a7:Hid (Below w.heap.size w w1):=D.out.trans (((zaa _ _).trans (b1.mono (by simp))).mono D.out.size);clear b1 D1;by_cases hE:E=0
      ·have U:Hid (zbp (C.drop (j+1))=O):=(by have:=M.out;rw[yb hE] at this;exact this);subst hE;clear M
       go_wp2_with fail
       go_roundg (cl-(j+1))
       case measure=>omega
       case rel=>exact⟨j+1,by omega,by omega,by go_num,a7,U⟩
      ·have U:Hid (E=O):=(by have:=M.out;rw[ya hE] at this;exact this);have y1:decide (E=0)=false:=yE hE;have y2:(E == 0)=false:=(by simp[hE]);clear M
       go_wp2_with fail
       go_ret;exact⟨by rw[U.out];rfl,a7.out⟩
     ·have e:j=cl:=(by omega);have Z:Hid (0=O):=(by have:=J.out;rw[e,GN.out] at this;exact this);have b7:decide ((j:Int)<(cl:Int))=false:=yE (by omega);clear J e
      go_wp2_with fail
      go_ret;exact⟨by rw[Z.out];rfl,D.out⟩
   ·have hz:cl=0:=(by omega);subst hz;have Z:Hid (0=O):=(by have h1:=T.out;have h2:=GN.out;show _=_;rw[<- h1,<- h2]);clear a6 GS GN T HG BG
    go_enter Tryz.func101,Tryz.ntmps101
    go_wp2_with fail
    go_loopg [23] 0 (fun g s23 wr=>s23=.int .i64 0/\Hid (Below w.heap.size w wr))
    case atStart=>exact⟨rfl,zaa _ _⟩
    case round =>
     obtain⟨rfl,D⟩:=hrel
     go_wp2_with fail
     go_ret;exact⟨by rw[Z.out];rfl,D.out⟩
  by_cases h0:0<cl
  ·cases xs
   ·rw[ya (fun h=>by rcases h with h|h;omega;cases h.2)];exact I.out _ rfl (Or.inr rfl)
   ·rw[yb (Or.inr ⟨h0,rfl⟩)];have g2:decide ((0:Int)<(cl:Int))=true:=yF (by omega);clear HG BG GS GN T I
    go_enter Tryz.func101,Tryz.ntmps101
    go_wp2_with fail
    go_ret;exact⟨rfl,zaa _ _⟩
  ·rw[ya (fun h=>by rcases h with h|h;omega;omega)];exact I.out _ rfl (Or.inl (by omega))
theorem zfT(Fr o t:Int)(w:World) :
  yL 158 #[.int .i64 Fr,.int .i64 o,.int .i64 t] w fun e w' => e=.returned (.int .i64 (zcu Fr o t))/\w' = w:=by
 have J:Hid (∀ W,_):=fun W=>zfV o Fr W;have M:Hid (∀ W,_):=fun W=>zin t W;unfold zcu;by_cases E:0<=o/\o<Fr
 ·rw[yF E] at J;rw[ya (yI E)];by_cases I:0<=t/\t<=1000
  ·rw[yF I] at M;rw[ya (yI I)];clear E I
   go_enter Tryz.func158,Tryz.ntmps158
   go_wp2_with fail
   refine ye (J.out _) ?_;rintro e O ⟨rfl,D⟩;subst D
   go_wp2_with fail
   refine ye (M.out _) ?_;rintro e w3 ⟨rfl,F⟩;subst F
   go_wp2_with fail
   go_ret;exact⟨rfl,rfl⟩
  ·rw[yE I] at M;rw[yb I];clear E I
   go_enter Tryz.func158,Tryz.ntmps158
   go_wp2_with fail
   refine ye (J.out _) ?_;rintro e O ⟨rfl,D⟩;subst D
   go_wp2_with fail
   refine ye (M.out _) ?_;rintro e w3 ⟨rfl,F⟩;subst F
   go_wp2_with fail
   go_ret;exact⟨rfl,rfl⟩
 ·rw[yE E] at J;rw[yb E];clear E
  go_enter Tryz.func158,Tryz.ntmps158
  go_wp2_with fail
  refine ye (J.out _) ?_;rintro e O ⟨rfl,D⟩;subst D
  go_wp2_with fail
  go_ret;exact⟨rfl,rfl⟩
end Go.Proofs.YtcbcpomacdngmaaGreat
