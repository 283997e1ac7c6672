/-
  x
-/
import Derived.Test.YtcbcpomacdngmaaGreatQ25
namespace Go.Proofs.YtcbcpomacdngmaaGreat
set_option maxRecDepth 100000
set_option maxHeartbeats 4000000
set_option linter.unusedVariables false
open Go.RowKit Go Go.ChangeShapes Go.WideShapes
def zve:Ml:=⟨0,[]⟩
def ml(q:List Ml)(i:Nat):Ml:=q.getD i zve
theorem ztT{q:List Ml}{i:Nat}(h:i<q.length):ml q i=q[i]:=zae q zve h
def zix(w:World)(a:Option Addr)(q:List Ml):Prop :=
 ∀ i,i<q.length->∃ b o ga gc,a=some ⟨b,o,none⟩/\w.cell? ⟨b,o+i*2,none⟩=some (.int .i64 (ml q i).f)/\w.cell? ⟨b,o+i*2+1,none⟩=some (.slice ga (ml q i).g.length gc)/\zaG w ga (ml q i).g
theorem zix.below{w w' : World}{a:Option Addr}{q:List Ml}(h:zix w a q)(D:Below w.heap.size w w'):zix w' a q:=fun i hi=>by
 obtain⟨b,o,ga,gc,e,c0,c1,hc⟩:=h i hi;exact⟨b,o,ga,gc,e,zab c0 D,zab c1 D,hc.below D⟩
def qu(Q:List (List Ml))(i:Nat):List Ml:=Q.getD i []
def znR(w:World)(a:Option Addr)(Q:List (List Ml)):Prop :=
 ∀ i,i<Q.length->∃ b o qa qc,a=some ⟨b,o,none⟩/\w.cell? ⟨b,o+i,none⟩=some (.slice qa (qu Q i).length qc)/\SlA qa (qu Q i).length qc/\zix w qa (qu Q i)
theorem znR.below{w w' : World}{a:Option Addr}{Q:List (List Ml)}(h:znR w a Q)(D:Below w.heap.size w w'):znR w' a Q:=fun i hi=>by
 obtain⟨b,o,qa,qc,e,c0,hs,E⟩:=h i hi;exact⟨b,o,qa,qc,e,zab c0 D,hs,E.below D⟩
def pg(P:List (List Ac))(i:Nat):List Ac:=P.getD i []
def znQ(w:World)(a:Option Addr)(P:List (List Ac)):Prop :=
 ∀ i,i<P.length->∃ b o pa pc,a=some ⟨b,o,none⟩/\w.cell? ⟨b,o+i,none⟩=some (.slice pa (pg P i).length pc)/\zcO w pa (pg P i)
theorem znQ.below{w w' : World}{a:Option Addr}{P:List (List Ac)}(h:znQ w a P)(D:Below w.heap.size w w'):znQ w' a P:=fun i hi=>by
 obtain⟨b,o,qa,qc,e,c0,E⟩:=h i hi;exact⟨b,o,qa,qc,e,zab c0 D,E.below D⟩
def rl(R:List Rl)(i:Nat):Rl:=R.getD i zbK
def znS(w:World)(a:Option Addr)(R:List Rl):Prop :=
 ∀ i,i<R.length->∃ b o A,a=some ⟨b,o,none⟩/\w.cell? ⟨b,o+i*4,none⟩=some (.slice (RA.a0 A) (rl R i).s.length A.c0)/\w.cell? ⟨b,o+i*4+1,none⟩=some (.slice A.a1 (rl R i).hs.length A.c1)/\w.cell? ⟨b,o+i*4+2,none⟩=some (.slice A.a2 (rl R i).i.length A.c2)/\w.cell? ⟨b,o+i*4+3,none⟩=some (.slice A.a3 (rl R i).t.length A.c3)/\zcp w A (rl R i)
theorem znS.below{w w' : World}{a:Option Addr}{R:List Rl}(h:znS w a R)(D:Below w.heap.size w w'):znS w' a R:=fun i hi=>by
 obtain⟨b,o,A,e,c0,c1,c2,c3,E⟩:=h i hi;exact⟨b,o,A,e,zab c0 D,zab c1 D,zab c2 D,zab c3 D,E.below D⟩
structure WA where
 a0:Option Addr
 a1:Option Addr
 a2:Option Addr
 a3:Option Addr
 a4:Option Addr
 c0:Nat
 c1:Nat
 c2:Nat
 c3:Nat
 c4:Nat
abbrev wlV(A:WA)(W:Wl):Value:=.agg #[.slice A.a0 W.fs.length A.c0,.slice A.a1 W.rs.length A.c1,.slice A.a2 W.ps.length A.c2,.slice A.a3 W.qs.length A.c3,.slice A.a4 W.pt.length A.c4]
structure zic (w:World) (A:WA) (W:Wl):Prop where
 fs:zaS w A.a0 W.fs
 rs:znS w A.a1 W.rs
 ps:znQ w A.a2 W.ps
 qs:znR w A.a3 W.qs
 pt:zbR w A.a4 W.pt
structure WlC (A:WA) (W:Wl):Prop where
 s0:SlA A.a0 W.fs.length A.c0
 s1:SlA A.a1 W.rs.length A.c1
 s2:SlA A.a2 W.ps.length A.c2
 s3:SlA A.a3 W.qs.length A.c3
 s4:SlA A.a4 W.pt.length A.c4
theorem zic.below{w w' : World}{A:WA}{W:Wl}(h:zic w A W)(D:Below w.heap.size w w'):zic w' A W:=⟨h.fs.below D,h.rs.below D,h.ps.below D,h.qs.below D,h.pt.below D⟩
theorem zcu:SlA none 0 0:=⟨fun _=>rfl,yj _,by omega⟩
theorem zpm(w:World)(A:WA):zic w A zlg:=⟨fun _ h=>absurd h (yw _),fun _ h=>absurd h (yw _),fun _ h=>absurd h (yw _),fun _ h=>absurd h (yw _),fun _ h=>absurd h (yw _)⟩
abbrev ziA(X:Nat->Prop)(w:World)(A:WA)(W:Wl):Prop:=St X (fun w=>zic w A W) w
theorem zAF{w:World}{A:WA}{W:Wl}(h:zic w A W):ziA (fun _=>False) w A W:=fun w' E=>by
 have D:zic { w' with os:=w.os,tape:=w.tape,output:=w.output } A W:=h.below ⟨rfl,rfl,rfl,E.size,fun b F=>E.block b F id⟩;exact⟨D.fs,D.rs,D.ps,D.qs,D.pt⟩
def zsc(W:Wl):Prop:=W.fs.length<=9223372036854775807/\(W.rs.length<=9223372036854775807/\∀ i,i<W.rs.length->zsb (rl W.rs i))/\(W.ps.length<=9223372036854775807/\∀ i,i<W.ps.length->(pg W.ps i).length<=9223372036854775807)/\(W.qs.length<=9223372036854775807/\∀ i,i<W.qs.length->(qu W.qs i).length<=9223372036854775807/\∀ j,j<(qu W.qs i).length->(ml (qu W.qs i) j).g.length<=9223372036854775807/\zkz (ml (qu W.qs i) j).g)/\(W.pt.length<=9223372036854775807/\zmu W.pt)
def pk(L:List (Int × Bool))(i:Nat):Int × Bool:=L.getD i (0,false)
def zdG(w:World)(a:Option Addr)(L:List (Int × Bool)):Prop :=
 ∀ i,i<L.length->∃ b o,a=some ⟨b,o,none⟩/\w.cell? ⟨b,o+i*2,none⟩=some (.int .i64 (pk L i).1)/\w.cell? ⟨b,o+i*2+1,none⟩=some (.bool (pk L i).2)
theorem zdG.below{w w' : World}{a:Option Addr}{L:List (Int × Bool)}(h:zdG w a L)(D:Below w.heap.size w w'):zdG w' a L:=fun i hi=>by
 obtain⟨b,o,e,c0,c1⟩:=h i hi;exact⟨b,o,e,zab c0 D,zab c1 D⟩
def zeO(W:Wl)(L:List (Int × Bool)):Int:=if zbp W=0 then (if 120<L.length then 1 else 0) else zbp W
def zff(W:Wl)(L:List (Int × Bool)):Wl:=if zeO W L=0 then L.foldl zdC W else zlg
def zjO(W:Wl)(L:List (Int × Bool)):List Int:=if zeO W L=0 then znv W L else []
def zgN:Prop:=∀ (A:WA) (W:Wl) (w:World),zsc W->WlC A W->zic w A W ->
 Calls Tryz.prog 10 #[wlV A W] w fun e w' => e=.returned (.int .i64 (zbp W))/\Below w.heap.size w w'
def zhw:Prop:=∀ (X:Nat->Prop) (A:WA) (W:Wl) (D:Option Addr) (E:Nat) (L:List (Int × Bool)) (w:World),(∀ b,X b->b<w.heap.size)->zsc W->WlC A W->ziA X w A W->L.length<=9223372036854775807->SlA D L.length E->zdG w D L ->
 Calls Tryz.prog 20 #[wlV A W,.slice D L.length E] w fun e w' => ∃ (B:WA) (sa:Option Addr) (sc:Nat),e=.returned (.tuple #[wlV B (zff W L),.slice sa (zjO W L).length sc,.int .i64 (zeO W L)])/\Below w.heap.size w w' /\ WlC B (zff W L)/\ziA X w' B (zff W L)/\St X (fun w=>zaj w sa (zjO W L)) w'
def tW:Wl:=⟨[⟨-1,0,7,0,false⟩,⟨0,1,1,0,false⟩],[zdj 2,zdj 2],[[⟨1,0,0,0,1⟩,⟨5,0,0,0,7⟩,⟨10,1,0,0,1⟩,⟨9,0,0,0,0⟩],[⟨1,0,0,0,0⟩,⟨11,0,0,0,1⟩,⟨6,0,0,0,0⟩,⟨12,0,0,0,0⟩,⟨10,0,0,0,0⟩]],[[],[]],[]⟩
def tL:List (Int × Bool):=[(0,true),(1,false),(1,false)]
theorem zBg:zeO tW tL=0/\zjO tW tL=[0,0,8]/\(rl (zff tW tL).rs 0).t=[0,0,0,1]/\(rl (zff tW tL).rs 1).t=[0,0,7,-7,-7]/\(zff tW tL).rs.length=2:=by decide
theorem zkJ{p q:Nat->Bool}:∀ {l:List Nat},(∀ x ∈ l,q x=true->p x=true)->l.countP q<=l.countP p
 | [],_=>yj _
 | x :: l,h=>by
  have F:=zkJ (l:=l) (fun y E=>h y (List.mem_cons_of_mem _ E));have D:=h x (List.mem_cons_self ..);rw[List.countP_cons,List.countP_cons]
  cases hq:q x with
  | true=>rw[D hq];simp;exact F
  | false=>simp;omega
theorem zkK{p q:Nat->Bool}:∀ {l:List Nat},(∀ x ∈ l,q x=true->p x=true)->(∃ x ∈ l,p x=true/\q x=false)->l.countP q<l.countP p
 | [],_,⟨_,h,_⟩=>by cases h
 | x :: l,h,⟨y,D,h1,E⟩=>by
  have hl:=fun z I=>h z (List.mem_cons_of_mem x I);have F:=h x (List.mem_cons_self ..);rw[List.countP_cons,List.countP_cons];rcases List.mem_cons.1 D with e|D
  ·subst e;have:=zkJ (l:=l) hl;rw[h1,E];simp;omega
  ·have:=zkK (l:=l) hl ⟨y,D,h1,E⟩
   cases hq:q x with
   | true=>rw[F hq];simp;exact this
   | false=>simp;omega
section
variable {P:Program} {ops:Array Oper} {Q:Exit->Act->World->Prop} {md:Region.Mode}
def zwn(ops:Array Oper)(listed:Array Bool):Nat:=(List.range ops.size).countP fun i=>!listed.getD i true
theorem zne{listed:Array Bool}{i:Nat}(hi:i ∈ Region.ready md ops listed):zwn ops (listed.setIfInBounds i true)<zwn ops listed:=by
 have h:=hi;unfold Region.ready at h;rw[List.mem_filter,Bool.and_eq_true] at h;obtain⟨I,E,_⟩:=h;refine zkK (fun x _ F=>?_) ⟨i,I,E,?_⟩
 ·by_cases e:x=i
  ·subst e;exact E
  ·have:(listed.setIfInBounds i true).getD x true=listed.getD x true:=by
    simp only[Array.getD_eq_getD_getElem?];rw[Array.getElem?_setIfInBounds_ne (by omega)]
   rw[this] at F;exact F
 ·have hl:i<listed.size:=by
   rcases Nat.lt_or_ge i listed.size with D|D
   ·exact D
   ·simp[Array.getElem?_eq_none D] at E
  simp[hl]
theorem znL(I:Array Bool->Act->World->Prop)
  (E:∀ listed a w i,I listed a w->i ∈ Region.ready md ops listed->wpOp P ops Q i (I (listed.setIfInBounds i true)) a w)
  (D:∀ listed a w,I listed a w->Region.ready md ops listed=[]->Q .normal a w) :
  ∀ (fuel:Nat) (listed:Array Bool) (a:Act) (w:World),zwn ops listed<=fuel->I listed a w->wpAny P md ops Q fuel listed a w
 | 0,listed,a,w,O,F=>by
  have h0:Region.ready md ops listed=[]:=by
   cases h:Region.ready md ops listed with
   | nil=>rfl
   | cons i l =>
    have:=zne (md:=md) (ops:=ops) (listed:=listed) (i:=i) (by rw[h];exact List.mem_cons_self ..);omega
  exact⟨h0,D _ _ _ F h0⟩
 | fuel+1,listed,a,w,O,F=>⟨fun h=>D _ _ _ F h,fun i hi=>wpOp_mono (fun J w' M=>znL I E D fuel _ J w' (by have:=zne (md:=md) hi;omega) M) (E _ _ _ _ F hi)⟩
theorem zmp{id:Nat}{a:Act}{w:World}(I:Array Bool->Act->World->Prop)(F:P.follows .mixedOrders=true)(h0:I (Array.replicate ops.size false) a { w with drawn:=w.drawn+1 })
  (E:∀ listed a w i,I listed a w->i ∈ Region.ready .any ops listed->wpOp P ops Q i (I (listed.setIfInBounds i true)) a w)
  (D:∀ listed a w,I listed a w->Region.ready .any ops listed=[]->Q .normal a w):(Code.region id ops true).wp P Q a w :=
 wp_region_any F (znL I E D _ _ _ _ (by unfold zwn;exact yE List.countP_le_length (by simp)) h0)
theorem zpd{listed:Array Bool}{i:Nat}(h:i ∈ Region.ready md ops listed):i<ops.size/\listed.getD i true=false/\∃ o,ops[i]?=some o/\(o.after.all fun e=>!Region.binds md e || listed.getD e.on false)=true:=by
 unfold Region.ready at h;rw[List.mem_filter,Bool.and_eq_true] at h;obtain⟨h1,D,E⟩:=h;rw[List.mem_range] at h1;refine⟨h1,by simpa using D,ops[i],by simp[h1],?_⟩;simpa [h1] using E
theorem zoK{listed:Array Bool}{j:Nat}(h:listed.getD j false=true):listed.getD j true=true:=by
 rw[Array.getD_eq_getD_getElem?] at h |-
 cases hj:listed[j]? with
 | none=>rw[hj] at h;cases h
 | some b=>rw[hj] at h;exact h
theorem zaU{o:Oper}{listed:Array Bool}{j:Nat}{g:Ground}(h:(o.after.all fun e=>!Region.binds md e || listed.getD e.on false)=true)(E:(⟨j,g⟩:Edge) ∈ o.after)(D:Region.binds md ⟨j,g⟩=true):listed.getD j true=true:=by
 rw[Array.all_eq_true_iff_forall_mem] at h;have:=h _ E;rw[D] at this;exact zoK (by simpa using this)
theorem zaK{listed:Array Bool}{i j:Nat}(h:(listed.setIfInBounds i true).getD j true=true)(D:j≠i):listed.getD j true=true:=by
 rw[Array.getD_eq_getD_getElem?] at h |-
 rwa [Array.getElem?_setIfInBounds_ne (Ne.symm D)] at h
theorem zaL{listed:Array Bool}{i:Nat}{o:Oper}(h:Region.ready md ops listed=[])(D:ops[i]?=some o)(hd:(o.after.all fun e=>!Region.binds md e || listed.getD e.on false)=true):listed.getD i true=true:=by
 have hi:i<ops.size:=(Array.getElem?_eq_some_iff.1 D).1;by_cases hl:listed.getD i true=true
 ·exact hl
 ·have:i ∈ Region.ready md ops listed:=by
   unfold Region.ready;rw[List.mem_filter,Bool.and_eq_true,List.mem_range];refine⟨hi,by simpa using hl,?_⟩;rw[D];exact hd
  rw[h] at this;cases this
theorem zaO{i:Nat}{K:Act->World->Prop}{a:Act}{w w' : World}{o:Oper}{v:Value}(E:ops[i]?=some o)(hg:o.guard=none)(F:(execOp a.eval o).run P w=.ok (.value v) w')(D:K (a.put o.dst v) w'):wpOp P ops Q i K a w:=by
 unfold wpOp;rw[E];dsimp only;have I:Region.wanted o (yielded ops a.tmps)=true:=by unfold Region.wanted;rw[hg]
 rw[yb I];left;unfold Oper.wp;rw[F];exact D
end
theorem zcv{k:Nat}{Es:List Int}{W V:Wl}{o:Int}(E:zao Es=0->(rlm V k).t=(rlm W k).t):(rlm (zfh Es W V o).w k).t=(rlm W k).t:=by
 rcases zqn (Es:=Es) (W:=W) (V:=V) (o:=o) with h |⟨h,D⟩
 ·rw[h]
 ·rw[D];exact E h
theorem zyw{W:Wl}{k:Nat}{n a:Int}(h:zdK W.fs k n 5=0)(R:Rl):(W.rs.set n.toNat R).getD k zbK=rlm W k:=by
 obtain⟨_,_,D,h5⟩:=zca h;obtain⟨q,rfl,E,_⟩:=zdt D;rw[yi];unfold zsu at h5;rw[ya (by decide),ya (by decide),ya (by decide)] at h5;simp only[Bool.and_eq_true,Bool.not_eq_true', decide_eq_false_iff_not] at h5;exact ziM _ _ _ _ _ (fun e=>h5.1 (by rw[e]))
theorem zpq{W:Wl}(H:zan W){k:Nat}(E:k<W.fs.length)(x:Ac):(rlm (zdQ W k x).w k).t=(rlm W k).t:=by
 have D:k<W.rs.length:=by rw[H.lr];exact E
 unfold zdQ
 repeat' split
 ·exact zcv (fun _=>rfl)
 ·exact zcv (fun _=>rfl)
 ·exact zcv (fun _=>rfl)
 ·exact zcv (fun _=>rfl)
 ·exact zcv (fun h=>by
   show ((W.rs.set _ _).getD k zbK).t=_;rw[zyw (a:=x.a) (zat h).1])
 ·exact zcv (fun _=>rfl)
 ·exact zcv (fun _=>rfl)
 ·exact zcv (fun _=>rfl)
 ·exact zcv (fun _=>by
   show (rlm (setR W k _) k).t=_;rw[zcK D,yb rfl])
 ·exact zcv (fun _=>rfl)
 ·exact zcv (fun h=>by
   rw[zcK D,yb rfl];exact(zok (zat h).1).2.1.tld)
theorem znF{W:Wl}{k:Nat}(D:k<W.rs.length)(o:Int):rlm (zmj W k o) k={ rlm W k with t:=(rlm W k).t++[o] }:=by
 unfold zmj;rw[zcK D,yb rfl]
theorem zjY{W:Wl}(H:zan W){k:Nat}(D:k<W.fs.length)(o:Int)(E:(rlm W k).t.length+1<=4800):zan (zmj W k o):=by
 obtain⟨r1,r2,r3,F⟩:=zaB (H.rs k D);exact H.setR (zen r1 r2 r3 (by show ((rlm W k).t++[o]).length<=4800;rw[List.length_append];simpa using E)) D
theorem zzC{W:Wl}(H:zan W){k:Nat}(D:k<W.fs.length)(x:Ac)(M:(rlm W k).t.length+1<=4800) :
  zan (doW k W x)/\Aft k W (doW k W x)/\(rlm (doW k W x) k).t=(rlm W k).t++[toldOf (zdQ W k x)]:=by
 have H1:=zsr H D x;have J:=zsq H D x;have E:k<(zdQ W k x).w.fs.length:=by rw[zxU];exact D
 have I:=zpq H D x;have F:k<(zdQ W k x).w.rs.length:=by rw[H1.lr];exact E
 refine⟨zjY H1 E _ (by rw[I];exact M),Aft.trans H J (Aft.setR F) D,?_⟩;show (rlm (zmj _ _ _) k).t=_;rw[znF F];dsimp only;rw[I]
theorem zlJ{k:Nat}:∀ (D:List Ac) {W:Wl},zan W->k<W.fs.length->(rlm W k).t.length+D.length<=4800 ->
  zan (D.foldl (doW k) W)/\Aft k W (D.foldl (doW k) W)/\(rlm (D.foldl (doW k) W) k).t.length=(rlm W k).t.length+D.length
 | [],W,H,E,_=>⟨H,Aft.refl k W,rfl⟩
 | x :: D,W,H,E,J=>by
  have I:(rlm W k).t.length+1<=4800:=by simp at J;omega
  obtain⟨a,b,c⟩:=zzC H E x I;have F:k<(doW k W x).fs.length:=by rw[b.len];exact E
  have hl:(rlm (doW k W x) k).t.length=(rlm W k).t.length+1:=by rw[c,List.length_append];rfl
  obtain⟨a2,M,c2⟩:=zlJ D a F (by rw[hl];simp at J;omega);refine⟨a2,Aft.trans H b M E,?_⟩;rw[List.foldl_cons,c2,hl,List.length_cons];omega
theorem zfi(W:Wl)(k:Nat)(s:Bool):(zbM W k s).fs=W.fs:=by unfold zbM;split <;> rfl
theorem ziX(W:Wl)(k:Nat)(s:Bool):(zbM W k s).ps=W.ps:=by unfold zbM;split <;> rfl
theorem zoc{W:Wl}{k:Nat}(E:k<W.rs.length)(s:Bool){j:Nat}(D:j≠k):rlm (zbM W k s) j=rlm W j:=by
 unfold zbM;split
 ·rw[zcK E,ya D]
 ·show rlm (setR W k _) j=_;rw[zcK E,ya D]
theorem zhx{W:Wl}{k:Nat}(D:k<W.rs.length)(s:Bool):rlm (zbM W k s) k={ rlm W k with i:=if s then [] else ((que W k).getD 0 ⟨0,[]⟩).g }:=by
 unfold zbM;split
 ·rw[zcK D,yb rfl]
 ·show rlm (setR W k _) k=_;rw[zcK D,yb rfl]
theorem ziY{W:Wl}(H:zan W){k:Nat}(D:k<W.fs.length)(s:Bool)(J:s=false->(que W k).length≠0):zan (zbM W k s):=by
 obtain⟨r1,r2,r3,I⟩:=zaB (H.rs k D);obtain⟨M,F⟩:=zby.1 (H.qs k D);unfold zbM;split
 ·exact H.setR (zen r1 r2 rfl I) D
 ·rename_i h
  have h0:0<(que W k).length:=by
   have:=J (by simpa using h);omega
  have E:=F ((que W k).getD 0 ⟨0,[]⟩) (by rw[zae _ _ h0];exact List.getElem_mem h0);have H1:=H.setR (R:={ rlm W k with i:=((que W k).getD 0 ⟨0,[]⟩).g }) (zen r1 r2 E.2 I) D;exact zan.queue (q:=(que W k).drop 1) H1 D (zby.2 ⟨by rw[List.length_drop];omega,fun m E=>F m (List.mem_of_mem_drop E)⟩)
theorem zei{W:Wl}{k:Int}{s:Bool}(h:zdL W k s=0):zan W/\∃ q:Nat,k=q/\q<W.fs.length/\(fr W.fs q).g=false/\bits .and .i64 (fr W.fs q).m 1≠0/\(rlm W q).t.length<=4760/\(s=false->(que W q).length≠0):=by
 unfold zdL at h;obtain⟨h1,h⟩:=zat h;obtain⟨I,h⟩:=zat h;obtain⟨D,h⟩:=zat h;obtain⟨E,h⟩:=zat h;obtain⟨h5,_⟩:=zat h;obtain⟨q,rfl,J,hg⟩:=zdt I;rw[yi] at D E h5;refine⟨zck.1 h1,q,rfl,J,hg,fun e=>?_,?_,fun e F=>?_⟩
 ·unfold zjt at D;rw[yb e] at D;omega
 ·by_cases e:4760<(rlm W q).t.length
  ·rw[yb e] at E;omega
  ·omega
 ·rw[yb ⟨e,F⟩] at h5;omega
theorem zlY{W:Wl}{q:Nat}{s:Bool}(h:zdL W q s=0) :
  zan (zfd W q s)/\Aft q (zbM W q s) (zfd W q s)/\(rlm (zfd W q s) q).t.length=(rlm W q).t.length+(prg W q).length/\(zfd W q s).fs.length=W.fs.length:=by
 obtain⟨H,D,e,E,hg,U,ht,F⟩:=zei h;have:D=q:=by omega
 subst this;have T:D<W.rs.length:=by rw[H.lr];exact E
 have J:=ziY H E s F;have O:D<(zbM W D s).fs.length:=by rw[zfi];exact E
 have I:(rlm (zbM W D s) D).t.length=(rlm W D).t.length:=by rw[zhx T]
 have Z:=H.ps D E
 have M:zfd W D s=(prg W D).foldl (doW D) (zbM W D s):=by
  unfold zfd;rw[yb h,yi]
 obtain⟨a,b,c⟩:=zlJ (prg W D) J O (by rw[I];omega);rw[M];exact⟨a,b,by rw[c,I],by rw[b.len,zfi]⟩
theorem znw{W:Wl}(H:zan W)(p:Int × Bool):zan (zdC W p)/\(zdC W p).fs.length=W.fs.length:=by
 unfold zdC;by_cases h:zdL W p.1 p.2=0
 ·rw[yb h];obtain⟨_,q,e,_⟩:=zei h;rw[e] at h |-;exact⟨(zlY h).1,(zlY h).2.2.2⟩
 ·rw[ya h];exact⟨H,rfl⟩
theorem zfX:∀ (l:List (Int × Bool)) {W:Wl},zan W->zan (l.foldl zdC W)/\(l.foldl zdC W).fs.length=W.fs.length
 | [],W,H=>⟨H,rfl⟩
 | p :: l,W,H=>by
  obtain⟨a,b⟩:=znw H p;obtain⟨c,d⟩:=zfX l a;exact⟨c,d.trans b⟩
theorem ziT:∀ (l:List (Int × Bool)) (W:Wl),(znv W l).length=l.length
 | [],_=>rfl
 | p :: l,W=>by rw[znv,List.length_cons,List.length_cons,ziT l]
def Idle(W:Wl)(k:Nat):Prop:=(fr W.fs k).g=true\/bits .and .i64 (fr W.fs k).m 1=0
theorem zmW{W:Wl}{k:Nat}(h:Idle W k)(s:Bool):zdL W k s≠0:=fun e=>by
 obtain⟨_,q,E,_,hg,D,_⟩:=zei e;have:q=k:=by omega
 subst this;rcases h with h|h
 ·rw[hg] at h;cases h
 ·exact D h
theorem zuL{W:Wl}{p:Int × Bool}{k:Nat}(I:k<W.fs.length)(J:p.1≠k)(H:zan W):(fr W.fs k).t<=(fr (zdC W p).fs k).t/\((fr (zdC W p).fs k).t=(fr W.fs k).t->rlm (zdC W p) k=rlm W k/\prg (zdC W p) k=prg W k)/\(fr (zdC W p).fs k).m=(fr W.fs k).m/\((fr W.fs k).g=true->(fr (zdC W p).fs k).g=true):=by
 unfold zdC;by_cases h:zdL W p.1 p.2=0
 ·rw[yb h];obtain⟨_,q,e,M,_⟩:=zei h;have E:k≠q:=fun F=>J (by rw[e,F]);rw[e] at h |-;obtain⟨_,A,_,_⟩:=zlY h;have D:k<(zbM W q p.2).fs.length:=by rw[zfi];exact I
  have t:=A.turn k D;have m:=A.may k D;have g:=A.gone k D;have r:=A.realm k D;have pr:=A.prog k D;rw[zfi] at t m g r pr;refine⟨t,fun F=>⟨(r F E).trans (zoc (by rw[H.lr];exact M) _ E),(pr F).trans ?_⟩,m,g⟩;show (zbM W q p.2).ps.getD k []=_;rw[ziX];rfl
 ·rw[ya h];exact⟨Int.le_refl _,fun _=>⟨rfl,rfl⟩,rfl,fun h=>h⟩
theorem zwS{W:Wl}{p:Int × Bool}{k:Nat}(D:p.1=k)(hi:Idle W k):zdC W p=W:=by
 unfold zdC;rw[D,ya (zmW hi p.2)]
theorem zvX{W:Wl}(H:zan W){k:Nat}(E:k<W.fs.length)(hi:Idle W k)(p:Int × Bool):Idle (zdC W p) k/\(fr W.fs k).t<=(fr (zdC W p).fs k).t/\((fr (zdC W p).fs k).t=(fr W.fs k).t->rlm (zdC W p) k=rlm W k):=by
 by_cases D:p.1=k
 ·rw[zwS D hi];exact⟨hi,Int.le_refl _,fun _=>rfl⟩
 ·obtain⟨a,b,c,d⟩:=zuL E D H;refine⟨?_,a,fun e=>(b e).1⟩;rcases hi with h|h
  ·exact Or.inl (d h)
  ·exact Or.inr (by rw[c];exact h)
theorem zmX:∀ (l:List (Int × Bool)) {W:Wl} {k:Nat},zan W->k<W.fs.length->Idle W k ->
  ((fr W.fs k).t<=(fr (l.foldl zdC W).fs k).t/\((fr (l.foldl zdC W).fs k).t=(fr W.fs k).t->rlm (l.foldl zdC W) k=rlm W k))/\∀ i,i<l.length->(l.getD i (0,false)).1=k->(znv W l).getD i 0≠0
 | [],W,k,H,E,hi=>⟨⟨Int.le_refl _,fun _=>rfl⟩,fun i hi=>absurd hi (yw _)⟩
 | p :: l,W,k,H,E,hi=>by
  obtain⟨a,b,c⟩:=zvX H E hi p;obtain⟨J,hl⟩:=znw H p;obtain⟨⟨d,e⟩,f⟩:=zmX l J (by rw[hl];exact E) a;refine⟨⟨Int.le_trans b d,fun h=>?_⟩,fun i D I=>?_⟩
  ·have h1:(fr (zdC W p).fs k).t=(fr W.fs k).t:=by
    have M:(fr (l.foldl zdC (zdC W p)).fs k).t=(fr W.fs k).t:=h;omega
   exact(e (by rw[h1];exact h)).trans (c h1)
  ·match i,D with
   | 0,_ =>
    have F:p.1=k:=I;show zdL W p.1 p.2≠0;rw[F];exact zmW hi p.2
   | i+1,D=>exact f i (by simpa using D) I
theorem zkx{P:Program}(w:World)(J T U elem:TypeId)(i:TypeInfo)(d a:Option Addr)(D F E I:Nat)(O:P.underlying J=some (.slice elem))(M:P.info? elem=some i)(hn:Nat.min E D=0) :
  (Builtin.copy_ #[J,T] U #[.slice d D F,.slice a E I]).run P w=.ok (goInt 0) w:=by
 have hl:∀ (x:Addr),(loadCells x 0).run P w=.ok #[] w:=fun x=>by simpa using run_loadCells_list (P:=P) w x [] (by simp)
 cases d <;> cases a <;> simp[Builtin.copy_,run_underlying O,Builtin.lenOf,Builtin.firstCells,sizeOf,typeInfo,M,hn,storeCells,hl]
theorem zcW{P:Program}{w:World}{ops:Array Oper}{rest:List Oper}{o:Oper}{a:Act}{Q:Exit->Act->World->Prop}(O:o.guard=none)(d s:Operand)(Z sT:TypeId)
  (ho:o.op=.call { callee:=.builtin .copy,args:=#[d,s],argTypes:=#[Z,sT] }) (elem:TypeId) (i:TypeInfo) (size:Nat) (hu:P.underlying Z=some (.slice elem)) (hi:P.info? elem=some i) (hz:i.size=size)
  (g n D:Nat) (sa:Option Addr) (F:Nat) (hd:a.eval d=.slice (some ⟨g,0,none⟩) n D) (hs:a.eval s=.slice sa n F)
  (I:List Value) (t:TypeId) (hg:w.heap[g]?=some (.cells I.toArray t (0,0))) (J:List Value) (hl:J.length=n*size) (E:I.length=n*size) (T:sa=none->n=0)
  (hsrc:∀ M,sa=some M->∀ j v,J[j]?=some v->w.cell? (M.add j)=some v) (h1:∀ v ∈ J,v.oneCell' = true)
  (h:∀ w', Hid (w'.heap[g]?=some (.cells J.toArray t (0,0)))->Hid (∀ B w0,Below B w0 w->B<=g->Below B w0 w')->wpList P ops Q rest (a.put o.dst (goInt n)) w'):wpList P ops Q (o :: rest) a w:=by
 subst hz;by_cases h0:n=0
 ·subst h0;rw[Nat.zero_mul] at hl E;obtain rfl:J=[]:=List.eq_nil_of_length_eq_zero hl;obtain rfl:I=[]:=List.eq_nil_of_length_eq_zero E;refine wpList_plain O fun K hK=>?_;have U:=zkx (P:=P) w Z sT o.type elem i (some ⟨g,0,none⟩) sa 0 D 0 F hu hi rfl;unfold Oper.wp;simp[execOp,ho,resolve,invoke,builtin,hd,hs,U,Result.andThen];exact hK _ _ (h w hg (fun _ _ hb _=>hb))
 ·cases sa with
  | none=>exact absurd (T rfl) h0
  | some M =>
   refine zcX O d s Z sT ho elem i hu hi g 0 n D M n F n hd hs I t hg J (Nat.min_self n).symm hl (hsrc M rfl) (by omega) h1 (fun w' hw hb=>h w' ?_ hb);show _=_;rw[hw];simp[hl,E]
end Go.Proofs.YtcbcpomacdngmaaGreat
