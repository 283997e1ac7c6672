/-
  x
-/
import Derived.Test.YtcbcpomacdngmaaGreatA14
namespace Go.Proofs.YtcbcpomacdngmaaGreat
set_option maxRecDepth 100000
set_option maxHeartbeats 4000000
set_option linter.unusedVariables false
open Go.RowKit Go.ChangeShapes Go.WideShapes Tryz
variable{v v1 v2:Value}{B i D E n j F:Nat}{w:Wd}{w':World}{G L:List Cl}{T ks:List Int}{K:Nat->Value}{R:Rl}
theorem JU{w:World}(h:Below B w w')(n:Nat):Below B w (w'.drewN n):=⟨h.os,h.tape,h.output,h.size,h.block⟩
structure RA where
 a0:OA
 a1:OA
 a2:OA
 a3:OA
 c0:Nat
 c1:Nat
 c2:Nat
 c3:Nat
def aU(w:Wd)(A:RA)(R:Rl):Prop:=aD w A.a0 R.s/\aZ w A.a1 R.hs/\aO w A.a2 R.i/\aG w A.a3 R.t
abbrev rlV(A:RA)(R:Rl):Value:=.agg #[.slice A.a0 R.s.length A.c0,.slice A.a1 R.hs.length A.c1,.slice A.a2 R.i.length A.c2,.slice A.a3 R.t.length A.c3]
abbrev acV(x:Ac):Value:=.agg #[.int .i64 x.k,.int .i64 x.a,.int .i64 x.b,.int .i64 x.c,.int .i64 x.n]
abbrev bxR(A:RA)(R:Rl):Obj:=.cells #[.slice A.a0 R.s.length A.c0,.slice A.a1 R.hs.length A.c1,.slice A.a2 R.i.length A.c2,.slice A.a3 R.t.length A.c3] 50 (0,0)
def iG(R:Rl):Prop:=R.s.length<=9223372036854775807/\Big R.s/\R.hs.length<=9223372036854775807/\R.i.length<=9223372036854775807/\fK R.i/\R.t.length<=9223372036854775807
theorem aU.below{w:World}{A:RA}(h:aU w A R)(hb:Bl w w'):aU w' A R:=⟨h.1.below hb,h.2.1.below hb,h.2.2.1.below hb,h.2.2.2.below hb⟩
theorem xU(w:Wd)(A:RA):aU w A dJ:=⟨fun _ h=>absurd h (yB _),fun _ h=>absurd h (yB _),fun _ h=>absurd h (yB _),fun _ h=>absurd h (yB _)⟩
theorem JV{m:Nat}:∀ {G:List Cl},cellsE m G=0->∀ i,i<G.length->iF m (cl G i)=0
 | [],_,i,hi=>absurd hi (yB _)
 | x :: r,h,i,hi=>by
  unfold cellsE at h;by_cases h1:iF m x=0
  ·rw[ye h1] at h
   match i,hi with
   | 0,_=>exact h1
   | i+1,hi=>exact JV (G:=r) h i (by simpa using hi)
  ·rw[yd h1] at h;exact absurd h h1
theorem uR(h:bF G=0):G.length<=24/\fK G:=by
 unfold bF at h;by_cases h1:24<G.length
 ·rw[ye h1] at h;omega
 ·rw[yd h1] at h;refine⟨oaa,fun i hi=>?_⟩;have:=JV h i hi;unfold iF at this
  split at this
  ·omega
  ·split at this
   ·omega
   ·omega
theorem uS(h:bI R=0):iG R:=by
 obtain⟨h1,E,D,F⟩:=gI h;have:=uR D;exact⟨by have:=h1.small;omega,h1.big,oaa,oaa,this.2,oaa⟩
def CU(p:Int):Int:=if 0<=p/\p<=24 then 0 else 2
def bB(p:Int):Rl:=if 0<=p/\p<=24 then ⟨List.replicate p.toNat fH,List.replicate 16 (0,0),[],[]⟩ else dJ
def CW:Prop:=∀ (p:Int) (w:Wd),
 yO 28 #[.int .i64 p] w fun e w' => ∃ B:RA,e=.returned (.tuple #[rlV B (bB p),.int .i64 (CU p)])/\Below w.heap.size w w' /\ aU w' B (bB p)
def Iw:Prop:=∀ (A:RA) (R:Rl) (w:Wd),iG R->aU w A R ->
 yO 32 #[rlV A R] w fun e w' => e=.returned (.int .i64 (bI R))/\Below w.heap.size w w'
def X1:Ac:=⟨1,2,0,0,4⟩
def X2:Ac:=⟨5,2,0,0,7⟩
def X3:Ac:=⟨6,2,0,0,0⟩
def X4:Ac:=⟨6,1,0,0,0⟩
def H0:Rl:=bB 3
def H1:Rl:=(doF H0 X1).r
def H2:Rl:=(doF H1 X2).r
theorem eY.kept{w:World}(h:eY w B D E F n v T)(e:∀ j,j<w.heap.size->(j=D\/jO E F v j)->w'.heap[j]?=w.heap[j]?):eY w' B D E F n v T :=
 ⟨(e D (aR h.bmE) (Or.inl rfl)).trans h.bmE,(e E (aR h.btE) (Or.inr (Or.inl rfl))).trans h.btE,h.mp.kept (e F h.mp.lt (Or.inr (Or.inr (Or.inl rfl)))),fG h.own (fun j I=>e j (h.own.lt j I).2 (Or.inr (Or.inr (Or.inr I))))⟩
theorem eY.below{w:World}(h:eY w B D E F n v T)(hb:Bl w w'):eY w' B D E F n v T:=h.kept (fun j I _=>hb.block j I)
theorem Later.trans{w1:Wd}(h:Later w v v1)(F:Later w1 v1 v2)(hs:w.heap.size<=w1.heap.size):Later w v v2:=by
 rcases F with e |⟨j,e,E⟩
 ·rcases h with D |⟨j,D,E⟩
  ·exact Or.inl (e.trans D)
  ·exact Or.inr ⟨j,e.trans D,E⟩
 ·exact Or.inr ⟨j,e,oaa⟩
theorem Later.off(h:Later w v v1)(J:j<w.heap.size)(I:jO D E v1 j):jO D E v j:=by
 rcases I with e|e|e
 ·exact Or.inl e
 ·exact Or.inr (Or.inl e)
 ·rcases h with h |⟨i,F,hi⟩
  ·exact Or.inr (Or.inr (h.symm.trans e))
  ·rw[F] at e;cases e;omega
def uT(s:Nat)(v:Value):Prop:=∀ j,v.ownBlock=some j->j<s\/s+3<=j
theorem uT.later{s:Nat}(h:uT s v)(E:Later w v v1)(hs:s+3<=w.heap.size):uT s v1:=fun j D=>by
 rcases E with e |⟨i,e,hi⟩
 ·exact h j (e.symm.trans D)
 ·rw[e] at D;cases D;exact Or.inr oaa
theorem JX(D:j<ks.length):brings T (ks.take (j+1))=bring (brings T (ks.take j)) (ks.getD j 0):=by
 rw[List.take_succ_eq_append_getElem D,Hu,aJ ks 0 D]
theorem Jb(n:Nat)(hn:n<=1000)(w:Wd):(Instr.makeSlice 48 (.int .i64 (n:Int)) (.int .i64 (n:Int))).run prog w=.ok (.slice (some ⟨w.heap.size,0,none⟩) n n) (w.alloc (.cells (madeCells #[.int .i64 0] n) 3)) :=
 run_make_row' (P:=prog) 48 3 (.int .i64 0) 8 underlying48 CX rfl .i64 .i64 n oaa oaa w
def oW(T ks:List Int)(j i:Nat):Value:=.int .i64 (if i<j then at1 (brings T (ks.take j)) (ks.getD i 0) else 0)
theorem Jc(D:j<ks.length)(i:Nat):(if i=j then Value.int .i64 (at1 (bring (brings T (ks.take j)) (ks.getD j 0)) (ks.getD j 0)) else oW T ks j i)=oW T ks (j+1) i:=by
 unfold oW;rw[JX D];by_cases e:i=j
 ·subst e;rw[ye rfl,ye oaa]
 ·rw[yd e];by_cases hi:i<j
  ·rw[ye hi,ye oaa]
   have E:ks.getD i 0 ∈ brings T (ks.take j):=by
    rw[BO,aJ ks 0 oaa];exact Or.inr (List.mem_take_iff_getElem.2 ⟨i,oaa,rfl⟩)
   obtain⟨r,F⟩:=TF (brings T (ks.take j)) (ks.getD j 0);rw[F,JK E]
  ·rw[yd hi,yd oaa]
theorem Jd(x:Cl)(ka:OA)(kc B B0 Z D F n:Nat)(v:Value)(T:List Int)(w:Wd)(h:eY w B Z D F n v T)(hB:B<=w.heap.size)(hl:x.ks.length<=8)(hn:n<=1000)(hT:T.length<=1000)(c6:∀ k ∈ x.ks,(Lit.int .i64 k).wf=true)
  (e6:B0<=B/\B0<=D/\B0<=F) (b9:∀ W,Below B0 w W->aG W ka x.ks) :
  yO 181 #[.agg #[.int .i64 x.n,.slice ka x.ks.length kc],.func (.func 180) #[] #[.pointer (some ⟨Z,0,none⟩),.pointer (some ⟨D,0,none⟩)]] w fun e w' =>
   ∃ E kb,e=.returned (.agg #[.int .i64 x.n,.slice (some ⟨kb,0,none⟩) x.ks.length x.ks.length])/\eY w' B Z D F (n+x.ks.length) E (brings T x.ks)/\Later w v E/\dV (jO D F v) w w' /\ w.heap.size<=kb/\E.ownBlock≠some kb /\
    w'.ownsRow w.heap.size 3 1 (.slice (some ⟨kb,0,none⟩) x.ks.length x.ks.length) x.ks.length ((x.ks.map (at1 (brings T x.ks))).map (Value.int .i64)):=by
 obtain⟨xn,ks⟩:=x;dsimp only at *;have eg:=yM func180 oad rfl;have e0:=fun W=>Jb ks.length oaa W;have d4:Hid (∀ W,Below B0 w W->aG W ka ks):=b9;have d5:Hid (∀ k ∈ ks,(Lit.int .i64 k).wf=true):=c6;have a7:Hid (Z<w.heap.size/\D<w.heap.size/\F<w.heap.size):=⟨aR h.bmE,aR h.btE,h.mp.lt⟩;have BR:Hid (∀ (n' : Nat) (E:Value) (T' : List Int) (k:Int) (W:Wd),eY W B Z D F n' E T' ->(Lit.int .i64 k).wf=true->n' < 100000->T'.length<100000->B<=W.heap.size->Calls _ _ _ _ _):=fun n' E T' k W h1 h2 h3 h4 h5=>UF B Z D F n' E T' k W h1 h2 h3 h4 h5
 have TL:Hid (∀ j,(brings T (ks.take j)).length<=T.length+j):=fun j=>by
  induction j with
  | zero=>simp[brings]
  | succ j ih =>
   by_cases hj:j<ks.length
   ·rw[JX hj];unfold bring;split
    ·omega
    ·rw[List.length_append,List.length_singleton];omega
   ·rw[List.take_of_length_le oaa] at ih |-;omega
 have H0:Hid (eY w B Z D F n v T):=h;have F0:Hid (uT w.heap.size v):=fun j hj=>Or.inl (h.own.lt j hj).2;have RL:Hid (∀ i,i<ks.length->ks.getD i 0 ∈ ks):=fun i hi=>by rw[aJ ks 0 hi];exact List.getElem_mem hi
 have b0:Hid (∀ j,j<ks.length->∀ i,(if i=j then Value.int .i64 (at1 (bring (brings T (ks.take j)) (ks.getD j 0)) (ks.getD j 0)) else oW T ks j i)=oW T ks (j+1) i):=fun j hj i=>Jc hj i;have BT:Hid (∀ j,j<ks.length->brings T (ks.take (j+1))=bring (brings T (ks.take j)) (ks.getD j 0)):=fun j hj=>JX hj;obtain⟨m,hm⟩:∃ m,ks.length=m:=⟨_,rfl⟩;have HM:Hid (ks.length=m):=hm;rw[hm] at hl e0 RL b0 BT |-;clear h b9 c6 hm
 go_enter func181,ntmps181
 go_wp2_with fail
 go_loopg [15] m (fun g s15 wr=>∃ (j:Nat) (E:Value),j<=m/\m-j<=g/\s15=.int .i64 j/\wr.heap[w.heap.size]?=some (.cells #[.int .i64 xn,.slice ka m kc] 55 (0,0))/\wr.heap[w.heap.size+1]?=some (.cells #[.int .i64 0,.slice none 0 0] 55 (0,0))/\w.heap.size+3<=wr.heap.size /\
   Hid (eY wr B Z D F (n+j) E (brings T (ks.take j)))/\Hid (Later w v E)/\Hid (uT w.heap.size E)/\Hid (dV (jO D F v) w wr)/\Hid (wr.rowIs (w.heap.size+2) 3 m (oW T ks j)))
 case atStart =>
  refine⟨0,v,oaa,oaa,rfl,?_,?_,oac,?_,Or.inl rfl,F0,?_,?_⟩
  ·exact(Below.heap_alloc _ _ _ (by simp only[yw];omega)).trans ((Below.heap_alloc _ _ _ oac).trans (yN w _))
  ·refine(Below.heap_alloc _ _ _ oac).trans ?_;have:=yN (w.alloc (.cells #[.int .i64 xn,.slice ka m kc] 55)) (.cells #[.int .i64 0,.slice none 0 0] 55);simpa using this
  ·exact H0.below (((yv _ _).alloc (yr _) _).alloc oac _ |>.alloc oab _)
  ·exact dV.of_below (((yv _ _).alloc (yr _) _).alloc oac _ |>.alloc oab _)
  ·have:=World.rowIs_made ((w.alloc (.cells #[.int .i64 xn,.slice ka m kc] 55)).alloc (.cells #[.int .i64 0,.slice none 0 0] 55)) (.int .i64 0) m 3;simp only[yw] at this;exact this.congr (fun i _=>by unfold oW;rw[yd oaa])
 case round =>
  obtain⟨j,E,hj,hg,rfl,x1,x2,e9,b3,a6,O,J,b4⟩:=hrel;have c7:=x1;by_cases U:j<m
  ·have e2:(j:Int)<(m:Int):=oaa
   have b1:Below B0 w wr:=J.below (by have:=a7.out.2.1;omega) (fun k hk=>by
    rcases hk with e|e|e
    ·omega
    ·omega
    ·have:=(H0.own.lt k e).1;omega)
   obtain⟨pb,po,ep,e8⟩:=d4.out wr b1 j (by rw[HM.out];exact U);subst ep;have e1:=d5.out _ (RL j U);have e3:=TL.out j;have d8:Hid _:=b0.out j U;have c9:Hid _:=BT.out j U;have c8:Hid _:=BR.out (n+j) E _ (ks.getD j 0) wr b3.out e1 oaa oaa (by have:=J.size;omega);clear b1;generalize ks.getD j 0=y at *;generalize brings T (ks.take j)=Tj at *;generalize at1 (bring Tj y) y=A at *
   go_wp2_with fail
   refine yj c8.out ?_;rintro e w3 ⟨v3,rfl,b8,b5,a8⟩
   have kp:∀ i,w.heap.size<=i->i<w.heap.size+3->w3.heap[i]?=wr.heap[i]?:=fun i h1 h2=>a8.block i oaa (fun M=>by
    have:=a7.out;rcases M with e|e|e
    ·omega
    ·omega
    ·have:=O.out i e;omega)
   have y1:=(kp w.heap.size oaa oaa).trans x1;have y2:=(kp (w.heap.size+1) oaa oaa).trans x2;have I:=b4.of_block (kp (w.heap.size+2) oaa oaa);have rc:=I.cell U;have rf:=I.frozen j;have s3:=a8.size;have a9:Hid (uT w.heap.size v3):=O.later b5 oaa;have b6:Hid (Later w v v3):=a6.trans b5 oaa;have b7:Hid (dV (jO D F v) w w3):=J.trans a8 (fun i hi M=>a6.off hi M)
   have a5:Hid (eY (w3.setCell ⟨w.heap.size+2,j,none⟩ (.int .i64 A)) B Z D F (n+(j+1)) v3 (bring Tj y)):=b8.kept (fun i hi M=>yx _ _ _ _ (by
    show i≠w.heap.size+2;have:=a7.out;rcases M with e|e|e|e
    ·omega
    ·omega
    ·omega
    ·have:=a9.out i e;omega))
   have d7:Hid ((w3.setCell ⟨w.heap.size+2,j,none⟩ (.int .i64 A)).rowIs (w.heap.size+2) 3 m (oW T ks (j+1))):=(I.set j (.int .i64 A)).congr (fun i _=>d8.out i);have d6:Hid (dV (jO D F v) w (w3.setCell ⟨w.heap.size+2,j,none⟩ (.int .i64 A))):=b7.trans (Y:=fun i=>i=w.heap.size+2) (CY _ _ _ _ rfl) (fun i hi M=>by have M:i=w.heap.size+2:=M;omega);have Y1:Hid ((w3.setCell ⟨w.heap.size+2,j,none⟩ (.int .i64 A)).heap[w.heap.size]?=_):=(yx _ _ _ _ (by show w.heap.size≠w.heap.size+2;omega)).trans y1;have Y2:Hid ((w3.setCell ⟨w.heap.size+2,j,none⟩ (.int .i64 A)).heap[w.heap.size+1]?=_):=(yx _ _ _ _ (by show w.heap.size+1≠w.heap.size+2;omega)).trans y2;have s4:w.heap.size+2<w3.heap.size:=oaa;clear kp b8 b5 a8 I y1 y2 x1 x2 O a6 J c7
   go_wp2_with fail
   go_roundg (m-(j+1))
   case measure=>omega
   case rel=>exact⟨j+1,v3,oaa,oaa,by go_num,Y1.out,Y2.out,by simp[World.setCell];omega,(show eY _ _ _ _ _ _ _ _ by rw[c9.out];exact a5.out),b6,a9,d6,d7⟩
  ·have d9:m=j:=oaa;subst d9;have e7:wr.cell? ⟨w.heap.size,0,none⟩=some (.int .i64 xn):=(by simp[World.cell?,x1]);have d0:wr.cell? ⟨w.heap.size+1,0,none⟩=some (.int .i64 0):=(by simp[World.cell?,x2]);have d1:wr.cell? ⟨w.heap.size+1,1,none⟩=some (.slice none 0 0):=(by simp[World.cell?,x2]);have df:∀ o,wr.frozen? ⟨w.heap.size+1,o,none⟩=false:=fun o=>by simp[World.frozen?,x2]
   have e4:=df 0;have e5:=df 1;have s4:w.heap.size+1<wr.heap.size:=oaa;have eT:brings T (ks.take m)=brings T ks:=by rw[List.take_of_length_le (by rw[HM.out];omega)]
   have a5:Hid (∀ va vb,let w9:=(wr.setCell ⟨w.heap.size+1,0,none⟩ va).setCell ⟨w.heap.size+1,1,none⟩ vb;eY w9 B Z D F (n+m) E (brings T ks)/\dV (jO D F v) w w9/\w9.ownsRow w.heap.size 3 1 (.slice (some ⟨w.heap.size+2,0,none⟩) m m) m ((ks.map (at1 (brings T ks))).map (Value.int .i64))):=fun va vb=>by
    intro w9;have kp:∀ i,i≠w.heap.size+1->w9.heap[i]?=wr.heap[i]?:=fun i hi=>(yx _ _ _ _ hi).trans (yx _ _ _ _ hi);refine⟨?_,?_,?_⟩
    ·have h1:=b3.out;rw[eT] at h1;refine h1.kept (fun i hi M=>kp i ?_);have:=a7.out;rcases M with e|e|e|e
     ·omega
     ·omega
     ·omega
     ·have:=O.out i e;omega
    ·refine J.trans (Y:=fun i=>i=w.heap.size+1) (dV.trans (Y:=fun i=>i=w.heap.size+1) (CY _ _ _ _ rfl) (CY _ _ _ _ rfl) (fun _ _ h=>h)) (fun i hi M=>?_);have M:i=w.heap.size+1:=M;omega
    ·have hr:=b4.of_block (kp (w.heap.size+2) oaa);have hlen:(ks.map (at1 (brings T ks))).length=m:=by rw[List.length_map,HM.out]
     have:=PQ (B:=w.heap.size) (l:=ks.map (at1 (brings T ks))) hr (fun i hi=>by
      rw[hlen] at hi;unfold oW;rw[ye hi,eT,aJ (ks.map (at1 (brings T ks))) 0 (by rw[hlen];exact hi),List.getElem_map,aJ ks 0 (by rw[HM.out];exact hi)]) oaa oai oaa
     rw[hlen] at this;exact this
   have NE:Hid (E.ownBlock≠some (w.heap.size+2)):=fun e=>by have:=O.out _ e;omega
   have FN:=a5.out (.int .i64 xn) (.slice (some ⟨w.heap.size+1+1,0,none⟩) m m);have b2:Hid _:=FN;have r0:(wr.setCell ⟨w.heap.size+1,0,none⟩ (.int .i64 xn)).cell? ⟨w.heap.size+1,0,none⟩=some (.int .i64 xn):=World.cell?_setCell_same _ _ _ d0;have r1:((wr.setCell ⟨w.heap.size+1,0,none⟩ (.int .i64 xn)).setCell ⟨w.heap.size+1,1,none⟩ (.slice (some ⟨w.heap.size+1+1,0,none⟩) m m)).cell? ⟨w.heap.size+1,1,none⟩=some (.slice (some ⟨w.heap.size+1+1,0,none⟩) m m):=World.cell?_setCell_same _ _ _ ((World.cell?_setCell_other _ _ _ _ (by intro e;cases e)).trans d1);clear x1 x2 c7 df b4 J b3 a5 FN
   go_wp2_with fail
   refine yz (v:=.agg #[.int .i64 xn,.slice (some ⟨w.heap.size+1+1,0,none⟩) m m]) (by simp[results,results181,go_sem,r0,r1]) rfl ?_;refine⟨E,w.heap.size+2,rfl,b2.out.1,a6.out,b2.out.2.1,oaa,NE.out,?_⟩;have h9:=b2.out.2.2
   first|exact h9|(simp only[List.map_map] at h9 |-;exact h9)
theorem Je:(prog.info? 55).map (fun i=>(i.zero,i.size,i.bytes))=some (some (.agg #[.int .i64 0,.slice none 0 0]),2,32):=oad
def kF(x:Cl)(v:Value):List Value:=[.int .i64 x.n,v]
def uU(L:List Cl)(K:Nat->Value):List Value:=(List.range L.length).flatMap fun i=>kF (cl L i) (K i)
theorem UG{s:Cl}(h:i<L.length):cl (L++[s]) i=cl L i:=by
 rw[kC oab,kC h,List.getElem_append_left h]
theorem UH(L:List Cl)(s:Cl):cl (L++[s]) L.length=s:=by
 rw[kC oac];simp
theorem Jf(L:List Cl)(K:Nat->Value)(s:Cl)(v:Value):uU L K++kF s v=uU (L++[s]) (fun i=>if i=L.length then v else K i):=by
 unfold uU;rw[List.length_append,List.length_singleton,List.range_succ,List.flatMap_append]
 congr 1
 ·rw[List.flatMap_def,List.flatMap_def]
  congr 1
  refine List.map_congr_left (fun i hi=>?_);have hi:=List.mem_range.1 hi;show _=kF (cl (L++[s]) i) (if i=L.length then v else K i);rw[UG hi,yd oaa]
 ·simp[UH]
def eH(B:Nat)(L:List Cl)(K:Nat->Value)(v:Value)(w:Wd):Prop :=
 w.ownsRow B 55 2 v L.length (uU L K)/\∀ i,i<L.length->w.ownsRow B 3 1 (K i) (cl L i).ks.length ((cl L i).ks.map (Value.int .i64))
theorem CZ(L:List Cl)(K:Nat->Value):∀ q,((List.range q).flatMap fun i=>kF (cl L i) (K i)).length=q*2
 | 0=>rfl
 | q+1=>by rw[List.range_succ,List.flatMap_append,List.length_append,CZ L K q];simp[kF];omega
theorem UI(L:List Cl)(K:Nat->Value){i j:Nat}(D:j<2):∀ {q:Nat},i<q->((List.range q).flatMap fun i=>kF (cl L i) (K i))[i*2+j]?=(kF (cl L i) (K i))[j]?
 | 0,hi=>oaa
 | q+1,hi=>by
  rw[List.range_succ,List.flatMap_append];by_cases e:i=q
  ·subst e;rw[List.getElem?_append_right (by rw[CZ];omega),CZ];simp
  ·rw[List.getElem?_append_left (by rw[CZ];omega)];exact UI L K D oaa
theorem eH.cls(h:eH B L K v w):∃ a c,v=.slice a L.length c/\aO w a L:=by
 obtain⟨E,O⟩:=h;have D:=E;obtain⟨hl,h⟩:=E;rcases h with ⟨rfl,h0⟩ |⟨g,cap,F,rfl,hb,hg,h1,T,U,Z⟩
 ·exact⟨none,0,by rw[h0],fun i hi=>oaa⟩
 ·refine⟨some ⟨g,0,none⟩,cap,rfl,fun i hi=>⟨g,0,rfl,?_⟩⟩
  have hc:∀ j,j<2->w.cell? ⟨g,i*2+j,none⟩=(kF (cl L i) (K i))[j]?:=fun j M=>by
   rw[<- UI L K M hi];exact D.cellAt (i*2+j) oaa
  obtain⟨sa,sc,I,J⟩:=tO (O i hi);rw[yD];refine⟨hc 0 oaa,sa,sc,?_,J⟩;rw[hc 1 oaa,I];rfl
theorem eH.kept{w:World}(h:eH B L K v w)(e:∀ j,B<=j->j<w.heap.size->(v.ownBlock=some j\/∃ i,i<L.length/\(K i).ownBlock=some j)->w'.heap[j]?=w.heap[j]?):eH B L K v w' :=
 ⟨fG h.1 (fun k D=>e k (h.1.lt k D).1 (h.1.lt k D).2 (Or.inl D)),fun i hi=>fG (h.2 i hi) (fun k D=>e k ((h.2 i hi).lt k D).1 ((h.2 i hi).lt k D).2 (Or.inr ⟨i,hi,D⟩))⟩
theorem eH.step{O w3:Wd}{s:Cl}{o3:Obj}(I:eH B L K v O)(D:O.ownsRow B 3 1 v1 s.ks.length (s.ks.map (Value.int .i64)))
  (h3:(O.alloc o3).grownBy w3 v.ownBlock) (M:w3.ownsRow B 55 2 v2 (L.length+1) (uU L K++kF s v1)) :
  eH B (L++[s]) (fun i=>if i=L.length then v1 else K i) v2 w3:=by
 obtain⟨hm,E⟩:=I
 have U:∀ k,k<O.heap.size->v.ownBlock≠some k->w3.heap[k]?=O.heap[k]?:=fun k E T =>
  (h3.block k oab (fun e=>T e.symm)).trans (Below.heap_alloc _ _ _ E)
 refine⟨?_,fun i hi=>?_⟩
 ·rw[<- Jf,List.length_append,List.length_singleton];exact M
 ·rw[List.length_append,List.length_singleton] at hi;by_cases Z:i=L.length
  ·subst Z;simp only[if_true];rw[UH];exact fG D (fun k E=>U k (D.lt k E).2 (wL D hm oae k E))
  ·simp only[yd Z];have J:i<L.length:=oaa;rw[UG J];have F:=E i J;exact fG F (fun k E=>U k (F.lt k E).2 (wL F hm oae k E))
theorem Jg{W:Wd}{b:Nat}{s:Cl}(c0:W.cell? ⟨b,0,none⟩=some (.int .i64 s.n))(c1:W.cell? ⟨b,1,none⟩=some v):∀ j u,(kF s v)[j]?=some u->W.cell? ((⟨b,0,none⟩:Addr).add j)=some u:=fun j u D=>by
 unfold kF at D;rw[Addr.add_lit]
 match j,D with
 | 0,D=>cases D;exact c0
 | 1,D=>cases D;exact c1
theorem Jh{s:Cl}{a:OA}{c:Nat}:∀ u ∈ kF s (.slice a n c),u.oneCell' = true:=fun u D=>by
 unfold kF at D;simp at D;rcases D with rfl|rfl <;> rfl
theorem Ji{P:Program}{ops:Array Oper}{o:Oper}{a:Act}{K:Act->World->Prop}{Q:Exit->Act->World->Prop}{E:Prop}
  (hg:o.guard=none) (s x:Operand) (t:TypeId) (O:o.op=Op.call { callee:=Callee.builtin Builtin.append,args:=#[s,x],argTypes:=#[t,t] })
  (base:Nat) (e:TypeId) (i:TypeInfo) (z:Value) (size bytes:Nat) (h1:P.underlying t=some (.slice e)) (h2:P.info? e=some i) (h3:i.zero=some z) (h4:i.size=size) (h5:i.bytes=bytes) (h6:z.cells.size=size) (h7:0<size)
  (v:Value) (n:Nat) (T:List Value) (hs:a.eval s=v) (F:w.ownsRow base e size v n T)
  (J:Addr) (m c:Nat) (news:List Value) (hx:a.eval x=.slice (some J) m c) (hn:news.length=m*size) (hc:∀ j u,news[j]?=some u->w.cell? (J.add j)=some u) (M:∀ u ∈ news,u.oneCell' = true)
  (U:n+m<=maxLen) (Z:(n+m)*bytes<=140737488355328) (D:base<=w.heap.size)
  (hK:∀ I w', w'.ownsRow base e size I (n+m) (T++news)->w.grownBy w' v.ownBlock->K (a.put o.dst I) w') :
  if Region.wanted o (yielded ops a.tmps)=true then Oper.wp P o a w K Q else E:=by
 have hw:Region.wanted o (yielded ops a.tmps)=true:=by simp[Region.wanted,hg]
 rw[ye hw];exact wp_append_own w s x t O base e i z size bytes h1 h2 h3 h4 h5 h6 h7 v n T hs F J m c news hx hn hc M U Z D (fun I w' r1 r2 _=>hK I w' r1 r2)
theorem Jj(D:kD G)(h0:0<G.length){k:Int}(E:k ∈ bfs G i):at1 (bfs G i) k=at1 (reach G) k:=by
 obtain⟨r,F⟩:=BX D h0 i;rw[F,JK E]
theorem UJ(E:kD G)(h0:0<G.length)(hi:i<(bfs G i).length):i<(reach G).length/\(reach G).getD i 0=(bfs G i).getD i 0:=by
 obtain⟨r,D⟩:=BX E h0 i;have h1:i<(reach G).length:=by rw[D];simp;omega
 refine⟨h1,?_⟩;rw[aJ _ _ h1,aJ _ _ hi];simp only[D];rw[List.getElem_append_left hi]
theorem UK(hi:i<(bfs G i).length):brings (bfs G i) (cl G ((bfs G i).getD i 0).toNat).ks=bfs G (i+1):=by
 rw[bfs,ye hi]
theorem Jk(D:kD G)(h0:0<G.length){y:Nat}(hi:i<(bfs G i).length)(E:(bfs G i).getD i 0=y) :
  (bL G).take (i+1)=(bL G).take i++[⟨(cl G y).n,(cl G y).ks.map (at1 (bfs G (i+1)))⟩]:=by
 obtain⟨h1,F⟩:=UJ D h0 hi;have hl:=xK h0;rw[List.take_succ_eq_append_getElem oaa,<- kC,JL h0 h1,F,E];unfold uL;rw[yk]
 congr 3
 refine List.map_congr_left (fun k I=>?_);rw[Jj D h0];rw[<- UK hi,BO,E,yk];exact Or.inr I
theorem Jl(G:List Cl):∀ i,(bfs G i).length<=(bfs G (i+1)).length:=fun i=>by
 obtain⟨r,D⟩:=TJ G i;rw[D];simp
theorem Km{P:Program}(w:Wd)(T sT ty elem:TypeId)(i:TypeInfo)(g o I M:Nat)(a:Addr)(E J n:Nat)(D:Array Value)(t:TypeId)(F:List Value)
  (Z:P.underlying T=some (.slice elem)) (hi:P.info? elem=some i) (hg:w.heap[g]?=some (.cells D t (0,0))) (hn:n=Nat.min E I) (hl:F.length=n*i.size)
  (hsrc:∀ j v,F[j]?=some v->w.cell? (a.add j)=some v) (hfit:o+F.length<=D.size) (h1:∀ v ∈ F,v.oneCell' = true) :
  (Builtin.copy_ #[T,sT] ty #[.slice (some ⟨g,o,none⟩) I M,.slice (some a) E J]).run P w=.ok (goInt n) (w.setRow g (D.toList.take o++F++D.toList.drop (o+F.length)).toArray):=by
 have U:=run_firstCells_some (P:=P) w i.size n a E J F hl hsrc;have O:=run_storeCells_at P g o t F 0 D w hg (by simpa using hfit) h1;simp only[Nat.add_zero] at O;simp[Builtin.copy_,run_underlying Z,Builtin.lenOf,sizeOf,typeInfo,hi,<- hn,U,O]
theorem KH{P:Program}{ops:Array Oper}{rest:List Oper}{o:Oper}{a:Act}{Q:Exit->Act->World->Prop}(Z:o.guard=none)(d s:Operand)(U sT:TypeId)
  (ho:o.op=.call { callee:=.builtin .copy,args:=#[d,s],argTypes:=#[U,sT] }) (elem:TypeId) (i:TypeInfo) (hu:P.underlying U=some (.slice elem)) (hi:P.info? elem=some i)
  (g off E J:Nat) (T:Addr) (F M n:Nat) (hd:a.eval d=.slice (some ⟨g,off,none⟩) E J) (hs:a.eval s=.slice (some T) F M)
  (D:List Value) (t:TypeId) (hg:w.heap[g]?=some (.cells D.toArray t (0,0))) (I:List Value) (hn:n=Nat.min F E) (hl:I.length=n*i.size)
  (hsrc:∀ j v,I[j]?=some v->w.cell? (T.add j)=some v) (hfit:off+I.length<=D.length) (h1:∀ v ∈ I,v.oneCell' = true)
  (h:∀ w', w'.heap[g]?=some (.cells (D.take off++I++D.drop (off+I.length)).toArray t (0,0))->(∀ B w0,Below B w0 w->B<=g->Below B w0 w')->wpList P ops Q rest (a.put o.dst (goInt n)) w'):wpList P ops Q (o :: rest) a w:=by
 refine wpList_plain Z fun K hK=>?_;have O:=Km (P:=P) w U sT o.type elem i g off E J T F M n D.toArray t I hu hi hg hn hl hsrc (by simpa using hfit) h1;unfold Oper.wp;simp[execOp,ho,resolve,invoke,builtin,hd,hs,O,Result.andThen];refine hK _ _ (h _ ?_ (fun B w0 hb hB=>below_setRow hb hB _));have:=setRow_heap w g D.toArray ((D.toArray.toList.take off++I++D.toArray.toList.drop (off+I.length)).toArray) t _ hg;simpa using this
