/-
  x
-/
import Derived.Test.YtcbcpomacdngmaaGreatA17
import Derived.Deep.RegionWith
namespace Go.Proofs.YtcbcpomacdngmaaGreat
set_option maxRecDepth 100000
set_option maxHeartbeats 4000000
set_option linter.unusedVariables false
open Go.RowKit Go.ChangeShapes Go.WideShapes Tryz
variable{v v1 v2:Value}{w w1 W:Wd}{B i n j D E F c:Nat}{T ks:List Int}{L G:List Cl}{w':World}{K:Nat->Value}{a:OA}
theorem eY.kept{w:World}(h:eY w B D E F n v T)(e:∀ j,j<w.heap.size->(j=D\/jO E F v j)->w'.heap[j]?=w.heap[j]?):eY w' B D E F n v T :=
 ⟨(e D (aR h.bmE) (Or.inl rfl)).trans h.bmE,(e E (aR h.btE) (Or.inr (Or.inl rfl))).trans h.btE,h.mp.kept (e F h.mp.lt (Or.inr (Or.inr (Or.inl rfl)))),fG h.own (fun j I=>e j (h.own.lt j I).2 (Or.inr (Or.inr (Or.inr I))))⟩
theorem eY.below{w:World}(h:eY w B D E F n v T)(hb:Bl w w'):eY w' B D E F n v T:=h.kept (fun j I _=>hb.block j I)
theorem Later.trans(h:Later w v v1)(F:Later w1 v1 v2)(hs:w.heap.size<=w1.heap.size):Later w v v2:=by
 rcases F with e |⟨j,e,E⟩
 ·rcases h with D |⟨j,D,E⟩
  ·exact Or.inl (e.trans D)
  ·exact Or.inr ⟨j,e.trans D,E⟩
 ·exact Or.inr ⟨j,e,by omega⟩
theorem Later.off(h:Later w v v1)(J:j<w.heap.size)(I:jO D E v1 j):jO D E v j:=by
 rcases I with e|e|e
 ·exact Or.inl e
 ·exact Or.inr (Or.inl e)
 ·rcases h with h |⟨i,F,hi⟩
  ·exact Or.inr (Or.inr (h.symm.trans e))
  ·rw[F] at e;cases e;omega
def uT(s:Nat)(v:Value):Prop:=∀ j,v.ownBlock=some j->j<s\/s+3<=j
theorem uT.later{s:Nat}(h:uT s v)(E:Later w v v1)(hs:s+3<=w.heap.size):uT s v1:=fun j D=>by
 rcases E with e |⟨i,e,hi⟩
 ·exact h j (e.symm.trans D)
 ·rw[e] at D;cases D;exact Or.inr (by omega)
theorem JX(D:j<ks.length):brings T (ks.take (j+1))=bring (brings T (ks.take j)) (ks.getD j 0):=by
 rw[List.take_succ_eq_append_getElem D,Hr,aJ ks 0 D]
theorem Iz(n:Nat)(hn:n<=1000)(w:Wd):(Instr.makeSlice 48 (.int .i64 (n:Int)) (.int .i64 (n:Int))).run prog w=.ok (.slice (some ⟨w.heap.size,0,none⟩) n n) (w.alloc (.cells (madeCells #[.int .i64 0] n) 3)) :=
 run_make_row' (P:=prog) 48 3 (.int .i64 0) 8 underlying48 CX rfl .i64 .i64 n (by omega) (by omega) w
def oW(T ks:List Int)(j i:Nat):Value:=.int .i64 (if i<j then at1 (brings T (ks.take j)) (ks.getD i 0) else 0)
theorem Ja(D:j<ks.length)(i:Nat):(if i=j then Value.int .i64 (at1 (bring (brings T (ks.take j)) (ks.getD j 0)) (ks.getD j 0)) else oW T ks j i)=oW T ks (j+1) i:=by
 unfold oW;rw[JX D];by_cases e:i=j
 ·subst e;rw[ye rfl,ye (by omega)]
 ·rw[yd e];by_cases hi:i<j
  ·rw[ye hi,ye (by omega)]
   have E:ks.getD i 0 ∈ brings T (ks.take j):=by
    rw[BO,aJ ks 0 (by omega)];exact Or.inr (List.mem_take_iff_getElem.2 ⟨i,by omega,rfl⟩)
   obtain⟨r,F⟩:=TE (brings T (ks.take j)) (ks.getD j 0);rw[F,JK E]
  ·rw[yd hi,yd (by omega)]
theorem Jb(x:Cl)(ka:OA)(kc B B0 Z D F n:Nat)(v:Value)(T:List Int)(w:Wd)(h:eY w B Z D F n v T)(hB:B<=w.heap.size)(hl:x.ks.length<=8)(hn:n<=1000)(hT:T.length<=1000)(c6:∀ k ∈ x.ks,(Lit.int .i64 k).wf=true)
  (e6:B0<=B/\B0<=D/\B0<=F) (b9:∀ W,Below B0 w W->aG W ka x.ks) :
  yO 181 #[.agg #[.int .i64 x.n,.slice ka x.ks.length kc],.func (.func 180) #[] #[.pointer (some ⟨Z,0,none⟩),.pointer (some ⟨D,0,none⟩)]] w fun e w' =>
   ∃ E kb,e=.returned (.agg #[.int .i64 x.n,.slice (some ⟨kb,0,none⟩) x.ks.length x.ks.length])/\eY w' B Z D F (n+x.ks.length) E (brings T x.ks)/\Later w v E/\dV (jO D F v) w w' /\ w.heap.size<=kb/\E.ownBlock≠some kb /\
    w'.ownsRow w.heap.size 3 1 (.slice (some ⟨kb,0,none⟩) x.ks.length x.ks.length) x.ks.length ((x.ks.map (at1 (brings T x.ks))).map (Value.int .i64)):=by
 obtain⟨xn,ks⟩:=x;dsimp only at *;have eg:=yM func180 (by kernel_rfl) rfl;have e0:=fun W=>Iz ks.length (by omega) W;have d4:Hid (∀ W,Below B0 w W->aG W ka ks):=b9;have d5:Hid (∀ k ∈ ks,(Lit.int .i64 k).wf=true):=c6;have a7:Hid (Z<w.heap.size/\D<w.heap.size/\F<w.heap.size):=⟨aR h.bmE,aR h.btE,h.mp.lt⟩;have BR:Hid (∀ (n' : Nat) (E:Value) (T' : List Int) (k:Int) (W:Wd),eY W B Z D F n' E T' ->(Lit.int .i64 k).wf=true->n' < 100000->T'.length<100000->B<=W.heap.size->Calls _ _ _ _ _):=fun n' E T' k W h1 h2 h3 h4 h5=>UE B Z D F n' E T' k W h1 h2 h3 h4 h5
 have TL:Hid (∀ j,(brings T (ks.take j)).length<=T.length+j):=fun j=>by
  induction j with
  | zero=>simp[brings]
  | succ j ih =>
   by_cases hj:j<ks.length
   ·rw[JX hj];unfold bring;split
    ·omega
    ·rw[List.length_append,List.length_singleton];omega
   ·rw[List.take_of_length_le (by omega)] at ih |-;omega
 have H0:Hid (eY w B Z D F n v T):=h;have F0:Hid (uT w.heap.size v):=fun j hj=>Or.inl (h.own.lt j hj).2;have RL:Hid (∀ i,i<ks.length->ks.getD i 0 ∈ ks):=fun i hi=>by rw[aJ ks 0 hi];exact List.getElem_mem hi
 have b0:Hid (∀ j,j<ks.length->∀ i,(if i=j then Value.int .i64 (at1 (bring (brings T (ks.take j)) (ks.getD j 0)) (ks.getD j 0)) else oW T ks j i)=oW T ks (j+1) i):=fun j hj i=>Ja hj i;have BT:Hid (∀ j,j<ks.length->brings T (ks.take (j+1))=bring (brings T (ks.take j)) (ks.getD j 0)):=fun j hj=>JX hj;obtain⟨m,hm⟩:∃ m,ks.length=m:=⟨_,rfl⟩;have HM:Hid (ks.length=m):=hm;rw[hm] at hl e0 RL b0 BT |-;clear h b9 c6 hm
 go_enter func181,ntmps181
 go_wp2_with fail
 go_loopg [15] m (fun g s15 wr=>∃ (j:Nat) (E:Value),j<=m/\m-j<=g/\s15=.int .i64 j/\wr.heap[w.heap.size]?=some (.cells #[.int .i64 xn,.slice ka m kc] 55 (0,0))/\wr.heap[w.heap.size+1]?=some (.cells #[.int .i64 0,.slice none 0 0] 55 (0,0))/\w.heap.size+3<=wr.heap.size /\
   Hid (eY wr B Z D F (n+j) E (brings T (ks.take j)))/\Hid (Later w v E)/\Hid (uT w.heap.size E)/\Hid (dV (jO D F v) w wr)/\Hid (wr.rowIs (w.heap.size+2) 3 m (oW T ks j)))
 case atStart =>
  refine⟨0,v,by omega,by omega,rfl,?_,?_,by simp,?_,Or.inl rfl,F0,?_,?_⟩
  ·exact(Below.heap_alloc _ _ _ (by simp only[yw];omega)).trans ((Below.heap_alloc _ _ _ (by simp)).trans (yN w _))
  ·refine(Below.heap_alloc _ _ _ (by simp)).trans ?_;have:=yN (w.alloc (.cells #[.int .i64 xn,.slice ka m kc] 55)) (.cells #[.int .i64 0,.slice none 0 0] 55);simpa using this
  ·exact H0.below (((yv _ _).alloc (yr _) _).alloc (by simp) _ |>.alloc (by simp;omega) _)
  ·exact dV.of_below (((yv _ _).alloc (yr _) _).alloc (by simp) _ |>.alloc (by simp;omega) _)
  ·have:=World.rowIs_made ((w.alloc (.cells #[.int .i64 xn,.slice ka m kc] 55)).alloc (.cells #[.int .i64 0,.slice none 0 0] 55)) (.int .i64 0) m 3;simp only[yw] at this;exact this.congr (fun i _=>by unfold oW;rw[yd (by omega)])
 case round =>
  obtain⟨j,E,hj,hg,rfl,x1,x2,e9,b3,a6,O,J,b4⟩:=hrel;have c7:=x1;by_cases U:j<m
  ·have e2:(j:Int)<(m:Int):=by omega
   have b1:Below B0 w wr:=J.below (by have:=a7.o.2.1;omega) (fun k hk=>by
    rcases hk with e|e|e
    ·omega
    ·omega
    ·have:=(H0.own.lt k e).1;omega)
   obtain⟨pb,po,ep,e8⟩:=d4.o wr b1 j (by rw[HM.o];exact U);subst ep;have e1:=d5.o _ (RL j U);have e3:=TL.o j;have d8:Hid _:=b0.o j U;have c9:Hid _:=BT.o j U;have c8:Hid _:=BR.o (n+j) E _ (ks.getD j 0) wr b3.o e1 (by omega) (by omega) (by have:=J.size;omega);clear b1;generalize ks.getD j 0=y at *;generalize brings T (ks.take j)=Tj at *;generalize at1 (bring Tj y) y=A at *
   go_wp2_with fail
   refine yj c8.o ?_;rintro e w3 ⟨v3,rfl,b8,b5,a8⟩
   have kp:∀ i,w.heap.size<=i->i<w.heap.size+3->w3.heap[i]?=wr.heap[i]?:=fun i h1 h2=>a8.block i (by omega) (fun M=>by
    have:=a7.o;rcases M with e|e|e
    ·omega
    ·omega
    ·have:=O.o i e;omega)
   have y1:=(kp w.heap.size (by omega) (by omega)).trans x1;have y2:=(kp (w.heap.size+1) (by omega) (by omega)).trans x2;have I:=b4.of_block (kp (w.heap.size+2) (by omega) (by omega));have rc:=I.cell U;have rf:=I.frozen j;have s3:=a8.size;have a9:Hid (uT w.heap.size v3):=O.later b5 (by omega);have b6:Hid (Later w v v3):=a6.trans b5 (by omega);have b7:Hid (dV (jO D F v) w w3):=J.trans a8 (fun i hi M=>a6.off hi M)
   have a5:Hid (eY (w3.setCell ⟨w.heap.size+2,j,none⟩ (.int .i64 A)) B Z D F (n+(j+1)) v3 (bring Tj y)):=b8.kept (fun i hi M=>yx _ _ _ _ (by
    show i≠w.heap.size+2;have:=a7.o;rcases M with e|e|e|e
    ·omega
    ·omega
    ·omega
    ·have:=a9.o i e;omega))
   have d7:Hid ((w3.setCell ⟨w.heap.size+2,j,none⟩ (.int .i64 A)).rowIs (w.heap.size+2) 3 m (oW T ks (j+1))):=(I.set j (.int .i64 A)).congr (fun i _=>d8.o i);have d6:Hid (dV (jO D F v) w (w3.setCell ⟨w.heap.size+2,j,none⟩ (.int .i64 A))):=b7.trans (Y:=fun i=>i=w.heap.size+2) (CY _ _ _ _ rfl) (fun i hi M=>by have M:i=w.heap.size+2:=M;omega);have Y1:Hid ((w3.setCell ⟨w.heap.size+2,j,none⟩ (.int .i64 A)).heap[w.heap.size]?=_):=(yx _ _ _ _ (by show w.heap.size≠w.heap.size+2;omega)).trans y1;have Y2:Hid ((w3.setCell ⟨w.heap.size+2,j,none⟩ (.int .i64 A)).heap[w.heap.size+1]?=_):=(yx _ _ _ _ (by show w.heap.size+1≠w.heap.size+2;omega)).trans y2;have s4:w.heap.size+2<w3.heap.size:=(by omega);clear kp b8 b5 a8 I y1 y2 x1 x2 O a6 J c7
   go_wp2_with fail
   go_roundg (m-(j+1))
   case measure=>omega
   case rel=>exact⟨j+1,v3,by omega,by omega,by go_num,Y1.o,Y2.o,by simp[World.setCell];omega,(show eY _ _ _ _ _ _ _ _ by rw[c9.o];exact a5.o),b6,a9,d6,d7⟩
  ·have d9:m=j:=(by omega);subst d9;have e7:wr.cell? ⟨w.heap.size,0,none⟩=some (.int .i64 xn):=(by simp[World.cell?,x1]);have d0:wr.cell? ⟨w.heap.size+1,0,none⟩=some (.int .i64 0):=(by simp[World.cell?,x2]);have d1:wr.cell? ⟨w.heap.size+1,1,none⟩=some (.slice none 0 0):=(by simp[World.cell?,x2]);have df:∀ o,wr.frozen? ⟨w.heap.size+1,o,none⟩=false:=fun o=>by simp[World.frozen?,x2]
   have e4:=df 0;have e5:=df 1;have s4:w.heap.size+1<wr.heap.size:=(by omega);have eT:brings T (ks.take m)=brings T ks:=by rw[List.take_of_length_le (by rw[HM.o];omega)]
   have a5:Hid (∀ va vb,let w9:=(wr.setCell ⟨w.heap.size+1,0,none⟩ va).setCell ⟨w.heap.size+1,1,none⟩ vb;eY w9 B Z D F (n+m) E (brings T ks)/\dV (jO D F v) w w9/\w9.ownsRow w.heap.size 3 1 (.slice (some ⟨w.heap.size+2,0,none⟩) m m) m ((ks.map (at1 (brings T ks))).map (Value.int .i64))):=fun va vb=>by
    intro w9;have kp:∀ i,i≠w.heap.size+1->w9.heap[i]?=wr.heap[i]?:=fun i hi=>(yx _ _ _ _ hi).trans (yx _ _ _ _ hi);refine⟨?_,?_,?_⟩
    ·have h1:=b3.o;rw[eT] at h1;refine h1.kept (fun i hi M=>kp i ?_);have:=a7.o;rcases M with e|e|e|e
     ·omega
     ·omega
     ·omega
     ·have:=O.o i e;omega
    ·refine J.trans (Y:=fun i=>i=w.heap.size+1) (dV.trans (Y:=fun i=>i=w.heap.size+1) (CY _ _ _ _ rfl) (CY _ _ _ _ rfl) (fun _ _ h=>h)) (fun i hi M=>?_);have M:i=w.heap.size+1:=M;omega
    ·have hr:=b4.of_block (kp (w.heap.size+2) (by omega));have hlen:(ks.map (at1 (brings T ks))).length=m:=by rw[List.length_map,HM.o]
     have:=PO (B:=w.heap.size) (l:=ks.map (at1 (brings T ks))) hr (fun i hi=>by
      rw[hlen] at hi;unfold oW;rw[ye hi,eT,aJ (ks.map (at1 (brings T ks))) 0 (by rw[hlen];exact hi),List.getElem_map,aJ ks 0 (by rw[HM.o];exact hi)]) (by omega) (by unfold maxLen;omega) (by omega)
     rw[hlen] at this;exact this
   have NE:Hid (E.ownBlock≠some (w.heap.size+2)):=fun e=>by have:=O.o _ e;omega
   have FN:=a5.o (.int .i64 xn) (.slice (some ⟨w.heap.size+1+1,0,none⟩) m m);have b2:Hid _:=FN;have r0:(wr.setCell ⟨w.heap.size+1,0,none⟩ (.int .i64 xn)).cell? ⟨w.heap.size+1,0,none⟩=some (.int .i64 xn):=World.cell?_setCell_same _ _ _ d0;have r1:((wr.setCell ⟨w.heap.size+1,0,none⟩ (.int .i64 xn)).setCell ⟨w.heap.size+1,1,none⟩ (.slice (some ⟨w.heap.size+1+1,0,none⟩) m m)).cell? ⟨w.heap.size+1,1,none⟩=some (.slice (some ⟨w.heap.size+1+1,0,none⟩) m m):=World.cell?_setCell_same _ _ _ ((World.cell?_setCell_other _ _ _ _ (by intro e;cases e)).trans d1);clear x1 x2 c7 df b4 J b3 a5 FN
   go_wp2_with fail
   refine yz (v:=.agg #[.int .i64 xn,.slice (some ⟨w.heap.size+1+1,0,none⟩) m m]) (by simp[results,results181,go_sem,r0,r1]) rfl ?_;refine⟨E,w.heap.size+2,rfl,b2.o.1,a6.o,b2.o.2.1,by omega,NE.o,?_⟩;have h9:=b2.o.2.2
   first|exact h9|(simp only[List.map_map] at h9 |-;exact h9)
theorem Jc:(prog.info? 55).map (fun i=>(i.zero,i.size,i.bytes))=some (some (.agg #[.int .i64 0,.slice none 0 0]),2,32):=by kernel_rfl
def kF(x:Cl)(v:Value):List Value:=[.int .i64 x.n,v]
def uU(L:List Cl)(K:Nat->Value):List Value:=(List.range L.length).flatMap fun i=>kF (cl L i) (K i)
theorem UF{s:Cl}(h:i<L.length):cl (L++[s]) i=cl L i:=by
 rw[kC (by simp;omega),kC h,List.getElem_append_left h]
theorem UG(L:List Cl)(s:Cl):cl (L++[s]) L.length=s:=by
 rw[kC (by simp)];simp
theorem Jd(L:List Cl)(K:Nat->Value)(s:Cl)(v:Value):uU L K++kF s v=uU (L++[s]) (fun i=>if i=L.length then v else K i):=by
 unfold uU;rw[List.length_append,List.length_singleton,List.range_succ,List.flatMap_append]
 congr 1
 ·rw[List.flatMap_def,List.flatMap_def]
  congr 1
  refine List.map_congr_left (fun i hi=>?_);have hi:=List.mem_range.1 hi;show _=kF (cl (L++[s]) i) (if i=L.length then v else K i);rw[UF hi,yd (by omega)]
 ·simp[UG]
def eH(B:Nat)(L:List Cl)(K:Nat->Value)(v:Value)(w:Wd):Prop :=
 w.ownsRow B 55 2 v L.length (uU L K)/\∀ i,i<L.length->w.ownsRow B 3 1 (K i) (cl L i).ks.length ((cl L i).ks.map (Value.int .i64))
theorem CZ(L:List Cl)(K:Nat->Value):∀ q,((List.range q).flatMap fun i=>kF (cl L i) (K i)).length=q*2
 | 0=>rfl
 | q+1=>by rw[List.range_succ,List.flatMap_append,List.length_append,CZ L K q];simp[kF];omega
theorem UH(L:List Cl)(K:Nat->Value)(D:j<2):∀ {q:Nat},i<q->((List.range q).flatMap fun i=>kF (cl L i) (K i))[i*2+j]?=(kF (cl L i) (K i))[j]?
 | 0,hi=>by omega
 | q+1,hi=>by
  rw[List.range_succ,List.flatMap_append];by_cases e:i=q
  ·subst e;rw[List.getElem?_append_right (by rw[CZ];omega),CZ];simp
  ·rw[List.getElem?_append_left (by rw[CZ];omega)];exact UH L K D (by omega)
theorem eH.cls(h:eH B L K v w):∃ a c,v=.slice a L.length c/\aO w a L:=by
 obtain⟨E,O⟩:=h;have D:=E;obtain⟨hl,h⟩:=E;rcases h with ⟨rfl,h0⟩ |⟨g,cap,F,rfl,hb,hg,h1,T,U,Z⟩
 ·exact⟨none,0,by rw[h0],fun i hi=>by omega⟩
 ·refine⟨some ⟨g,0,none⟩,cap,rfl,fun i hi=>⟨g,0,rfl,?_⟩⟩
  have hc:∀ j,j<2->w.cell? ⟨g,i*2+j,none⟩=(kF (cl L i) (K i))[j]?:=fun j M=>by
   rw[<- UH L K M hi];exact D.cellAt (i*2+j) (by omega)
  obtain⟨sa,sc,I,J⟩:=tO (O i hi);rw[yD];refine⟨hc 0 (by omega),sa,sc,?_,J⟩;rw[hc 1 (by omega),I];rfl
theorem eH.kept{w:World}(h:eH B L K v w)(e:∀ j,B<=j->j<w.heap.size->(v.ownBlock=some j\/∃ i,i<L.length/\(K i).ownBlock=some j)->w'.heap[j]?=w.heap[j]?):eH B L K v w' :=
 ⟨fG h.1 (fun k D=>e k (h.1.lt k D).1 (h.1.lt k D).2 (Or.inl D)),fun i hi=>fG (h.2 i hi) (fun k D=>e k ((h.2 i hi).lt k D).1 ((h.2 i hi).lt k D).2 (Or.inr ⟨i,hi,D⟩))⟩
theorem eH.step{O w3:Wd}{s:Cl}{o3:Obj}(I:eH B L K v O)(D:O.ownsRow B 3 1 v1 s.ks.length (s.ks.map (Value.int .i64)))
  (h3:(O.alloc o3).grownBy w3 v.ownBlock) (M:w3.ownsRow B 55 2 v2 (L.length+1) (uU L K++kF s v1)) :
  eH B (L++[s]) (fun i=>if i=L.length then v1 else K i) v2 w3:=by
 obtain⟨hm,E⟩:=I
 have U:∀ k,k<O.heap.size->v.ownBlock≠some k->w3.heap[k]?=O.heap[k]?:=fun k E T =>
  (h3.block k (by simp;omega) (fun e=>T e.symm)).trans (Below.heap_alloc _ _ _ E)
 refine⟨?_,fun i hi=>?_⟩
 ·rw[<- Jd,List.length_append,List.length_singleton];exact M
 ·rw[List.length_append,List.length_singleton] at hi;by_cases Z:i=L.length
  ·subst Z;simp only[if_true];rw[UG];exact fG D (fun k E=>U k (D.lt k E).2 (wL D hm (by decide) k E))
  ·simp only[yd Z];have J:i<L.length:=(by omega);rw[UF J];have F:=E i J;exact fG F (fun k E=>U k (F.lt k E).2 (wL F hm (by decide) k E))
theorem Je{b:Nat}{s:Cl}(c0:W.cell? ⟨b,0,none⟩=some (.int .i64 s.n))(c1:W.cell? ⟨b,1,none⟩=some v):∀ j u,(kF s v)[j]?=some u->W.cell? ((⟨b,0,none⟩:Addr).add j)=some u:=fun j u D=>by
 unfold kF at D;rw[Addr.add_lit]
 match j,D with
 | 0,D=>cases D;exact c0
 | 1,D=>cases D;exact c1
theorem Jf{s:Cl}:∀ u ∈ kF s (.slice a n c),u.oneCell' = true:=fun u D=>by
 unfold kF at D;simp at D;rcases D with rfl|rfl <;> rfl
theorem Jg{P:Program}{ops:Array Oper}{o:Oper}{a:Act}{K:Act->World->Prop}{Q:Exit->Act->World->Prop}{E:Prop}
  (hg:o.guard=none) (s x:Operand) (t:TypeId) (O:o.op=Op.call { callee:=Callee.builtin Builtin.append,args:=#[s,x],argTypes:=#[t,t] })
  (base:Nat) (e:TypeId) (i:TypeInfo) (z:Value) (size bytes:Nat) (h1:P.underlying t=some (.slice e)) (h2:P.info? e=some i) (h3:i.zero=some z) (h4:i.size=size) (h5:i.bytes=bytes) (h6:z.cells.size=size) (h7:0<size)
  (v:Value) (n:Nat) (T:List Value) (hs:a.eval s=v) (F:w.ownsRow base e size v n T)
  (J:Addr) (m c:Nat) (news:List Value) (hx:a.eval x=.slice (some J) m c) (hn:news.length=m*size) (hc:∀ j u,news[j]?=some u->w.cell? (J.add j)=some u) (M:∀ u ∈ news,u.oneCell' = true)
  (U:n+m<=maxLen) (Z:(n+m)*bytes<=140737488355328) (D:base<=w.heap.size)
  (hK:∀ I w', w'.ownsRow base e size I (n+m) (T++news)->w.grownBy w' v.ownBlock->K (a.put o.dst I) w') :
  if Region.wanted o (yielded ops a.tmps)=true then Oper.wp P o a w K Q else E:=by
 have hw:Region.wanted o (yielded ops a.tmps)=true:=by simp[Region.wanted,hg]
 rw[ye hw];exact wp_append_own w s x t O base e i z size bytes h1 h2 h3 h4 h5 h6 h7 v n T hs F J m c news hx hn hc M U Z D (fun I w' r1 r2 _=>hK I w' r1 r2)
theorem Jh(D:kD G)(h0:0<G.length){k:Int}(E:k ∈ bfs G i):at1 (bfs G i) k=at1 (reach G) k:=by
 obtain⟨r,F⟩:=BX D h0 i;rw[F,JK E]
theorem UI(E:kD G)(h0:0<G.length)(hi:i<(bfs G i).length):i<(reach G).length/\(reach G).getD i 0=(bfs G i).getD i 0:=by
 obtain⟨r,D⟩:=BX E h0 i;have h1:i<(reach G).length:=by rw[D];simp;omega
 refine⟨h1,?_⟩;rw[aJ _ _ h1,aJ _ _ hi];simp only[D];rw[List.getElem_append_left hi]
theorem UJ(hi:i<(bfs G i).length):brings (bfs G i) (cl G ((bfs G i).getD i 0).toNat).ks=bfs G (i+1):=by
 rw[bfs,ye hi]
theorem Ji(D:kD G)(h0:0<G.length){y:Nat}(hi:i<(bfs G i).length)(E:(bfs G i).getD i 0=y) :
  (bL G).take (i+1)=(bL G).take i++[⟨(cl G y).n,(cl G y).ks.map (at1 (bfs G (i+1)))⟩]:=by
 obtain⟨h1,F⟩:=UI D h0 hi;have hl:=xK h0;rw[List.take_succ_eq_append_getElem (by omega),<- kC,JL h0 h1,F,E];unfold uL;rw[yk]
 congr 3
 refine List.map_congr_left (fun k I=>?_);rw[Jh D h0];rw[<- UJ hi,BO,E,yk];exact Or.inr I
theorem Jj(G:List Cl):∀ i,(bfs G i).length<=(bfs G (i+1)).length:=fun i=>by
 obtain⟨r,D⟩:=TI G i;rw[D];simp
theorem EH{p D:Int}(hb:Below (w.heap.size+1+1+1) (((w.alloc (.cells #[.slice a n c] 43)).alloc (.cells #[.int .i64 p,.int .i64 D] 61)).alloc (.cells #[.slice none 0 0] 43)) w1) :
  w1.cell? ⟨w.heap.size,0,none⟩=some (.slice a n c)/\w1.cell? ⟨w.heap.size+1,0,none⟩=some (.int .i64 p)/\w1.cell? ⟨w.heap.size+1,1,none⟩=some (.int .i64 D)/\w1.cell? ⟨w.heap.size+1+1,0,none⟩=some (.slice none 0 0)/\(∀ o,w1.frozen? ⟨w.heap.size+1+1,o,none⟩=false):=by
 refine⟨?_,?_,?_,?_,fun o=>?_⟩
 all_goals first|exact(hb.cell (by first|(simp;done)|(simp;omega))).trans (by go_simp)|exact(hb.frozen (by first|(simp;done)|(simp;omega))).trans (by go_simp)
theorem La(a:OA)(c:Nat)(S:List Nd)(p u E:Int)(w:Wd)(hN:S.length<=9223372036854775807)(I:Big S)(M:aD w a S)(J:dH S [(p,u)]=E)(F:E≠0) :
  yO 168 #[.agg #[.slice a S.length c],.agg #[.int .i64 p,.int .i64 u]] w fun e w' => e=.returned (.tuple #[.agg #[.slice none 0 0],.int .i64 E])/\Below w.heap.size w w' := by
 have d1:=fun(W:Wd) (ha:OA) (hW:aD W a S) (Z:aZ W ha [(p,u)])=>tX a c S ha 1 [(p,u)] W hN I hW (by simp) Z;rw[J] at d1;have O:Hid _:=d1;have U:Hid (aD w a S):=M;clear M d1 J I;have hz:(E == 0)=false:=by simp[F]
 generalize S.length=n at *
 go_enter func168,ntmps168
 go_wp2_with (go_at_call 185;refine(O _ _ (U.below (fB _ _ _ _ _)) (wX _ _ _ _ (by go_simp) (by go_simp))).mono ?_;rintro e w1 ⟨rfl,D⟩;simp only[yw] at D;obtain⟨l0,l1,l2,l3,l4⟩:=EH (((yv _ _).alloc (by simp) _).trans (D.mono (by omega)));have T:Hid _:=D;clear D)
 refine yz (v:=.tuple #[.agg #[.slice none 0 0],.int .i64 E]) (by simp[results,results168,go_sem,l3]) rfl ⟨rfl,?_⟩;exact((fB _ _ _ _ _).trans (T.mono (by omega))).setCell (by simp;omega) _
theorem Lb(a:OA)(c:Nat)(S:List Nd)(D:Nat)(u:Int)(w:Wd)(hN:S.length<=9223372036854775807)(M:Big S)(T:aD w a S)(O:dH S [((D:Int),u)]=0)(hch:D<S.length)(Z:(nd S D).p = -1) :
  yO 168 #[.agg #[.slice a S.length c],.agg #[.int .i64 D,.int .i64 u]] w fun e w' => e=.returned (.tuple #[.agg #[.slice none 0 0],.int .i64 6])/\Below w.heap.size w w' := by
 have d1:=fun(W:Wd) (ha:OA) (I:aD W a S) (hH:aZ W ha [((D:Int),u)])=>tX a c S ha 1 [((D:Int),u)] W hN M I (by simp) hH;rw[O] at d1;have D1:Hid _:=d1;have J:Hid (aD w a S):=T;have U:(D:Int)<(S.length:Int):=by omega
 have QP:Hid (∀ W,aD W a S->∃ b o,a=some ⟨b,o,none⟩/\W.cell? ⟨b,o+D*8+4,none⟩=some (.int .i64 (-1))):=fun W I=>by
  obtain⟨b,o,e,_,_,_,_,c4,_⟩:=I D hch;exact⟨b,o,e,by rw[c4,Z]⟩
 clear T d1 O M Z;generalize S.length=n at *
 go_enter func168,ntmps168
 go_wp2_with (go_at_call 185;refine(D1 _ _ (J.below (fB _ _ _ _ _)) (wX _ _ _ _ (by go_simp) (by go_simp))).mono ?_;rintro e w1 ⟨rfl,E⟩;simp only[yw] at E;obtain⟨l0,l1,l2,l3,l4⟩:=EH (((yv _ _).alloc (by simp) _).trans (E.mono (by omega)));have F:=(fB _ _ _ _ _).trans (E.mono (by omega));obtain⟨b,o,rfl,qp⟩:=QP.o _ (J.below F);have HB:Hid _:=F;have hq:=yi _ _ qp;clear E F)
 refine yz (v:=.tuple #[.agg #[.slice none 0 0],.int .i64 6]) (by simp[results,results168,go_sem,l3]) rfl ⟨rfl,?_⟩;exact HB.setCell (by simp;omega) _
theorem Lc(a:OA)(c:Nat)(S:List Nd)(E pa:Nat)(u:Int)(w:Wd)(hN:S.length<=24)(hB:Big S)(hS:aD w a S)(hE:dH S [((E:Int),u)]=0)(hch:E<S.length)(hpa:pa<S.length)(b1:pa≠E)(hp:(nd S E).p=pa)(hK:∀ i,i<S.length->(nd S i).ks.length<=1000) :
  yO 168 #[.agg #[.slice a S.length c],.agg #[.int .i64 E,.int .i64 u]] w fun e w' => ∃ g,e=.returned (.tuple #[.agg #[.slice (some ⟨g,0,none⟩) S.length S.length],.int .i64 0])/\Below w.heap.size w w' /\ w.heap.size<=g/\∀ w3:World,(∀ b,g<=b->w3.heap[b]?=w'.heap[b]?)->aD w3 (some ⟨g,0,none⟩) (eD S pa E):=by
 have d1:=fun(W:Wd) (ha:OA) (hW:aD W a S) (hH:aZ W ha [((E:Int),u)])=>tX a c S ha 1 [((E:Int),u)] W (by omega) hB hW (by simp) hH;rw[hE] at d1;have D1:Hid _:=d1;have HS:Hid (aD w a S):=hS;have b3:(E:Int)<(S.length:Int):=by omega
 have QP:Hid (∀ W,aD W a S->∃ b o,a=some ⟨b,o,none⟩/\W.cell? ⟨b,o+E*8+4,none⟩=some (.int .i64 (pa:Int))):=fun W hW=>by
  obtain⟨b,o,e,_,_,_,_,c4,_⟩:=hW E hch;exact⟨b,o,e,by rw[c4,hp]⟩
 have dc:=fun(W:Wd) (hW:aD W a S)=>copy_any a c S W hN hK hW;have DC:Hid _:=dc;have dl:=fun(B g c:Nat) (kb kc:Nat->Nat) (W:Wd) (hO:Own W B g S kb kc S.length)=>QL B g c S kb kc pa E W hO hpa hch b1 hp;have DL:Hid _:=dl
 have OC:Hid (∀ (wr:Wd) (B g:Nat) (kb kc:Nat->Nat),Own wr B g S kb kc S.length->B<=g/\g<wr.heap.size/\g<kb pa/\kb pa<wr.heap.size):=fun wr B g kb kc h=>by
  obtain⟨hB,F,hF,a9,hg,_⟩:=h;exact⟨hB,hF.lt,hg pa hpa,(a9 pa hpa).row⟩
 clear hS d1 hE hB hp dc dl hK;generalize hn:S.length=n at *;have HN:Hid _:=hn;clear hn
 go_enter func168,ntmps168
 go_wp2_with (go_at_call 185;refine(D1 _ _ (HS.below (fB _ _ _ _ _)) (wX _ _ _ _ (by go_simp) (by go_simp))).mono ?_;rintro e w1 ⟨rfl,I⟩;simp only[yw] at I;have M:Hid (Below (w.heap.size+1+1+1) (((w.alloc (.cells #[.slice a n c] 43)).alloc (.cells #[.int .i64 (E:Int),.int .i64 u] 61)).alloc (.cells #[.slice none 0 0] 43)) w1):=((yv _ _).alloc (by simp) _).trans (I.mono (by omega));obtain⟨l0,l1,l2,U,l4⟩:=EH M.o;have T:=(fB _ _ _ _ _).trans (I.mono (by omega));obtain⟨b,o,ea,qp⟩:=QP.o _ (HS.below T);have HB:Hid _:=T;have hq:=yi _ _ qp;have b8:=yi _ _ l0;have c6:=yi _ _ l1;have c7:=yi _ _ U;subst ea;clear I T)
 refine(DC _ (HS.below HB)).mono ?_;rintro e Z ⟨g,kb,kc,rfl,J,O⟩;obtain⟨b4,b6,b5,b7⟩:=OC.o _ _ _ _ _ O;have c9:=J.size;have H7:Hid _:=M.trans (J.mono (by have:=M.size;simp at this;omega));have a8:Hid (Own Z w1.heap.size g S kb kc n):=O;have a5:Hid (Bl w Z):=HB.trans (J.mono HB.size);clear l0 l1 l2 U l4 J O;obtain⟨l0,l1,l2,U,l4⟩:=EH H7.o;have L1:=nO l1;have L3:=nO U;have c8:=yi _ _ l0;have b0:=yi _ _ U
 go_wp2_with fail
 refine(DL _ g n kb kc _ (Own.below a8 ((yv _ _).alloc (yr _) _))).mono ?_;rintro e w9 ⟨rfl,D,a6⟩;have b9:=(D.cell (p:=⟨Z.heap.size,0,none⟩) (by simp) (by show ¬ (Z.heap.size=g\/Z.heap.size=kb pa);omega)).trans (show _=some (Value.slice (some ⟨g,0,none⟩) n n) by go_simp);have r9:=(D.cell (p:=⟨w.heap.size+1+1,0,none⟩) (by simp;omega) (by show ¬ (w.heap.size+1+1=g\/w.heap.size+1+1=kb pa);omega)).trans (L3 _);have f9:=fun o=>(D.frozen (p:=⟨w.heap.size+1+1,o,none⟩) (by simp;omega) (by show ¬ (w.heap.size+1+1=g\/w.heap.size+1+1=kb pa);omega)).trans ((((yv _ Z).alloc (yr _) (.cells #[.slice (some ⟨g,0,none⟩) n n] 43)).frozen (by exact b0)).trans (l4 o));have a7:Hid (Bl w w9):=(a5.alloc a5.size _).trans (D.below (by simp;omega) (fun k hk=>by rcases hk with hk|hk <;> omega));have NS:Hid (∀ v (w3:Wd),(∀ b,g<=b->w3.heap[b]?=(w9.setCell ⟨w.heap.size+1+1,0,none⟩ v).heap[b]?)->aD w3 (some ⟨g,0,none⟩) (eD S pa E)):=fun v w3 b2=>Own.up a6 _ (fun b hb=>(b2 b hb).trans (yx _ _ _ _ (by show b≠w.heap.size+1+1;omega)));clear a6 D l0 l1 l2 U l4 L1 L3
 go_wp2
 refine yz (v:=.tuple #[.agg #[.slice (some ⟨g,0,none⟩) n n],.int .i64 0]) (by simp[results,results168,go_sem,r9]) rfl ⟨g,rfl,a7.setCell (by simp;omega) _,by omega,NS.o _⟩
theorem Own.nil8{g:Nat}{S:List Nd}{kb kc:Nat->Nat}{k:Nat}(h:Own w B g S kb kc S.length)(hk:k<S.length)(x:Nd)(U:x.ks=[])(w3:Wd)
  (J:∀ b,g<=b->b<w.heap.size->w3.heap[b]?=((((((((w.setCell ⟨g,k*8,none⟩ (.bool x.u)).setCell ⟨g,k*8+1,none⟩ (.int .i64 x.n)).setCell ⟨g,k*8+2,none⟩ (.int .i64 x.t)).setCell ⟨g,k*8+3,none⟩ (.int .i64 x.m)).setCell ⟨g,k*8+4,none⟩ (.int .i64 x.p)).setCell ⟨g,k*8+5,none⟩ (.slice none 0 0)).setCell ⟨g,k*8+6,none⟩ (.int .i64 x.h)).setCell ⟨g,k*8+7,none⟩ (.bool x.c)).heap[b]?) :
  aD w3 (some ⟨g,0,none⟩) (S.set k x):=fun i hi=>by
 obtain⟨_,F,T,hN,hg,_⟩:=h;rw[List.length_set] at hi;have E:=(QB T (k*8) (.bool x.u) (.int .i64 x.n) (.int .i64 x.t) (.int .i64 x.m) (.int .i64 x.p) (.slice none 0 0) (.int .i64 x.h) (.bool x.c)).of_block (J g (yr _) T.lt);refine⟨g,0,rfl,?_⟩;rw[yD,iQ S k i x hk];by_cases e:i=k
 ·subst e;rw[ye rfl];refine⟨?_,?_,?_,?_,?_,⟨none,0,?_,fun j O=>absurd O (by rw[U];exact yB _)⟩,?_,?_⟩
  ·rw[E.cell (by omega)];unfold lX;rw[yd (by omega),yd (by omega),yd (by omega),yd (by omega),yd (by omega),yd (by omega),yd (by omega),ye rfl]
  ·rw[E.cell (by omega)];unfold lX;rw[yd (by omega),yd (by omega),yd (by omega),yd (by omega),yd (by omega),yd (by omega),ye rfl]
  ·rw[E.cell (by omega)];unfold lX;rw[yd (by omega),yd (by omega),yd (by omega),yd (by omega),yd (by omega),ye rfl]
  ·rw[E.cell (by omega)];unfold lX;rw[yd (by omega),yd (by omega),yd (by omega),yd (by omega),ye rfl]
  ·rw[E.cell (by omega)];unfold lX;rw[yd (by omega),yd (by omega),yd (by omega),ye rfl]
  ·rw[E.cell (by omega),U];unfold lX;rw[yd (by omega),yd (by omega),ye rfl];rfl
  ·rw[E.cell (by omega)];unfold lX;rw[yd (by omega),ye rfl]
  ·rw[E.cell (by omega)];unfold lX;rw[ye rfl]
 ·rw[yd e];have M:=hg i hi;obtain⟨Z,e1,e2,e3,e4,e5,e6,e7,e8,a5,G,I,e9⟩:=hN i hi;have D:kb i≠g:=by omega
  have hG:=I.of_block (w' := w3) ((J (kb i) (Nat.le_of_lt M) I.lt).trans (by
   rw[yx _ _ _ _ D,yx _ _ _ _ D,yx _ _ _ _ D,yx _ _ _ _ D,yx _ _ _ _ D,yx _ _ _ _ D,yx _ _ _ _ D,yx _ _ _ _ D]))
  refine⟨?_,?_,?_,?_,?_,⟨some ⟨kb i,0,none⟩,kc i,?_,fun j O=>⟨kb i,0,rfl,?_⟩⟩,?_,?_⟩
  ·rw[E.cell (by omega),oL (by omega),Z]
  ·rw[E.cell (by omega),oL (by omega),e1]
  ·rw[E.cell (by omega),oL (by omega),e2]
  ·rw[E.cell (by omega),oL (by omega),e3]
  ·rw[E.cell (by omega),oL (by omega),e4]
  ·rw[E.cell (by omega),oL (by omega),e5]
  ·rw[yD,hG.cell (by omega),e9 j O]
  ·rw[E.cell (by omega),oL (by omega),e6]
  ·rw[E.cell (by omega),oL (by omega),e7]
theorem lL{x y:Int}(hb:Below (w.heap.size+1+1+1) (((w.alloc (.cells #[v] 43)).alloc (.cells #[.int .i64 x,.int .i64 y] 61)).alloc (.cells #[.slice none 0 0] 43)) w1) :
  w1.cell? ⟨w.heap.size,0,none⟩=some v/\w1.cell? ⟨w.heap.size+1,0,none⟩=some (.int .i64 x)/\w1.cell? ⟨w.heap.size+1,1,none⟩=some (.int .i64 y)/\w1.cell? ⟨w.heap.size+1+1,0,none⟩=some (.slice none 0 0)/\w1.frozen? ⟨w.heap.size+1+1,0,none⟩=false :=
 ⟨(hb.cell (by simp;omega)).trans (by go_simp),(hb.cell (by simp)).trans (by go_simp),(hb.cell (by simp)).trans (by go_simp),(hb.cell (by simp)).trans (by go_simp),(hb.frozen (by simp)).trans (by go_simp)⟩
theorem sJ{w2:Wd}{a0 a1 a2 a3 a4 F I J:Value}(E:Below B W w1)(hs:B<=w1.heap.size)(D:Below (w1.heap.size+1) (w1.alloc (.cells #[a0,a1,a2,a3,a4,F,I,J] 57)) w2) :
  Below B W w2/\w2.cell? ⟨w1.heap.size,0,none⟩=some a0/\w2.cell? ⟨w1.heap.size,1,none⟩=some a1/\w2.cell? ⟨w1.heap.size,2,none⟩=some a2/\w2.cell? ⟨w1.heap.size,3,none⟩=some a3/\w2.cell? ⟨w1.heap.size,4,none⟩=some a4/\w2.cell? ⟨w1.heap.size,5,none⟩=some F/\w2.cell? ⟨w1.heap.size,6,none⟩=some I/\w2.cell? ⟨w1.heap.size,7,none⟩=some J :=
 ⟨(E.alloc hs _).trans (D.mono (by omega)),(D.cell (by simp)).trans (by go_simp),(D.cell (by simp)).trans (by go_simp),(D.cell (by simp)).trans (by go_simp),(D.cell (by simp)).trans (by go_simp),(D.cell (by simp)).trans (by go_simp),(D.cell (by simp)).trans (by go_simp),(D.cell (by simp)).trans (by go_simp),(D.cell (by simp)).trans (by go_simp)⟩
theorem Ld(a:OA)(c:Nat)(S:List Nd)(p u E:Int)(w:Wd)(T:S.length<=9223372036854775807)(M:Big S)(U:aD w a S)(O:aP S p u=E)(I:E≠0) :
  yO 167 #[.agg #[.slice a S.length c],.agg #[.int .i64 p,.int .i64 u]] w fun e w' => e=.returned (.tuple #[.agg #[.slice none 0 0],.int .i64 E])/\Below w.heap.size w w' := by
 have Z:Hid (∀ W,aD W a S->Calls _ _ _ _ _):=fun W hW=>AU a c S p u E W T M hW O I;have HS:Hid (aD w a S):=U;have hz:(E == 0)=false:=by simp[I]
 clear U O M T;generalize S.length=n at *
 go_enter func167,ntmps167
 go_wp2_with (go_at_call 14;refine(Z _ (HS.below (dC _ _ _ _))).mono ?_;rintro e w1 ⟨rfl,D⟩;simp only[yw] at D;obtain⟨l0,l1,l2,l3,z3⟩:=lL D;have J:=D.size;simp only[yw] at J;have q0:w.heap.size<w1.heap.size:=(by omega);have q1:w.heap.size+1<w1.heap.size:=(by omega);have q2:w.heap.size+1+1<w1.heap.size:=(by omega))
 refine yz (v:=.tuple #[.agg #[.slice none 0 0],.int .i64 E]) (by simp only[results,results167];go_simp) rfl ⟨rfl,?_⟩;have F:Bl w w1:=(dC _ _ _ _).trans (D.mono (by omega))
 first|exact(F.setCell (by simp;omega) _).alloc (by simp;omega) _|exact(F.alloc (by omega) _).setCell (by simp;omega) _|exact F.setCell (by simp;omega) _
theorem Le(a:OA)(c:Nat)(S:List Nd)(k:Nat)(u:Int)(w:Wd)(hN:S.length<=9223372036854775807)(hB:Big S)(hS:aD w a S)(hk:k<S.length)(hF:aP S k u=0)(hK:(nd S k).ks.length<=1000000)(hT:¬ nP S k) :
  yO 167 #[.agg #[.slice a S.length c],.agg #[.int .i64 k,.int .i64 u]] w fun e w' => e=.returned (.tuple #[.agg #[.slice none 0 0],.int .i64 6])/\Below w.heap.size w w' := by
 have D1:Hid (∀ W,aD W a S->Calls _ _ _ _ _):=fun W hW=>find_ok a c S k u W (by omega) hB hW hk hF hK;obtain⟨r,hr⟩:∃ r,bA (nd S k)=r:=⟨_,rfl⟩;obtain⟨b0,a9⟩:∃ b,iD S k=b:=⟨_,rfl⟩;have d2:=fun(v:Value) W=>IA (nd S k) v W;rw[show (if (nd S k).h = -1 then (nd S k).p else (nd S k).h)=r from hr] at d2;have D2:Hid _:=d2;have d3:=fun W hW=>xD a c S (k:Int) W (by omega) hW (by omega);rw[a9] at d3;have D3:Hid _:=d3;have HS:Hid (aD w a S):=hS
 have b1:r≠-1\/(r = -1/\(nd S k).ks.length≠0)\/(r = -1/\(nd S k).ks.length=0/\b0=true):=by
  unfold nP at hT;rw[hr,a9] at hT;by_cases h1:r = -1
  ·by_cases h2:(nd S k).ks=[]
   ·refine Or.inr (Or.inr ⟨h1,by rw[h2];rfl,?_⟩)
    cases b0 with
    | true=>rfl
    | false=>exact absurd ⟨h1,h2,rfl⟩ hT
   ·refine Or.inr (Or.inl ⟨h1,fun h=>h2 (List.length_eq_zero_iff.1 h)⟩)
  ·exact Or.inl h1
 clear hS d2 d3 hF hB hT hr a9;generalize nd S k=x at *;obtain⟨xu,xn,xt,xm,xp,b2,xh,xc⟩:=x;dsimp only at *;generalize b2.length=L at *;generalize S.length=n at *;rcases b1 with h1 |⟨rfl,h2⟩ |⟨rfl,rfl,rfl⟩
 ·have hz:(r == -1)=false:=by simp[h1]
  go_enter func167,ntmps167
  go_wp2_with (go_at_call 14;refine(D1 _ (HS.below (dC _ _ _ _))).mono ?_;rintro e w1 ⟨kg,rfl,D,U⟩;clear U;simp only[yw] at D;obtain⟨Z,l1,l2,l3,z3⟩:=lL D;have J:=D.size;simp only[yw] at J;have q0:w.heap.size<w1.heap.size:=(by omega);have q1:w.heap.size+1<w1.heap.size:=(by omega);have q2:w.heap.size+1+1<w1.heap.size:=(by omega))
  refine(D2 _ _).mono ?_;rintro e w2 ⟨rfl,F⟩;simp only[yw] at F;obtain⟨E,n0,n1,n2,n3,n4,n5,n6,n7⟩:=sJ D J F;have O:=F.size;simp only[yw] at O;clear Z l1 l2 l3 z3;obtain⟨Z,l1,l2,l3,z3⟩:=lL E;have I:Hid (Bl w w2):=(dC _ _ _ _).trans (E.mono (by omega));have a8:Hid _:=D;have a5:Hid _:=F;have q3:w1.heap.size<w2.heap.size:=by omega
  clear D F E
  go_wp2
  refine yz (v:=.tuple #[.agg #[.slice none 0 0],.int .i64 6]) (by simp only[results,results167];go_simp) rfl ⟨rfl,?_⟩
  first|exact I.setCell (by simp;omega) _|exact(I.setCell (by simp;omega) _).drew|exact(I.alloc (by simp;omega) _).setCell (by simp;omega) _|exact(I.setCell (by simp;omega) _).alloc (by simp;omega) _
 ·have hz:decide ((0:Int)<(L:Int))=true:=yI (by omega);have b5:(0:Int)<(L:Int):=by omega
  go_enter func167,ntmps167
  go_wp2_with (go_at_call 14;refine(D1 _ (HS.below (dC _ _ _ _))).mono ?_;rintro e w1 ⟨kg,rfl,D,U⟩;clear U;simp only[yw] at D;obtain⟨Z,l1,l2,l3,z3⟩:=lL D;have J:=D.size;simp only[yw] at J;have q0:w.heap.size<w1.heap.size:=(by omega);have q1:w.heap.size+1<w1.heap.size:=(by omega);have q2:w.heap.size+1+1<w1.heap.size:=(by omega))
  refine(D2 _ _).mono ?_;rintro e w2 ⟨rfl,F⟩;simp only[yw] at F;obtain⟨E,n0,n1,n2,n3,n4,n5,n6,n7⟩:=sJ D J F;have O:=F.size;simp only[yw] at O;clear Z l1 l2 l3 z3;obtain⟨Z,l1,l2,l3,z3⟩:=lL E;have I:Hid (Bl w w2):=(dC _ _ _ _).trans (E.mono (by omega));have a8:Hid _:=D;have a5:Hid _:=F;have q3:w1.heap.size<w2.heap.size:=by omega
  clear D F E
  go_wp2
  refine yz (v:=.tuple #[.agg #[.slice none 0 0],.int .i64 6]) (by simp only[results,results167];go_simp) rfl ⟨rfl,?_⟩
  first|exact I.setCell (by simp;omega) _|exact(I.setCell (by simp;omega) _).drew|exact(I.alloc (by simp;omega) _).setCell (by simp;omega) _|exact(I.setCell (by simp;omega) _).alloc (by simp;omega) _
 ·go_enter func167,ntmps167
  go_wp2_with (go_at_call 14;refine(D1 _ (HS.below (dC _ _ _ _))).mono ?_;rintro e w1 ⟨kg,rfl,D,U⟩;clear U;simp only[yw] at D;obtain⟨Z,l1,l2,l3,z3⟩:=lL D;have J:=D.size;simp only[yw] at J;have q0:w.heap.size<w1.heap.size:=(by omega);have q1:w.heap.size+1<w1.heap.size:=(by omega);have q2:w.heap.size+1+1<w1.heap.size:=(by omega))
  refine(D2 _ _).mono ?_;rintro e w2 ⟨rfl,F⟩;simp only[yw] at F;obtain⟨E,n0,n1,n2,n3,n4,n5,n6,n7⟩:=sJ D J F;have O:=F.size;simp only[yw] at O;clear Z l1 l2 l3 z3;obtain⟨Z,l1,l2,l3,z3⟩:=lL E;have I:Hid (Bl w w2):=(dC _ _ _ _).trans (E.mono (by omega));have a8:Hid _:=D;have a5:Hid _:=F;have q3:w1.heap.size<w2.heap.size:=by omega
  clear D F E
  go_wp2_with fail
  refine(D3 _ (HS.below I)).mono ?_;rintro e w3 ⟨rfl,a6⟩;have b4:=a6.size;have M:Hid (Bl w w3):=I.trans (a6.mono (by have:=I.size;omega));have T:=a5.trans (a6.mono O);clear Z l1 l2 l3 z3 n0 n1 n2 n3 n4 n5 n6 n7 a6 a5;obtain⟨a7,n0,n1,n2,n3,n4,n5,n6,n7⟩:=sJ a8.o J T;obtain⟨Z,l1,l2,l3,z3⟩:=lL a7;have r1:w1.heap.size<w3.heap.size:=by omega
  have r2:w.heap.size<w3.heap.size:=by omega
  have r3:w.heap.size+1<w3.heap.size:=by omega
  have r4:w.heap.size+1+1<w3.heap.size:=by omega
  have b3:Hid _:=T;clear a7 T
  go_wp2
  refine yz (v:=.tuple #[.agg #[.slice none 0 0],.int .i64 6]) (by simp only[results,results167];go_simp) rfl ⟨rfl,?_⟩
  first|exact M.setCell (by simp;omega) _|exact(M.setCell (by simp;omega) _).drew|exact(M.alloc (by simp;omega) _).setCell (by simp;omega) _|exact(M.setCell (by simp;omega) _).alloc (by simp;omega) _
theorem Lh(a:OA)(c:Nat)(S:List Nd)(p u E:Int)(cl:Bool)(w:Wd)(hN:S.length<=9223372036854775807)(U:Big S)(hS:aD w a S)(Z:aP S p u=E)(J:E≠0) :
  yO 193 #[.agg #[.slice a S.length c],.agg #[.int .i64 p,.int .i64 u],.bool cl] w fun e w' => e=.returned (.tuple #[.agg #[.slice none 0 0],.agg #[.int .i64 0,.int .i64 0],.int .i64 E])/\Below w.heap.size w w' := by
 have D0:Hid (∀ W,aD W a S->Calls _ _ _ _ _):=fun W hW=>AU a c S p u E W hN U hW Z J;have HS:Hid (aD w a S):=hS;have a5:(E == 0)=false:=by simp[J]
 clear hS Z U hN;generalize S.length=n at *;have BW:Hid (∀ W,Below (w.heap.size+1+1+1+1) ((((w.alloc (.cells #[.slice a n c] 43)).alloc (.cells #[.int .i64 p,.int .i64 u] 61)).alloc (.cells #[.slice none 0 0] 43)).alloc (.cells #[.int .i64 0,.int .i64 0] 61)) W->Bl w W):=fun W h=>(fB _ _ _ _ _).trans (h.mono (by omega))
 go_enter func193,ntmps193
 go_wp2_with fail
 refine yj (D0 _ (HS.below (fB _ _ _ _ _))) ?_;rintro e w2 ⟨rfl,F⟩;simp only[yw] at F;have M:Hid (Below (w.heap.size+1+1+1+1) ((((w.alloc (.cells #[.slice a n c] 43)).alloc (.cells #[.int .i64 p,.int .i64 u] 61)).alloc (.cells #[.slice none 0 0] 43)).alloc (.cells #[.int .i64 0,.int .i64 0] 61)) w2):=F;have T:=F.size;simp only[yw] at T;obtain⟨l0,l1,l2,l3,l4,l5,l6,l7⟩:=pJ F;have q0:w.heap.size<w2.heap.size:=by omega
 have q1:w.heap.size+1<w2.heap.size:=by omega
 have q2:w.heap.size+1+1<w2.heap.size:=by omega
 have q3:w.heap.size+1+1+1<w2.heap.size:=by omega
 clear F;have I:Hid _:=M
 go_wp2
 refine yz (v:=.tuple #[.agg #[.slice none 0 0],.agg #[.int .i64 0,.int .i64 0],.int .i64 E]) (by simp only[results,results193];go_simp) rfl ⟨rfl,?_⟩;have D:=BW.o _ I.o;have O:=I.size;simp only[yw] at O
 first
  | exact((D.setCell (by simp;omega) _).setCell (by simp;omega) _).setCell (by simp;omega) _
  | exact(((D.setCell (by simp;omega) _).setCell (by simp;omega) _).setCell (by simp;omega) _).drew
  | exact(((D.alloc (by omega) _).setCell (by simp;omega) _).setCell (by simp;omega) _).setCell (by simp;omega) _
  | exact(((D.setCell (by simp;omega) _).setCell (by simp;omega) _).setCell (by simp;omega) _).alloc (by simp;omega) _
  | exact((((D.alloc (by omega) _).alloc (by simp;omega) _).setCell (by simp;omega) _).setCell (by simp;omega) _).setCell (by simp;omega) _
  | exact((((D.setCell (by simp;omega) _).setCell (by simp;omega) _).setCell (by simp;omega) _).alloc (by simp;omega) _).alloc (by simp;omega) _
theorem Lj(a:OA)(c:Nat)(S:List Nd)(k:Nat)(u:Int)(cl:Bool)(w:Wd)(wf:WF S)(hS:aD w a S)(hk:k<S.length)(hE:aP S k u=0)(hH:iD S k=true) :
  yO 193 #[.agg #[.slice a S.length c],.agg #[.int .i64 (k:Int),.int .i64 u],.bool cl] w fun e w' => e=.returned (.tuple #[.agg #[.slice none 0 0],.agg #[.int .i64 0,.int .i64 0],.int .i64 6])/\Below w.heap.size w w' := by
 have hN:=wf.small;have D0:Hid (∀ W,aD W a S->Calls _ _ _ _ _):=fun W T=>find_ok a c S k u W (by omega) wf.big T hk hE (by have:=wf.kids_small hk;omega);have d1:=fun W T=>xD a c S (k:Int) W (by omega) T (by omega);rw[hH] at d1;have D1:Hid _:=d1;have HS:Hid (aD w a S):=hS;clear hS wf hE hH d1;obtain⟨x0,O⟩:∃ x,nd S k=x:=⟨_,rfl⟩;rw[O] at D0;clear O;generalize S.length=n at *;have BW:Hid (∀ W,Below (w.heap.size+1+1+1+1) ((((w.alloc (.cells #[.slice a n c] 43)).alloc (.cells #[.int .i64 (k:Int),.int .i64 u] 61)).alloc (.cells #[.slice none 0 0] 43)).alloc (.cells #[.int .i64 0,.int .i64 0] 61)) W->Bl w W):=fun W h=>(fB _ _ _ _ _).trans (h.mono (by omega))
 go_enter func193,ntmps193
 go_wp2_with fail
 refine yj (D0 _ (HS.below (fB _ _ _ _ _))) ?_;rintro e w2 ⟨fg,rfl,E,_⟩;simp only[yw] at E;have I:Hid (Below (w.heap.size+1+1+1+1) ((((w.alloc (.cells #[.slice a n c] 43)).alloc (.cells #[.int .i64 (k:Int),.int .i64 u] 61)).alloc (.cells #[.slice none 0 0] 43)).alloc (.cells #[.int .i64 0,.int .i64 0] 61)) w2):=E;have Z:=E.size;simp only[yw] at Z;obtain⟨l0,l1,l2,l3,l4,l5,l6,l7⟩:=pJ E;have q0:w.heap.size<w2.heap.size:=by omega
 have q1:w.heap.size+1<w2.heap.size:=by omega
 have q2:w.heap.size+1+1<w2.heap.size:=by omega
 have q3:w.heap.size+1+1+1<w2.heap.size:=by omega
 clear E
 go_wp2_with fail
 refine yj (D1 _ (HS.below (BW _ (I.alloc (by omega) _)))) ?_;rintro e w3 ⟨rfl,F⟩;simp only[yw] at F;have J:Hid (Below (w.heap.size+1+1+1+1) ((((w.alloc (.cells #[.slice a n c] 43)).alloc (.cells #[.int .i64 (k:Int),.int .i64 u] 61)).alloc (.cells #[.slice none 0 0] 43)).alloc (.cells #[.int .i64 0,.int .i64 0] 61)) w3):=(I.alloc (by omega) _).trans (F.mono (by omega));have a5:=F.size;simp only[yw] at a5;clear F l0 l1 l2 l3 l4 l5 l6 l7 q0 q1 q2 q3;obtain⟨l0,l1,l2,l3,l4,l5,l6,l7⟩:=pJ J.o;have q0:w.heap.size<w3.heap.size:=by omega
 have q1:w.heap.size+1<w3.heap.size:=by omega
 have q2:w.heap.size+1+1<w3.heap.size:=by omega
 have q3:w.heap.size+1+1+1<w3.heap.size:=by omega
 have M:Hid _:=J
 go_wp2
 refine yz (v:=.tuple #[.agg #[.slice none 0 0],.agg #[.int .i64 0,.int .i64 0],.int .i64 6]) (by simp only[results,results193];go_simp) rfl ⟨rfl,?_⟩;have D:=BW.o _ M.o;have U:=M.size;simp only[yw] at U
 first
  | exact((D.setCell (by simp;omega) _).setCell (by simp;omega) _).setCell (by simp;omega) _
  | exact(((D.setCell (by simp;omega) _).setCell (by simp;omega) _).setCell (by simp;omega) _).drew
  | exact(((D.alloc (by omega) _).setCell (by simp;omega) _).setCell (by simp;omega) _).setCell (by simp;omega) _
  | exact(((D.setCell (by simp;omega) _).setCell (by simp;omega) _).setCell (by simp;omega) _).alloc (by simp;omega) _
  | exact((((D.alloc (by omega) _).alloc (by simp;omega) _).setCell (by simp;omega) _).setCell (by simp;omega) _).setCell (by simp;omega) _
  | exact((((D.setCell (by simp;omega) _).setCell (by simp;omega) _).setCell (by simp;omega) _).alloc (by simp;omega) _).alloc (by simp;omega) _
theorem Ll(a:OA)(c:Nat)(S:List Nd)(k:Nat)(u E:Int)(cl:Bool)(w:Wd)(wf:WF S)(hS:aD w a S)(hk:k<S.length)(hE:aP S k u=0)(hH:iD S k=false)(hM:iR S 0=E)(Z:E≠0) :
  yO 193 #[.agg #[.slice a S.length c],.agg #[.int .i64 (k:Int),.int .i64 u],.bool cl] w fun e w' => e=.returned (.tuple #[.agg #[.slice none 0 0],.agg #[.int .i64 0,.int .i64 0],.int .i64 E])/\Below w.heap.size w w' := by
 have hN:=wf.small;have D0:Hid (∀ W,aD W a S->Calls _ _ _ _ _):=fun W hW=>find_ok a c S k u W (by omega) wf.big hW hk hE (by have:=wf.kids_small hk;omega);have d1:=fun W hW=>xD a c S (k:Int) W (by omega) hW (by omega);rw[hH] at d1;have D1:Hid _:=d1;have D2:Hid (∀ W,aD W a S->Calls _ _ _ _ _):=fun W hW=>QR a c S 0 E W (by omega) wf.big hW hM Z;have HS:Hid (aD w a S):=hS;have b0:(E == 0)=false:=by simp[Z]
 clear hS wf hE hH d1 hM;obtain⟨x0,a5⟩:∃ x,nd S k=x:=⟨_,rfl⟩;rw[a5] at D0;clear a5;generalize S.length=n at *;have BW:Hid (∀ W,Below (w.heap.size+1+1+1+1) ((((w.alloc (.cells #[.slice a n c] 43)).alloc (.cells #[.int .i64 (k:Int),.int .i64 u] 61)).alloc (.cells #[.slice none 0 0] 43)).alloc (.cells #[.int .i64 0,.int .i64 0] 61)) W->Bl w W):=fun W h=>(fB _ _ _ _ _).trans (h.mono (by omega))
 go_enter func193,ntmps193
 go_wp2_with fail
 refine yj (D0 _ (HS.below (fB _ _ _ _ _))) ?_;rintro e w2 ⟨fg,rfl,F,_⟩;simp only[yw] at F;have O:Hid (Below (w.heap.size+1+1+1+1) ((((w.alloc (.cells #[.slice a n c] 43)).alloc (.cells #[.int .i64 (k:Int),.int .i64 u] 61)).alloc (.cells #[.slice none 0 0] 43)).alloc (.cells #[.int .i64 0,.int .i64 0] 61)) w2):=F;have a7:=F.size;simp only[yw] at a7;obtain⟨l0,l1,l2,l3,l4,l5,l6,l7⟩:=pJ F;have q0:w.heap.size<w2.heap.size:=by omega
 have q1:w.heap.size+1<w2.heap.size:=by omega
 have q2:w.heap.size+1+1<w2.heap.size:=by omega
 have q3:w.heap.size+1+1+1<w2.heap.size:=by omega
 clear F
 go_wp2_with fail
 refine yj (D1 _ (HS.below (BW _ (O.alloc (by omega) _)))) ?_;rintro e w3 ⟨rfl,I⟩;simp only[yw] at I;have J:Hid (Below (w.heap.size+1+1+1+1) ((((w.alloc (.cells #[.slice a n c] 43)).alloc (.cells #[.int .i64 (k:Int),.int .i64 u] 61)).alloc (.cells #[.slice none 0 0] 43)).alloc (.cells #[.int .i64 0,.int .i64 0] 61)) w3):=(O.alloc (by omega) _).trans (I.mono (by omega));have a8:=I.size;simp only[yw] at a8;clear I l0 l1 l2 l3 l4 l5 l6 l7 q0 q1 q2 q3;obtain⟨l0,l1,l2,l3,l4,l5,l6,l7⟩:=pJ J.o;have q0:w.heap.size<w3.heap.size:=by omega
 have q1:w.heap.size+1<w3.heap.size:=by omega
 have q2:w.heap.size+1+1<w3.heap.size:=by omega
 have q3:w.heap.size+1+1+1<w3.heap.size:=by omega
 go_wp2_with fail
 refine yj (D2 _ (HS.below (BW _ J.o))) ?_;rintro e w4 ⟨rfl,M⟩;have T:Hid (Below (w.heap.size+1+1+1+1) ((((w.alloc (.cells #[.slice a n c] 43)).alloc (.cells #[.int .i64 (k:Int),.int .i64 u] 61)).alloc (.cells #[.slice none 0 0] 43)).alloc (.cells #[.int .i64 0,.int .i64 0] 61)) w4):=J.trans (M.mono (by omega));have a9:=M.size;clear M l0 l1 l2 l3 l4 l5 l6 l7 q0 q1 q2 q3;obtain⟨l0,l1,l2,l3,l4,l5,l6,l7⟩:=pJ T.o;have q0:w.heap.size<w4.heap.size:=by omega
 have q1:w.heap.size+1<w4.heap.size:=by omega
 have q2:w.heap.size+1+1<w4.heap.size:=by omega
 have q3:w.heap.size+1+1+1<w4.heap.size:=by omega
 have U:Hid _:=T
 go_wp2
 refine yz (v:=.tuple #[.agg #[.slice none 0 0],.agg #[.int .i64 0,.int .i64 0],.int .i64 E]) (by simp only[results,results193];go_simp) rfl ⟨rfl,?_⟩;have D:=BW.o _ U.o;have a6:=U.size;simp only[yw] at a6
 first
  | exact((D.setCell (by simp;omega) _).setCell (by simp;omega) _).setCell (by simp;omega) _
  | exact(((D.setCell (by simp;omega) _).setCell (by simp;omega) _).setCell (by simp;omega) _).drew
  | exact(((D.alloc (by omega) _).setCell (by simp;omega) _).setCell (by simp;omega) _).setCell (by simp;omega) _
  | exact(((D.setCell (by simp;omega) _).setCell (by simp;omega) _).setCell (by simp;omega) _).alloc (by simp;omega) _
  | exact((((D.alloc (by omega) _).alloc (by simp;omega) _).setCell (by simp;omega) _).setCell (by simp;omega) _).setCell (by simp;omega) _
  | exact((((D.setCell (by simp;omega) _).setCell (by simp;omega) _).setCell (by simp;omega) _).alloc (by simp;omega) _).alloc (by simp;omega) _
