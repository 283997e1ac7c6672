/-
  x
-/
import Derived.Test.YtcbcpomacdngmaaGreatS18
namespace Go.Proofs.YtcbcpomacdngmaaGreat
set_option maxRecDepth 100000
set_option maxHeartbeats 4000000
set_option linter.unusedVariables false
open Go.RowKit Go.ChangeShapes Go.WideShapes
theorem zis.kept{w w' : World}{B D E F n:Nat}{v:Value}{T:List Int}(h:zis w B D E F n v T)(e:∀ j,j<w.heap.size->(j=D\/zgg E F v j)->w'.heap[j]?=w.heap[j]?):zis w' B D E F n v T :=
 ⟨(e D (zaw h.bmE) (Or.inl rfl)).trans h.bmE,(e E (zaw h.btE) (Or.inr (Or.inl rfl))).trans h.btE,h.mp.kept (e F h.mp.lt (Or.inr (Or.inr (Or.inl rfl)))),zaK h.own (fun j I=>e j (h.own.lt j I).2 (Or.inr (Or.inr (Or.inr I))))⟩
theorem zis.below{w w' : World}{B D E F n:Nat}{v:Value}{T:List Int}(h:zis w B D E F n v T)(I:Below w.heap.size w w'):zis w' B D E F n v T:=h.kept (fun j J _=>I.block j J)
theorem Later.trans{w F:World}{v v1 v2:Value}(h:Later w v v1)(I:Later F v1 v2)(hs:w.heap.size<=F.heap.size):Later w v v2:=by
 rcases I with e |⟨j,e,E⟩
 ·rcases h with D |⟨j,D,E⟩
  ·exact Or.inl (e.trans D)
  ·exact Or.inr ⟨j,e.trans D,E⟩
 ·exact Or.inr ⟨j,e,by omega⟩
theorem Later.off{w:World}{v v1:Value}{D E j:Nat}(h:Later w v v1)(J:j<w.heap.size)(I:zgg D E v1 j):zgg D E v j:=by
 rcases I with e|e|e
 ·exact Or.inl e
 ·exact Or.inr (Or.inl e)
 ·rcases h with h |⟨i,F,hi⟩
  ·exact Or.inr (Or.inr (h.symm.trans e))
  ·rw[F] at e;cases e;omega
def zzg(s:Nat)(v:Value):Prop:=∀ j,v.ownBlock=some j->j<s\/s+3<=j
theorem zzg.later{s:Nat}{w:World}{v v1:Value}(h:zzg s v)(E:Later w v v1)(hs:s+3<=w.heap.size):zzg s v1:=fun j D=>by
 rcases E with e |⟨i,e,hi⟩
 ·exact h j (e.symm.trans D)
 ·rw[e] at D;cases D;exact Or.inr (by omega)
theorem zgj{T ks:List Int}{j:Nat}(D:j<ks.length):brings T (ks.take (j+1))=bring (brings T (ks.take j)) (ks.getD j 0):=by
 rw[List.take_succ_eq_append_getElem D,znX,zae ks 0 D]
theorem ztF(n:Nat)(hn:n<=1000)(w:World):(Instr.makeSlice 48 (.int .i64 (n:Int)) (.int .i64 (n:Int))).run Tryz.prog w=.ok (.slice (some ⟨w.heap.size,0,none⟩) n n) (w.alloc (.cells (madeCells #[.int .i64 0] n) 3)) :=
 run_make_row' (P:=Tryz.prog) 48 3 (.int .i64 0) 8 Tryz.underlying48 ziG rfl .i64 .i64 n (by omega) (by omega) w
def zgY(T ks:List Int)(j i:Nat):Value:=.int .i64 (if i<j then at1 (brings T (ks.take j)) (ks.getD i 0) else 0)
theorem zoz{T ks:List Int}{j:Nat}(D:j<ks.length)(i:Nat):(if i=j then Value.int .i64 (at1 (bring (brings T (ks.take j)) (ks.getD j 0)) (ks.getD j 0)) else zgY T ks j i)=zgY T ks (j+1) i:=by
 unfold zgY;rw[zgj D];by_cases e:i=j
 ·subst e;rw[yb rfl,yb (by omega)]
 ·rw[ya e];by_cases hi:i<j
  ·rw[yb hi,yb (by omega)]
   have E:ks.getD i 0 ∈ brings T (ks.take j):=by
    rw[zfG,zae ks 0 (by omega)];exact Or.inr (List.mem_take_iff_getElem.2 ⟨i,by omega,rfl⟩)
   obtain⟨r,F⟩:=zmr (brings T (ks.take j)) (ks.getD j 0);rw[F,znR E]
  ·rw[ya hi,ya (by omega)]
theorem zmx(x:Cl)(ka:Option Addr)(kc B B0 Z D F n:Nat)(v:Value)(T:List Int)(w:World)(h:zis w B Z D F n v T)(hB:B<=w.heap.size)(hl:x.ks.length<=8)(hn:n<=1000)(hT:T.length<=1000)(c6:∀ k ∈ x.ks,(Lit.int .i64 k).wf=true)
  (e6:B0<=B/\B0<=D/\B0<=F) (b9:∀ W,Below B0 w W->zaj W ka x.ks) :
  yM 181 #[.agg #[.int .i64 x.n,.slice ka x.ks.length kc],.func (.func 180) #[] #[.pointer (some ⟨Z,0,none⟩),.pointer (some ⟨D,0,none⟩)]] w fun e w' =>
   ∃ E kb,e=.returned (.agg #[.int .i64 x.n,.slice (some ⟨kb,0,none⟩) x.ks.length x.ks.length])/\zis w' B Z D F (n+x.ks.length) E (brings T x.ks)/\Later w v E/\zhq (zgg D F v) w w' /\ w.heap.size<=kb/\E.ownBlock≠some kb /\
    w'.ownsRow w.heap.size 3 1 (.slice (some ⟨kb,0,none⟩) x.ks.length x.ks.length) x.ks.length ((x.ks.map (at1 (brings T x.ks))).map (Value.int .i64)):=by
 obtain⟨xn,ks⟩:=x;dsimp only at *;have eg:=yK Tryz.func180 (by kernel_rfl) rfl;have e0:=fun W=>ztF ks.length (by omega) W;have d4:Hid (∀ W,Below B0 w W->zaj W ka ks):=b9;have d5:Hid (∀ k ∈ ks,(Lit.int .i64 k).wf=true):=c6;have a7:Hid (Z<w.heap.size/\D<w.heap.size/\F<w.heap.size):=⟨zaw h.bmE,zaw h.btE,h.mp.lt⟩;have BR:Hid (∀ (n' : Nat) (E:Value) (T' : List Int) (k:Int) (W:World),zis W B Z D F n' E T' ->(Lit.int .i64 k).wf=true->n' < 100000->T'.length<100000->B<=W.heap.size->Calls _ _ _ _ _):=fun n' E T' k W h1 h2 h3 h4 h5=>zmp B Z D F n' E T' k W h1 h2 h3 h4 h5
 have TL:Hid (∀ j,(brings T (ks.take j)).length<=T.length+j):=fun j=>by
  induction j with
  | zero=>simp[brings]
  | succ j ih =>
   by_cases hj:j<ks.length
   ·rw[zgj hj];unfold bring;split
    ·omega
    ·rw[List.length_append,List.length_singleton];omega
   ·rw[List.take_of_length_le (by omega)] at ih |-;omega
 have H0:Hid (zis w B Z D F n v T):=h;have F0:Hid (zzg w.heap.size v):=fun j hj=>Or.inl (h.own.lt j hj).2;have RL:Hid (∀ i,i<ks.length->ks.getD i 0 ∈ ks):=fun i hi=>by rw[zae ks 0 hi];exact List.getElem_mem hi
 have b0:Hid (∀ j,j<ks.length->∀ i,(if i=j then Value.int .i64 (at1 (bring (brings T (ks.take j)) (ks.getD j 0)) (ks.getD j 0)) else zgY T ks j i)=zgY T ks (j+1) i):=fun j hj i=>zoz hj i;have BT:Hid (∀ j,j<ks.length->brings T (ks.take (j+1))=bring (brings T (ks.take j)) (ks.getD j 0)):=fun j hj=>zgj hj;obtain⟨m,hm⟩:∃ m,ks.length=m:=⟨_,rfl⟩;have HM:Hid (ks.length=m):=hm;rw[hm] at hl e0 RL b0 BT |-;clear h b9 c6 hm
 go_enter Tryz.func181,Tryz.ntmps181
 go_wp2_with fail
 go_loopg [15] m (fun g s15 wr=>∃ (j:Nat) (E:Value),j<=m/\m-j<=g/\s15=.int .i64 j/\wr.heap[w.heap.size]?=some (.cells #[.int .i64 xn,.slice ka m kc] 55 (0,0))/\wr.heap[w.heap.size+1]?=some (.cells #[.int .i64 0,.slice none 0 0] 55 (0,0))/\w.heap.size+3<=wr.heap.size /\
   Hid (zis wr B Z D F (n+j) E (brings T (ks.take j)))/\Hid (Later w v E)/\Hid (zzg w.heap.size E)/\Hid (zhq (zgg D F v) w wr)/\Hid (wr.rowIs (w.heap.size+2) 3 m (zgY T ks j)))
 case atStart =>
  refine⟨0,v,by omega,by omega,rfl,?_,?_,by simp,?_,Or.inl rfl,F0,?_,?_⟩
  ·exact(Below.heap_alloc _ _ _ (by simp only[yr];omega)).trans ((Below.heap_alloc _ _ _ (by simp)).trans (yL w _))
  ·refine(Below.heap_alloc _ _ _ (by simp)).trans ?_;have:=yL (w.alloc (.cells #[.int .i64 xn,.slice ka m kc] 55)) (.cells #[.int .i64 0,.slice none 0 0] 55);simpa using this
  ·exact H0.out.below (((yk _ _).alloc (yj _) _).alloc (by simp) _ |>.alloc (by simp;omega) _)
  ·exact zhq.of_below (((yk _ _).alloc (yj _) _).alloc (by simp) _ |>.alloc (by simp;omega) _)
  ·have:=World.rowIs_made ((w.alloc (.cells #[.int .i64 xn,.slice ka m kc] 55)).alloc (.cells #[.int .i64 0,.slice none 0 0] 55)) (.int .i64 0) m 3;simp only[yr] at this;exact this.congr (fun i _=>by unfold zgY;rw[ya (by omega)])
 case round =>
  obtain⟨j,E,hj,hg,rfl,x1,x2,e9,b3,a6,O,J,b4⟩:=hrel;have c7:=x1;by_cases U:j<m
  ·have e2:(j:Int)<(m:Int):=by omega
   have b1:Below B0 w wr:=J.out.below (by have:=a7.out.2.1;omega) (fun k hk=>by
    rcases hk with e|e|e
    ·omega
    ·omega
    ·have:=(H0.out.own.lt k e).1;omega)
   obtain⟨pb,po,ep,e8⟩:=d4.out wr b1 j (by rw[HM.out];exact U);subst ep;have e1:=d5.out _ (RL.out j U);have e3:=TL.out j;have d8:Hid _:=b0.out j U;have c9:Hid _:=BT.out j U;have c8:Hid _:=BR.out (n+j) E _ (ks.getD j 0) wr b3.out e1 (by omega) (by omega) (by have:=J.out.size;omega);clear b1;generalize ks.getD j 0=y at *;generalize brings T (ks.take j)=Tj at *;generalize at1 (bring Tj y) y=A at *
   go_wp2_with fail
   refine ye c8.out ?_;rintro e w3 ⟨v3,rfl,b8,b5,a8⟩
   have kp:∀ i,w.heap.size<=i->i<w.heap.size+3->w3.heap[i]?=wr.heap[i]?:=fun i h1 h2=>a8.block i (by omega) (fun M=>by
    have:=a7.out;rcases M with e|e|e
    ·omega
    ·omega
    ·have:=O.out i e;omega)
   have y1:=(kp w.heap.size (by omega) (by omega)).trans x1;have y2:=(kp (w.heap.size+1) (by omega) (by omega)).trans x2;have I:=b4.out.of_block (kp (w.heap.size+2) (by omega) (by omega));have rc:=I.cell U;have rf:=I.frozen j;have s3:=a8.size;have a9:Hid (zzg w.heap.size v3):=O.out.later b5 (by omega);have b6:Hid (Later w v v3):=a6.out.trans b5 (by omega);have b7:Hid (zhq (zgg D F v) w w3):=J.out.trans a8 (fun i hi M=>a6.out.off hi M)
   have a5:Hid (zis (w3.setCell ⟨w.heap.size+2,j,none⟩ (.int .i64 A)) B Z D F (n+(j+1)) v3 (bring Tj y)):=b8.kept (fun i hi M=>yv _ _ _ _ (by
    show i≠w.heap.size+2;have:=a7.out;rcases M with e|e|e|e
    ·omega
    ·omega
    ·omega
    ·have:=a9.out i e;omega))
   have d7:Hid ((w3.setCell ⟨w.heap.size+2,j,none⟩ (.int .i64 A)).rowIs (w.heap.size+2) 3 m (zgY T ks (j+1))):=(I.set j (.int .i64 A)).congr (fun i _=>d8.out i);have d6:Hid (zhq (zgg D F v) w (w3.setCell ⟨w.heap.size+2,j,none⟩ (.int .i64 A))):=b7.out.trans (Y:=fun i=>i=w.heap.size+2) (zeL _ _ _ _ rfl) (fun i hi M=>by have M:i=w.heap.size+2:=M;omega);have Y1:Hid ((w3.setCell ⟨w.heap.size+2,j,none⟩ (.int .i64 A)).heap[w.heap.size]?=_):=(yv _ _ _ _ (by show w.heap.size≠w.heap.size+2;omega)).trans y1;have Y2:Hid ((w3.setCell ⟨w.heap.size+2,j,none⟩ (.int .i64 A)).heap[w.heap.size+1]?=_):=(yv _ _ _ _ (by show w.heap.size+1≠w.heap.size+2;omega)).trans y2;have s4:w.heap.size+2<w3.heap.size:=(by omega);clear kp b8 b5 a8 I y1 y2 x1 x2 O a6 J c7
   go_wp2_with fail
   go_roundg (m-(j+1))
   case measure=>omega
   case rel=>exact⟨j+1,v3,by omega,by omega,by go_num,Y1.out,Y2.out,by simp[World.setCell];omega,(show zis _ _ _ _ _ _ _ _ by rw[c9.out];exact a5.out),b6,a9,d6,d7⟩
  ·have d9:m=j:=(by omega);subst d9;have e7:wr.cell? ⟨w.heap.size,0,none⟩=some (.int .i64 xn):=(by simp[World.cell?,x1]);have d0:wr.cell? ⟨w.heap.size+1,0,none⟩=some (.int .i64 0):=(by simp[World.cell?,x2]);have d1:wr.cell? ⟨w.heap.size+1,1,none⟩=some (.slice none 0 0):=(by simp[World.cell?,x2]);have df:∀ o,wr.frozen? ⟨w.heap.size+1,o,none⟩=false:=fun o=>by simp[World.frozen?,x2]
   have e4:=df 0;have e5:=df 1;have s4:w.heap.size+1<wr.heap.size:=(by omega);have eT:brings T (ks.take m)=brings T ks:=by rw[List.take_of_length_le (by rw[HM.out];omega)]
   have a5:Hid (∀ va vb,let w9:=(wr.setCell ⟨w.heap.size+1,0,none⟩ va).setCell ⟨w.heap.size+1,1,none⟩ vb;zis w9 B Z D F (n+m) E (brings T ks)/\zhq (zgg D F v) w w9/\w9.ownsRow w.heap.size 3 1 (.slice (some ⟨w.heap.size+2,0,none⟩) m m) m ((ks.map (at1 (brings T ks))).map (Value.int .i64))):=fun va vb=>by
    intro w9;have kp:∀ i,i≠w.heap.size+1->w9.heap[i]?=wr.heap[i]?:=fun i hi=>(yv _ _ _ _ hi).trans (yv _ _ _ _ hi);refine⟨?_,?_,?_⟩
    ·have h1:=b3.out;rw[eT] at h1;refine h1.kept (fun i hi M=>kp i ?_);have:=a7.out;rcases M with e|e|e|e
     ·omega
     ·omega
     ·omega
     ·have:=O.out i e;omega
    ·refine J.out.trans (Y:=fun i=>i=w.heap.size+1) (zhq.trans (Y:=fun i=>i=w.heap.size+1) (zeL _ _ _ _ rfl) (zeL _ _ _ _ rfl) (fun _ _ h=>h)) (fun i hi M=>?_);have M:i=w.heap.size+1:=M;omega
    ·have hr:=b4.out.of_block (kp (w.heap.size+2) (by omega));have hlen:(ks.map (at1 (brings T ks))).length=m:=by rw[List.length_map,HM.out]
     have:=zkS (B:=w.heap.size) (l:=ks.map (at1 (brings T ks))) hr (fun i hi=>by
      rw[hlen] at hi;unfold zgY;rw[yb hi,eT,zae (ks.map (at1 (brings T ks))) 0 (by rw[hlen];exact hi),List.getElem_map,zae ks 0 (by rw[HM.out];exact hi)]) (by omega) (by unfold maxLen;omega) (by omega)
     rw[hlen] at this;exact this
   have NE:Hid (E.ownBlock≠some (w.heap.size+2)):=fun e=>by have:=O.out _ e;omega
   have FN:=a5.out (.int .i64 xn) (.slice (some ⟨w.heap.size+1+1,0,none⟩) m m);have b2:Hid _:=FN;have r0:(wr.setCell ⟨w.heap.size+1,0,none⟩ (.int .i64 xn)).cell? ⟨w.heap.size+1,0,none⟩=some (.int .i64 xn):=World.cell?_setCell_same _ _ _ d0;have r1:((wr.setCell ⟨w.heap.size+1,0,none⟩ (.int .i64 xn)).setCell ⟨w.heap.size+1,1,none⟩ (.slice (some ⟨w.heap.size+1+1,0,none⟩) m m)).cell? ⟨w.heap.size+1,1,none⟩=some (.slice (some ⟨w.heap.size+1+1,0,none⟩) m m):=World.cell?_setCell_same _ _ _ ((World.cell?_setCell_other _ _ _ _ (by intro e;cases e)).trans d1);clear x1 x2 c7 df b4 J b3 a5 FN
   go_wp2_with fail
   refine yw (v:=.agg #[.int .i64 xn,.slice (some ⟨w.heap.size+1+1,0,none⟩) m m]) (by simp[results,Tryz.results181,go_sem,r0,r1]) rfl ?_;refine⟨E,w.heap.size+2,rfl,b2.out.1,a6.out,b2.out.2.1,by omega,NE.out,?_⟩;have h9:=b2.out.2.2
   first|exact h9|(simp only[List.map_map] at h9 |-;exact h9)
theorem zwk:(Tryz.prog.info? 55).map (fun i=>(i.zero,i.size,i.bytes))=some (some (.agg #[.int .i64 0,.slice none 0 0]),2,32):=by kernel_rfl
def zgJ(x:Cl)(v:Value):List Value:=[.int .i64 x.n,v]
def zkx(L:List Cl)(K:Nat->Value):List Value:=(List.range L.length).flatMap fun i=>zgJ (cl L i) (K i)
theorem zsH{L:List Cl}{s:Cl}{i:Nat}(h:i<L.length):cl (L++[s]) i=cl L i:=by
 rw[zcs (by simp;omega),zcs h,List.getElem_append_left h]
theorem zsG(L:List Cl)(s:Cl):cl (L++[s]) L.length=s:=by
 rw[zcs (by simp)];simp
theorem znY(L:List Cl)(K:Nat->Value)(s:Cl)(v:Value):zkx L K++zgJ s v=zkx (L++[s]) (fun i=>if i=L.length then v else K i):=by
 unfold zkx;rw[List.length_append,List.length_singleton,List.range_succ,List.flatMap_append]
 congr 1
 ·rw[List.flatMap_def,List.flatMap_def]
  congr 1
  refine List.map_congr_left (fun i hi=>?_);have hi:=List.mem_range.1 hi;show _=zgJ (cl (L++[s]) i) (if i=L.length then v else K i);rw[zsH hi,ya (by omega)]
 ·simp[zsG]
def zib(B:Nat)(L:List Cl)(K:Nat->Value)(v:Value)(w:World):Prop :=
 w.ownsRow B 55 2 v L.length (zkx L K)/\∀ i,i<L.length->w.ownsRow B 3 1 (K i) (cl L i).ks.length ((cl L i).ks.map (Value.int .i64))
theorem zfH(L:List Cl)(K:Nat->Value):∀ q,((List.range q).flatMap fun i=>zgJ (cl L i) (K i)).length=q*2
 | 0=>rfl
 | q+1=>by rw[List.range_succ,List.flatMap_append,List.length_append,zfH L K q];simp[zgJ];omega
theorem zms(L:List Cl)(K:Nat->Value){i j:Nat}(D:j<2):∀ {q:Nat},i<q->((List.range q).flatMap fun i=>zgJ (cl L i) (K i))[i*2+j]?=(zgJ (cl L i) (K i))[j]?
 | 0,hi=>by omega
 | q+1,hi=>by
  rw[List.range_succ,List.flatMap_append];by_cases e:i=q
  ·subst e;rw[List.getElem?_append_right (by rw[zfH];omega),zfH];simp
  ·rw[List.getElem?_append_left (by rw[zfH];omega)];exact zms L K D (by omega)
theorem zib.cls{B:Nat}{L:List Cl}{K:Nat->Value}{v:Value}{w:World}(h:zib B L K v w):∃ a c,v=.slice a L.length c/\zaI w a L:=by
 obtain⟨E,O⟩:=h;have D:=E;obtain⟨hl,h⟩:=E;rcases h with ⟨rfl,h0⟩ |⟨g,cap,F,rfl,hb,hg,h1,T,U,Z⟩
 ·exact⟨none,0,by rw[h0],fun i hi=>by omega⟩
 ·refine⟨some ⟨g,0,none⟩,cap,rfl,fun i hi=>⟨g,0,rfl,?_⟩⟩
  have hc:∀ j,j<2->w.cell? ⟨g,i*2+j,none⟩=(zgJ (cl L i) (K i))[j]?:=fun j M=>by
   rw[<- zms L K M hi];exact D.cellAt (i*2+j) (by omega)
  obtain⟨sa,sc,I,J⟩:=zfP (O i hi);rw[yB];refine⟨hc 0 (by omega),sa,sc,?_,J⟩;rw[hc 1 (by omega),I];rfl
theorem zib.kept{B:Nat}{L:List Cl}{K:Nat->Value}{v:Value}{w w' : World}(h:zib B L K v w)(e:∀ j,B<=j->j<w.heap.size->(v.ownBlock=some j\/∃ i,i<L.length/\(K i).ownBlock=some j)->w'.heap[j]?=w.heap[j]?):zib B L K v w' :=
 ⟨zaK h.1 (fun k D=>e k (h.1.lt k D).1 (h.1.lt k D).2 (Or.inl D)),fun i hi=>zaK (h.2 i hi) (fun k D=>e k ((h.2 i hi).lt k D).1 ((h.2 i hi).lt k D).2 (Or.inr ⟨i,hi,D⟩))⟩
theorem zib.step{O w3:World}{B:Nat}{L:List Cl}{K:Nat->Value}{v v1 v2:Value}{s:Cl}{o3:Obj}(I:zib B L K v O)(D:O.ownsRow B 3 1 v1 s.ks.length (s.ks.map (Value.int .i64)))
  (h3:(O.alloc o3).grownBy w3 v.ownBlock) (M:w3.ownsRow B 55 2 v2 (L.length+1) (zkx L K++zgJ s v1)) :
  zib B (L++[s]) (fun i=>if i=L.length then v1 else K i) v2 w3:=by
 obtain⟨hm,E⟩:=I
 have U:∀ k,k<O.heap.size->v.ownBlock≠some k->w3.heap[k]?=O.heap[k]?:=fun k E T =>
  (h3.block k (by simp;omega) (fun e=>T e.symm)).trans (Below.heap_alloc _ _ _ E)
 refine⟨?_,fun i hi=>?_⟩
 ·rw[<- znY,List.length_append,List.length_singleton];exact M
 ·rw[List.length_append,List.length_singleton] at hi;by_cases Z:i=L.length
  ·subst Z;simp only[if_true];rw[zsG];exact zaK D (fun k E=>U k (D.lt k E).2 (zej D hm (by decide) k E))
  ·simp only[ya Z];have J:i<L.length:=(by omega);rw[zsH J];have F:=E i J;exact zaK F (fun k E=>U k (F.lt k E).2 (zej F hm (by decide) k E))
theorem zBe{W:World}{b:Nat}{s:Cl}{v:Value}(c0:W.cell? ⟨b,0,none⟩=some (.int .i64 s.n))(c1:W.cell? ⟨b,1,none⟩=some v):∀ j u,(zgJ s v)[j]?=some u->W.cell? ((⟨b,0,none⟩:Addr).add j)=some u:=fun j u D=>by
 unfold zgJ at D;rw[Addr.add_lit]
 match j,D with
 | 0,D=>cases D;exact c0
 | 1,D=>cases D;exact c1
theorem zBw{s:Cl}{a:Option Addr}{n c:Nat}:∀ u ∈ zgJ s (.slice a n c),u.oneCell' = true:=fun u D=>by
 unfold zgJ at D;simp at D;rcases D with rfl|rfl <;> rfl
theorem ziy{P:Program}{ops:Array Oper}{o:Oper}{a:Act}{w:World}{K:Act->World->Prop}{Q:Exit->Act->World->Prop}{E:Prop}
  (hg:o.guard=none) (s x:Operand) (t:TypeId) (O:o.op=Op.call { callee:=Callee.builtin Builtin.append,args:=#[s,x],argTypes:=#[t,t] })
  (base:Nat) (e:TypeId) (i:TypeInfo) (z:Value) (size bytes:Nat) (h1:P.underlying t=some (.slice e)) (h2:P.info? e=some i) (h3:i.zero=some z) (h4:i.size=size) (h5:i.bytes=bytes) (h6:z.cells.size=size) (h7:0<size)
  (v:Value) (n:Nat) (T:List Value) (hs:a.eval s=v) (F:w.ownsRow base e size v n T)
  (J:Addr) (m c:Nat) (news:List Value) (hx:a.eval x=.slice (some J) m c) (hn:news.length=m*size) (hc:∀ j u,news[j]?=some u->w.cell? (J.add j)=some u) (M:∀ u ∈ news,u.oneCell' = true)
  (U:n+m<=maxLen) (Z:(n+m)*bytes<=140737488355328) (D:base<=w.heap.size)
  (hK:∀ I w', w'.ownsRow base e size I (n+m) (T++news)->w.grownBy w' v.ownBlock->K (a.put o.dst I) w') :
  if Region.wanted o (yielded ops a.tmps)=true then Oper.wp P o a w K Q else E:=by
 have hw:Region.wanted o (yielded ops a.tmps)=true:=by simp[Region.wanted,hg]
 rw[yb hw];exact wp_append_own w s x t O base e i z size bytes h1 h2 h3 h4 h5 h6 h7 v n T hs F J m c news hx hn hc M U Z D (fun I w' r1 r2 _=>hK I w' r1 r2)
theorem zss{G:List Cl}(D:zdC G)(h0:0<G.length){i:Nat}{k:Int}(E:k ∈ bfs G i):at1 (bfs G i) k=at1 (reach G) k:=by
 obtain⟨r,F⟩:=zgH D h0 i;rw[F,znR E]
theorem zsv{G:List Cl}(E:zdC G)(h0:0<G.length){i:Nat}(hi:i<(bfs G i).length):i<(reach G).length/\(reach G).getD i 0=(bfs G i).getD i 0:=by
 obtain⟨r,D⟩:=zgH E h0 i;have h1:i<(reach G).length:=by rw[D];simp;omega
 refine⟨h1,?_⟩;rw[zae _ _ h1,zae _ _ hi];simp only[D];rw[List.getElem_append_left hi]
theorem zpp{G:List Cl}{i:Nat}(hi:i<(bfs G i).length):brings (bfs G i) (cl G ((bfs G i).getD i 0).toNat).ks=bfs G (i+1):=by
 rw[bfs,yb hi]
theorem zsL{G:List Cl}(D:zdC G)(h0:0<G.length){i y:Nat}(hi:i<(bfs G i).length)(E:(bfs G i).getD i 0=y) :
  (zbt G).take (i+1)=(zbt G).take i++[⟨(cl G y).n,(cl G y).ks.map (at1 (bfs G (i+1)))⟩]:=by
 obtain⟨h1,F⟩:=zsv D h0 hi;have hl:=zfg h0;rw[List.take_succ_eq_append_getElem (by omega),<- zcs,zlu h0 h1,F,E];unfold zqw;rw[yi]
 congr 3
 refine List.map_congr_left (fun k I=>?_);rw[zss D h0];rw[<- zpp hi,zfG,E,yi];exact Or.inr I
theorem zzy(G:List Cl):∀ i,(bfs G i).length<=(bfs G (i+1)).length:=fun i=>by
 obtain⟨r,D⟩:=zsw G i;rw[D];simp
theorem zlS{w D:World}{a:Option Addr}{n c:Nat}{p F:Int}(E:Below (w.heap.size+1+1+1) (((w.alloc (.cells #[.slice a n c] 43)).alloc (.cells #[.int .i64 p,.int .i64 F] 61)).alloc (.cells #[.slice none 0 0] 43)) D) :
  D.cell? ⟨w.heap.size,0,none⟩=some (.slice a n c)/\D.cell? ⟨w.heap.size+1,0,none⟩=some (.int .i64 p)/\D.cell? ⟨w.heap.size+1,1,none⟩=some (.int .i64 F)/\D.cell? ⟨w.heap.size+1+1,0,none⟩=some (.slice none 0 0)/\(∀ o,D.frozen? ⟨w.heap.size+1+1,o,none⟩=false):=by
 refine⟨?_,?_,?_,?_,fun o=>?_⟩
 all_goals first|exact(E.cell (by first|(simp;done)|(simp;omega))).trans (by go_simp)|exact(E.frozen (by first|(simp;done)|(simp;omega))).trans (by go_simp)
theorem zrA(a:Option Addr)(c:Nat)(S:List Nd)(p u E:Int)(w:World)(hN:S.length<=9223372036854775807)(I:Big S)(M:zai w a S)(J:zaY S [(p,u)]=E)(F:E≠0) :
  yM 168 #[.agg #[.slice a S.length c],.agg #[.int .i64 p,.int .i64 u]] w fun e w' => e=.returned (.tuple #[.agg #[.slice none 0 0],.int .i64 E])/\Below w.heap.size w w' := by
 have d1:=fun(W:World) (ha:Option Addr) (hW:zai W a S) (Z:zas W ha [(p,u)])=>zdo a c S ha 1 [(p,u)] W hN I hW (by simp) Z;rw[J] at d1;have O:Hid _:=d1;have U:Hid (zai w a S):=M;clear M d1 J I;have hz:(E == 0)=false:=by simp[F]
 generalize S.length=n at *
 go_enter Tryz.func168,Tryz.ntmps168
 go_wp2_with (go_at_call 185;refine(O.out _ _ (U.out.below (zaH _ _ _ _ _)) (zfk _ _ _ _ (by go_simp) (by go_simp))).mono ?_;rintro e w1 ⟨rfl,D⟩;simp only[yr] at D;obtain⟨l0,l1,l2,l3,l4⟩:=zlS (((yk _ _).alloc (by simp) _).trans (D.mono (by omega)));have T:Hid _:=D;clear D)
 refine yw (v:=.tuple #[.agg #[.slice none 0 0],.int .i64 E]) (by simp[results,Tryz.results168,go_sem,l3]) rfl ⟨rfl,?_⟩;exact((zaH _ _ _ _ _).trans (T.out.mono (by omega))).setCell (by simp;omega) _
theorem zoY(a:Option Addr)(c:Nat)(S:List Nd)(D:Nat)(u:Int)(w:World)(hN:S.length<=9223372036854775807)(M:Big S)(T:zai w a S)(O:zaY S [((D:Int),u)]=0)(hch:D<S.length)(Z:(nd S D).p = -1) :
  yM 168 #[.agg #[.slice a S.length c],.agg #[.int .i64 D,.int .i64 u]] w fun e w' => e=.returned (.tuple #[.agg #[.slice none 0 0],.int .i64 6])/\Below w.heap.size w w' := by
 have d1:=fun(W:World) (ha:Option Addr) (I:zai W a S) (hH:zas W ha [((D:Int),u)])=>zdo a c S ha 1 [((D:Int),u)] W hN M I (by simp) hH;rw[O] at d1;have D1:Hid _:=d1;have J:Hid (zai w a S):=T;have U:(D:Int)<(S.length:Int):=by omega
 have QP:Hid (∀ W,zai W a S->∃ b o,a=some ⟨b,o,none⟩/\W.cell? ⟨b,o+D*8+4,none⟩=some (.int .i64 (-1))):=fun W I=>by
  obtain⟨b,o,e,_,_,_,_,c4,_⟩:=I D hch;exact⟨b,o,e,by rw[c4,Z]⟩
 clear T d1 O M Z;generalize S.length=n at *
 go_enter Tryz.func168,Tryz.ntmps168
 go_wp2_with (go_at_call 185;refine(D1.out _ _ (J.out.below (zaH _ _ _ _ _)) (zfk _ _ _ _ (by go_simp) (by go_simp))).mono ?_;rintro e w1 ⟨rfl,E⟩;simp only[yr] at E;obtain⟨l0,l1,l2,l3,l4⟩:=zlS (((yk _ _).alloc (by simp) _).trans (E.mono (by omega)));have F:=(zaH _ _ _ _ _).trans (E.mono (by omega));obtain⟨b,o,rfl,qp⟩:=QP.out _ (J.out.below F);have HB:Hid _:=F;have hq:=yd _ _ qp;clear E F)
 refine yw (v:=.tuple #[.agg #[.slice none 0 0],.int .i64 6]) (by simp[results,Tryz.results168,go_sem,l3]) rfl ⟨rfl,?_⟩;exact HB.out.setCell (by simp;omega) _
theorem zuE(a:Option Addr)(c:Nat)(S:List Nd)(E pa:Nat)(u:Int)(w:World)(hN:S.length<=24)(hB:Big S)(hS:zai w a S)(hE:zaY S [((E:Int),u)]=0)(hch:E<S.length)(hpa:pa<S.length)(b1:pa≠E)(hp:(nd S E).p=pa)(hK:∀ i,i<S.length->(nd S i).ks.length<=1000) :
  yM 168 #[.agg #[.slice a S.length c],.agg #[.int .i64 E,.int .i64 u]] w fun e w' => ∃ g,e=.returned (.tuple #[.agg #[.slice (some ⟨g,0,none⟩) S.length S.length],.int .i64 0])/\Below w.heap.size w w' /\ w.heap.size<=g/\∀ w3:World,(∀ b,g<=b->w3.heap[b]?=w'.heap[b]?)->zai w3 (some ⟨g,0,none⟩) (zbB S pa E):=by
 have d1:=fun(W:World) (ha:Option Addr) (hW:zai W a S) (hH:zas W ha [((E:Int),u)])=>zdo a c S ha 1 [((E:Int),u)] W (by omega) hB hW (by simp) hH;rw[hE] at d1;have D1:Hid _:=d1;have HS:Hid (zai w a S):=hS;have b3:(E:Int)<(S.length:Int):=by omega
 have QP:Hid (∀ W,zai W a S->∃ b o,a=some ⟨b,o,none⟩/\W.cell? ⟨b,o+E*8+4,none⟩=some (.int .i64 (pa:Int))):=fun W hW=>by
  obtain⟨b,o,e,_,_,_,_,c4,_⟩:=hW E hch;exact⟨b,o,e,by rw[c4,hp]⟩
 have dc:=fun(W:World) (hW:zai W a S)=>copy_any a c S W hN hK hW;have DC:Hid _:=dc;have dl:=fun(B g c:Nat) (kb kc:Nat->Nat) (W:World) (hO:Own W B g S kb kc S.length)=>zmY B g c S kb kc pa E W hO hpa hch b1 hp;have DL:Hid _:=dl
 have OC:Hid (∀ (wr:World) (B g:Nat) (kb kc:Nat->Nat),Own wr B g S kb kc S.length->B<=g/\g<wr.heap.size/\g<kb pa/\kb pa<wr.heap.size):=fun wr B g kb kc h=>by
  obtain⟨hB,F,hF,a9,hg,_⟩:=h;exact⟨hB,hF.lt,hg pa hpa,(a9 pa hpa).row⟩
 clear hS d1 hE hB hp dc dl hK;generalize hn:S.length=n at *;have HN:Hid _:=hn;clear hn
 go_enter Tryz.func168,Tryz.ntmps168
 go_wp2_with (go_at_call 185;refine(D1.out _ _ (HS.out.below (zaH _ _ _ _ _)) (zfk _ _ _ _ (by go_simp) (by go_simp))).mono ?_;rintro e w1 ⟨rfl,I⟩;simp only[yr] at I;have M:Hid (Below (w.heap.size+1+1+1) (((w.alloc (.cells #[.slice a n c] 43)).alloc (.cells #[.int .i64 (E:Int),.int .i64 u] 61)).alloc (.cells #[.slice none 0 0] 43)) w1):=((yk _ _).alloc (by simp) _).trans (I.mono (by omega));obtain⟨l0,l1,l2,U,l4⟩:=zlS M.out;have T:=(zaH _ _ _ _ _).trans (I.mono (by omega));obtain⟨b,o,ea,qp⟩:=QP.out _ (HS.out.below T);have HB:Hid _:=T;have hq:=yd _ _ qp;have b8:=yd _ _ l0;have c6:=yd _ _ l1;have c7:=yd _ _ U;subst ea;clear I T)
 refine(DC.out _ (HS.out.below HB.out)).mono ?_;rintro e Z ⟨g,kb,kc,rfl,J,O⟩;obtain⟨b4,b6,b5,b7⟩:=OC.out _ _ _ _ _ O;have c9:=J.size;have H7:Hid _:=M.out.trans (J.mono (by have:=M.out.size;simp at this;omega));have a8:Hid (Own Z w1.heap.size g S kb kc n):=O;have a5:Hid (Below w.heap.size w Z):=HB.out.trans (J.mono HB.out.size);clear l0 l1 l2 U l4 J O;obtain⟨l0,l1,l2,U,l4⟩:=zlS H7.out;have L1:=zcM l1;have L3:=zcM U;have c8:=yd _ _ l0;have b0:=yd _ _ U
 go_wp2_with fail
 refine(DL.out _ g n kb kc _ (Own.below a8.out ((yk _ _).alloc (yj _) _))).mono ?_;rintro e w9 ⟨rfl,D,a6⟩;have b9:=(D.cell (p:=⟨Z.heap.size,0,none⟩) (by simp) (by show ¬ (Z.heap.size=g\/Z.heap.size=kb pa);omega)).trans (show _=some (Value.slice (some ⟨g,0,none⟩) n n) by go_simp);have r9:=(D.cell (p:=⟨w.heap.size+1+1,0,none⟩) (by simp;omega) (by show ¬ (w.heap.size+1+1=g\/w.heap.size+1+1=kb pa);omega)).trans (L3 _);have f9:=fun o=>(D.frozen (p:=⟨w.heap.size+1+1,o,none⟩) (by simp;omega) (by show ¬ (w.heap.size+1+1=g\/w.heap.size+1+1=kb pa);omega)).trans ((((yk _ Z).alloc (yj _) (.cells #[.slice (some ⟨g,0,none⟩) n n] 43)).frozen (by exact b0)).trans (l4 o));have a7:Hid (Below w.heap.size w w9):=(a5.out.alloc a5.out.size _).trans (D.below (by simp;omega) (fun k hk=>by rcases hk with hk|hk <;> omega));have NS:Hid (∀ v (w3:World),(∀ b,g<=b->w3.heap[b]?=(w9.setCell ⟨w.heap.size+1+1,0,none⟩ v).heap[b]?)->zai w3 (some ⟨g,0,none⟩) (zbB S pa E)):=fun v w3 b2=>Own.up a6 _ (fun b hb=>(b2 b hb).trans (yv _ _ _ _ (by show b≠w.heap.size+1+1;omega)));clear a6 D l0 l1 l2 U l4 L1 L3
 go_wp2
 refine yw (v:=.tuple #[.agg #[.slice (some ⟨g,0,none⟩) n n],.int .i64 0]) (by simp[results,Tryz.results168,go_sem,r9]) rfl ⟨g,rfl,a7.out.setCell (by simp;omega) _,by omega,NS.out _⟩
end Go.Proofs.YtcbcpomacdngmaaGreat
