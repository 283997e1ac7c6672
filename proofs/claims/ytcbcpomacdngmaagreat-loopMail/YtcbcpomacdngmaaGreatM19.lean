/-
  x
-/
import Derived.Test.YtcbcpomacdngmaaGreatM18
namespace Go.Proofs.YtcbcpomacdngmaaGreat
set_option maxRecDepth 100000
set_option maxHeartbeats 4000000
set_option linter.unusedVariables false
open Go.RowKit Go.ChangeShapes Go.WideShapes
theorem zio.kept{w w' : World}{B D E F n:Nat}{v:Value}{T:List Int}(h:zio w B D E F n v T)(e:∀ j,j<w.heap.size->(j=D\/zfZ E F v j)->w'.heap[j]?=w.heap[j]?):zio w' B D E F n v T :=
 ⟨(e D (zau h.bmE) (Or.inl rfl)).trans h.bmE,(e E (zau h.btE) (Or.inr (Or.inl rfl))).trans h.btE,h.mp.kept (e F h.mp.lt (Or.inr (Or.inr (Or.inl rfl)))),zaJ h.own (fun j I=>e j (h.own.lt j I).2 (Or.inr (Or.inr (Or.inr I))))⟩
theorem zio.below{w w' : World}{B D E F n:Nat}{v:Value}{T:List Int}(h:zio w B D E F n v T)(I:Below w.heap.size w w'):zio w' B D E F n v T:=h.kept (fun j J _=>I.block j J)
theorem Later.trans{w w1:World}{v v1 v2:Value}(h:Later w v v1)(F:Later w1 v1 v2)(hs:w.heap.size<=w1.heap.size):Later w v v2:=by
 rcases F with e |⟨j,e,E⟩
 ·rcases h with D |⟨j,D,E⟩
  ·exact Or.inl (e.trans D)
  ·exact Or.inr ⟨j,e.trans D,E⟩
 ·exact Or.inr ⟨j,e,by omega⟩
theorem Later.off{w:World}{v v1:Value}{D E j:Nat}(h:Later w v v1)(J:j<w.heap.size)(I:zfZ D E v1 j):zfZ D E v j:=by
 rcases I with e|e|e
 ·exact Or.inl e
 ·exact Or.inr (Or.inl e)
 ·rcases h with h |⟨i,F,hi⟩
  ·exact Or.inr (Or.inr (h.symm.trans e))
  ·rw[F] at e;cases e;omega
def zyQ(s:Nat)(v:Value):Prop:=∀ j,v.ownBlock=some j->j<s\/s+3<=j
theorem zyQ.later{s:Nat}{w:World}{v v1:Value}(h:zyQ s v)(E:Later w v v1)(hs:s+3<=w.heap.size):zyQ s v1:=fun j D=>by
 rcases E with e |⟨i,e,hi⟩
 ·exact h j (e.symm.trans D)
 ·rw[e] at D;cases D;exact Or.inr (by omega)
theorem zge{T ks:List Int}{j:Nat}(D:j<ks.length):brings T (ks.take (j+1))=bring (brings T (ks.take j)) (ks.getD j 0):=by
 rw[List.take_succ_eq_append_getElem D,znN,zae ks 0 D]
theorem ztu(n:Nat)(hn:n<=1000)(w:World):(Instr.makeSlice 48 (.int .i64 (n:Int)) (.int .i64 (n:Int))).run Tryz.prog w=.ok (.slice (some ⟨w.heap.size,0,none⟩) n n) (w.alloc (.cells (madeCells #[.int .i64 0] n) 3)) :=
 run_make_row' (P:=Tryz.prog) 48 3 (.int .i64 0) 8 Tryz.underlying48 ziE rfl .i64 .i64 n (by omega) (by omega) w
def zgY(T ks:List Int)(j i:Nat):Value:=.int .i64 (if i<j then at1 (brings T (ks.take j)) (ks.getD i 0) else 0)
theorem zon{T ks:List Int}{j:Nat}(D:j<ks.length)(i:Nat):(if i=j then Value.int .i64 (at1 (bring (brings T (ks.take j)) (ks.getD j 0)) (ks.getD j 0)) else zgY T ks j i)=zgY T ks (j+1) i:=by
 unfold zgY;rw[zge D];by_cases e:i=j
 ·subst e;rw[yb rfl,yb (by omega)]
 ·rw[ya e];by_cases hi:i<j
  ·rw[yb hi,yb (by omega)]
   have E:ks.getD i 0 ∈ brings T (ks.take j):=by
    rw[zfB,zae ks 0 (by omega)];exact Or.inr (List.mem_take_iff_getElem.2 ⟨i,by omega,rfl⟩)
   obtain⟨r,F⟩:=zmr (brings T (ks.take j)) (ks.getD j 0);rw[F,znH E]
  ·rw[ya hi,ya (by omega)]
theorem zmx(x:Cl)(ka:Option Addr)(kc B B0 Z D F n:Nat)(v:Value)(T:List Int)(w:World)(h:zio w B Z D F n v T)(hB:B<=w.heap.size)(hl:x.ks.length<=8)(hn:n<=1000)(hT:T.length<=1000)(c6:∀ k ∈ x.ks,(Lit.int .i64 k).wf=true)
  (e6:B0<=B/\B0<=D/\B0<=F) (b9:∀ W,Below B0 w W->zal W ka x.ks) :
  yL 181 #[.agg #[.int .i64 x.n,.slice ka x.ks.length kc],.func (.func 180) #[] #[.pointer (some ⟨Z,0,none⟩),.pointer (some ⟨D,0,none⟩)]] w fun e w' =>
   ∃ E kb,e=.returned (.agg #[.int .i64 x.n,.slice (some ⟨kb,0,none⟩) x.ks.length x.ks.length])/\zio w' B Z D F (n+x.ks.length) E (brings T x.ks)/\Later w v E/\zho (zfZ D F v) w w' /\ w.heap.size<=kb/\E.ownBlock≠some kb /\
    w'.ownsRow w.heap.size 3 1 (.slice (some ⟨kb,0,none⟩) x.ks.length x.ks.length) x.ks.length ((x.ks.map (at1 (brings T x.ks))).map (Value.int .i64)):=by
 obtain⟨xn,ks⟩:=x;dsimp only at *;have eg:=yJ Tryz.func180 (by kernel_rfl) rfl;have e0:=fun W=>ztu ks.length (by omega) W;have d4:Hid (∀ W,Below B0 w W->zal W ka ks):=b9;have d5:Hid (∀ k ∈ ks,(Lit.int .i64 k).wf=true):=c6;have a7:Hid (Z<w.heap.size/\D<w.heap.size/\F<w.heap.size):=⟨zau h.bmE,zau h.btE,h.mp.lt⟩;have BR:Hid (∀ (n' : Nat) (E:Value) (T' : List Int) (k:Int) (W:World),zio W B Z D F n' E T' ->(Lit.int .i64 k).wf=true->n' < 100000->T'.length<100000->B<=W.heap.size->Calls _ _ _ _ _):=fun n' E T' k W h1 h2 h3 h4 h5=>zmp B Z D F n' E T' k W h1 h2 h3 h4 h5
 have TL:Hid (∀ j,(brings T (ks.take j)).length<=T.length+j):=fun j=>by
  induction j with
  | zero=>simp[brings]
  | succ j ih =>
   by_cases hj:j<ks.length
   ·rw[zge hj];unfold bring;split
    ·omega
    ·rw[List.length_append,List.length_singleton];omega
   ·rw[List.take_of_length_le (by omega)] at ih |-;omega
 have H0:Hid (zio w B Z D F n v T):=h;have F0:Hid (zyQ w.heap.size v):=fun j hj=>Or.inl (h.own.lt j hj).2;have RL:Hid (∀ i,i<ks.length->ks.getD i 0 ∈ ks):=fun i hi=>by rw[zae ks 0 hi];exact List.getElem_mem hi
 have b0:Hid (∀ j,j<ks.length->∀ i,(if i=j then Value.int .i64 (at1 (bring (brings T (ks.take j)) (ks.getD j 0)) (ks.getD j 0)) else zgY T ks j i)=zgY T ks (j+1) i):=fun j hj i=>zon hj i;have BT:Hid (∀ j,j<ks.length->brings T (ks.take (j+1))=bring (brings T (ks.take j)) (ks.getD j 0)):=fun j hj=>zge hj;obtain⟨m,hm⟩:∃ m,ks.length=m:=⟨_,rfl⟩;have HM:Hid (ks.length=m):=hm;rw[hm] at hl e0 RL b0 BT |-;clear h b9 c6 hm
 go_enter Tryz.func181,Tryz.ntmps181
 go_wp2_with fail
 go_loopg [15] m (fun g s15 wr=>∃ (j:Nat) (E:Value),j<=m/\m-j<=g/\s15=.int .i64 j/\wr.heap[w.heap.size]?=some (.cells #[.int .i64 xn,.slice ka m kc] 55 (0,0))/\wr.heap[w.heap.size+1]?=some (.cells #[.int .i64 0,.slice none 0 0] 55 (0,0))/\w.heap.size+3<=wr.heap.size /\
   Hid (zio wr B Z D F (n+j) E (brings T (ks.take j)))/\Hid (Later w v E)/\Hid (zyQ w.heap.size E)/\Hid (zho (zfZ D F v) w wr)/\Hid (wr.rowIs (w.heap.size+2) 3 m (zgY T ks j)))
 case atStart =>
  refine⟨0,v,by omega,by omega,rfl,?_,?_,by simp,?_,Or.inl rfl,F0,?_,?_⟩
  ·exact(Below.heap_alloc _ _ _ (by simp only[yr];omega)).trans ((Below.heap_alloc _ _ _ (by simp)).trans (yK w _))
  ·refine(Below.heap_alloc _ _ _ (by simp)).trans ?_;have:=yK (w.alloc (.cells #[.int .i64 xn,.slice ka m kc] 55)) (.cells #[.int .i64 0,.slice none 0 0] 55);simpa using this
  ·exact H0.out.below (((yk _ _).alloc (yj _) _).alloc (by simp) _ |>.alloc (by simp;omega) _)
  ·exact zho.of_below (((yk _ _).alloc (yj _) _).alloc (by simp) _ |>.alloc (by simp;omega) _)
  ·have:=World.rowIs_made ((w.alloc (.cells #[.int .i64 xn,.slice ka m kc] 55)).alloc (.cells #[.int .i64 0,.slice none 0 0] 55)) (.int .i64 0) m 3;simp only[yr] at this;exact this.congr (fun i _=>by unfold zgY;rw[ya (by omega)])
 case round =>
  obtain⟨j,E,hj,hg,rfl,x1,x2,e9,b3,a6,O,J,b4⟩:=hrel;have c7:=x1;by_cases U:j<m
  ·have e2:(j:Int)<(m:Int):=by omega
   have b1:Below B0 w wr:=J.out.below (by have:=a7.out.2.1;omega) (fun k hk=>by
    rcases hk with e|e|e
    ·omega
    ·omega
    ·have:=(H0.out.own.lt k e).1;omega)
   obtain⟨pb,po,ep,e8⟩:=d4.out wr b1 j (by rw[HM.out];exact U);subst ep;have e1:=d5.out _ (RL.out j U);have e3:=TL.out j;have d8:Hid _:=b0.out j U;have c9:Hid _:=BT.out j U;have c8:Hid _:=BR.out (n+j) E _ (ks.getD j 0) wr b3.out e1 (by omega) (by omega) (by have:=J.out.size;omega);clear b1;generalize ks.getD j 0=y at *;generalize brings T (ks.take j)=Tj at *;generalize at1 (bring Tj y) y=A at *
   go_wp2_with fail
   refine ye c8.out ?_;rintro e w3 ⟨v3,rfl,b8,b5,a8⟩
   have kp:∀ i,w.heap.size<=i->i<w.heap.size+3->w3.heap[i]?=wr.heap[i]?:=fun i h1 h2=>a8.block i (by omega) (fun M=>by
    have:=a7.out;rcases M with e|e|e
    ·omega
    ·omega
    ·have:=O.out i e;omega)
   have y1:=(kp w.heap.size (by omega) (by omega)).trans x1;have y2:=(kp (w.heap.size+1) (by omega) (by omega)).trans x2;have I:=b4.out.of_block (kp (w.heap.size+2) (by omega) (by omega));have rc:=I.cell U;have rf:=I.frozen j;have s3:=a8.size;have a9:Hid (zyQ w.heap.size v3):=O.out.later b5 (by omega);have b6:Hid (Later w v v3):=a6.out.trans b5 (by omega);have b7:Hid (zho (zfZ D F v) w w3):=J.out.trans a8 (fun i hi M=>a6.out.off hi M)
   have a5:Hid (zio (w3.setCell ⟨w.heap.size+2,j,none⟩ (.int .i64 A)) B Z D F (n+(j+1)) v3 (bring Tj y)):=b8.kept (fun i hi M=>ys _ _ _ _ (by
    show i≠w.heap.size+2;have:=a7.out;rcases M with e|e|e|e
    ·omega
    ·omega
    ·omega
    ·have:=a9.out i e;omega))
   have d7:Hid ((w3.setCell ⟨w.heap.size+2,j,none⟩ (.int .i64 A)).rowIs (w.heap.size+2) 3 m (zgY T ks (j+1))):=(I.set j (.int .i64 A)).congr (fun i _=>d8.out i);have d6:Hid (zho (zfZ D F v) w (w3.setCell ⟨w.heap.size+2,j,none⟩ (.int .i64 A))):=b7.out.trans (Y:=fun i=>i=w.heap.size+2) (zeK _ _ _ _ rfl) (fun i hi M=>by have M:i=w.heap.size+2:=M;omega);have Y1:Hid ((w3.setCell ⟨w.heap.size+2,j,none⟩ (.int .i64 A)).heap[w.heap.size]?=_):=(ys _ _ _ _ (by show w.heap.size≠w.heap.size+2;omega)).trans y1;have Y2:Hid ((w3.setCell ⟨w.heap.size+2,j,none⟩ (.int .i64 A)).heap[w.heap.size+1]?=_):=(ys _ _ _ _ (by show w.heap.size+1≠w.heap.size+2;omega)).trans y2;have s4:w.heap.size+2<w3.heap.size:=(by omega);clear kp b8 b5 a8 I y1 y2 x1 x2 O a6 J c7
   go_wp2_with fail
   go_roundg (m-(j+1))
   case measure=>omega
   case rel=>exact⟨j+1,v3,by omega,by omega,by go_num,Y1.out,Y2.out,by simp[World.setCell];omega,(show zio _ _ _ _ _ _ _ _ by rw[c9.out];exact a5.out),b6,a9,d6,d7⟩
  ·have d9:m=j:=(by omega);subst d9;have e7:wr.cell? ⟨w.heap.size,0,none⟩=some (.int .i64 xn):=(by simp[World.cell?,x1]);have d0:wr.cell? ⟨w.heap.size+1,0,none⟩=some (.int .i64 0):=(by simp[World.cell?,x2]);have d1:wr.cell? ⟨w.heap.size+1,1,none⟩=some (.slice none 0 0):=(by simp[World.cell?,x2]);have df:∀ o,wr.frozen? ⟨w.heap.size+1,o,none⟩=false:=fun o=>by simp[World.frozen?,x2]
   have e4:=df 0;have e5:=df 1;have s4:w.heap.size+1<wr.heap.size:=(by omega);have eT:brings T (ks.take m)=brings T ks:=by rw[List.take_of_length_le (by rw[HM.out];omega)]
   have a5:Hid (∀ va vb,let w9:=(wr.setCell ⟨w.heap.size+1,0,none⟩ va).setCell ⟨w.heap.size+1,1,none⟩ vb;zio w9 B Z D F (n+m) E (brings T ks)/\zho (zfZ D F v) w w9/\w9.ownsRow w.heap.size 3 1 (.slice (some ⟨w.heap.size+2,0,none⟩) m m) m ((ks.map (at1 (brings T ks))).map (Value.int .i64))):=fun va vb=>by
    intro w9;have kp:∀ i,i≠w.heap.size+1->w9.heap[i]?=wr.heap[i]?:=fun i hi=>(ys _ _ _ _ hi).trans (ys _ _ _ _ hi);refine⟨?_,?_,?_⟩
    ·have h1:=b3.out;rw[eT] at h1;refine h1.kept (fun i hi M=>kp i ?_);have:=a7.out;rcases M with e|e|e|e
     ·omega
     ·omega
     ·omega
     ·have:=O.out i e;omega
    ·refine J.out.trans (Y:=fun i=>i=w.heap.size+1) (zho.trans (Y:=fun i=>i=w.heap.size+1) (zeK _ _ _ _ rfl) (zeK _ _ _ _ rfl) (fun _ _ h=>h)) (fun i hi M=>?_);have M:i=w.heap.size+1:=M;omega
    ·have hr:=b4.out.of_block (kp (w.heap.size+2) (by omega));have hlen:(ks.map (at1 (brings T ks))).length=m:=by rw[List.length_map,HM.out]
     have:=zkO (B:=w.heap.size) (l:=ks.map (at1 (brings T ks))) hr (fun i hi=>by
      rw[hlen] at hi;unfold zgY;rw[yb hi,eT,zae (ks.map (at1 (brings T ks))) 0 (by rw[hlen];exact hi),List.getElem_map,zae ks 0 (by rw[HM.out];exact hi)]) (by omega) (by unfold maxLen;omega) (by omega)
     rw[hlen] at this;exact this
   have NE:Hid (E.ownBlock≠some (w.heap.size+2)):=fun e=>by have:=O.out _ e;omega
   have FN:=a5.out (.int .i64 xn) (.slice (some ⟨w.heap.size+1+1,0,none⟩) m m);have b2:Hid _:=FN;have r0:(wr.setCell ⟨w.heap.size+1,0,none⟩ (.int .i64 xn)).cell? ⟨w.heap.size+1,0,none⟩=some (.int .i64 xn):=World.cell?_setCell_same _ _ _ d0;have r1:((wr.setCell ⟨w.heap.size+1,0,none⟩ (.int .i64 xn)).setCell ⟨w.heap.size+1,1,none⟩ (.slice (some ⟨w.heap.size+1+1,0,none⟩) m m)).cell? ⟨w.heap.size+1,1,none⟩=some (.slice (some ⟨w.heap.size+1+1,0,none⟩) m m):=World.cell?_setCell_same _ _ _ ((World.cell?_setCell_other _ _ _ _ (by intro e;cases e)).trans d1);clear x1 x2 c7 df b4 J b3 a5 FN
   go_wp2_with fail
   refine yv (v:=.agg #[.int .i64 xn,.slice (some ⟨w.heap.size+1+1,0,none⟩) m m]) (by simp[results,Tryz.results181,go_sem,r0,r1]) rfl ?_;refine⟨E,w.heap.size+2,rfl,b2.out.1,a6.out,b2.out.2.1,by omega,NE.out,?_⟩;have h9:=b2.out.2.2
   first|exact h9|(simp only[List.map_map] at h9 |-;exact h9)
theorem zvT:(Tryz.prog.info? 55).map (fun i=>(i.zero,i.size,i.bytes))=some (some (.agg #[.int .i64 0,.slice none 0 0]),2,32):=by kernel_rfl
def zgJ(x:Cl)(v:Value):List Value:=[.int .i64 x.n,v]
def zkt(L:List Cl)(K:Nat->Value):List Value:=(List.range L.length).flatMap fun i=>zgJ (cl L i) (K i)
theorem zss{L:List Cl}{s:Cl}{i:Nat}(h:i<L.length):cl (L++[s]) i=cl L i:=by
 rw[zco (by simp;omega),zco h,List.getElem_append_left h]
theorem zsr(L:List Cl)(s:Cl):cl (L++[s]) L.length=s:=by
 rw[zco (by simp)];simp
theorem znO(L:List Cl)(K:Nat->Value)(s:Cl)(v:Value):zkt L K++zgJ s v=zkt (L++[s]) (fun i=>if i=L.length then v else K i):=by
 unfold zkt;rw[List.length_append,List.length_singleton,List.range_succ,List.flatMap_append]
 congr 1
 ·rw[List.flatMap_def,List.flatMap_def]
  congr 1
  refine List.map_congr_left (fun i hi=>?_);have hi:=List.mem_range.1 hi;show _=zgJ (cl (L++[s]) i) (if i=L.length then v else K i);rw[zss hi,ya (by omega)]
 ·simp[zsr]
def zhX(B:Nat)(L:List Cl)(K:Nat->Value)(v:Value)(w:World):Prop :=
 w.ownsRow B 55 2 v L.length (zkt L K)/\∀ i,i<L.length->w.ownsRow B 3 1 (K i) (cl L i).ks.length ((cl L i).ks.map (Value.int .i64))
theorem zfC(L:List Cl)(K:Nat->Value):∀ q,((List.range q).flatMap fun i=>zgJ (cl L i) (K i)).length=q*2
 | 0=>rfl
 | q+1=>by rw[List.range_succ,List.flatMap_append,List.length_append,zfC L K q];simp[zgJ];omega
theorem zms(L:List Cl)(K:Nat->Value){i j:Nat}(D:j<2):∀ {q:Nat},i<q->((List.range q).flatMap fun i=>zgJ (cl L i) (K i))[i*2+j]?=(zgJ (cl L i) (K i))[j]?
 | 0,hi=>by omega
 | q+1,hi=>by
  rw[List.range_succ,List.flatMap_append];by_cases e:i=q
  ·subst e;rw[List.getElem?_append_right (by rw[zfC];omega),zfC];simp
  ·rw[List.getElem?_append_left (by rw[zfC];omega)];exact zms L K D (by omega)
theorem zhX.cls{B:Nat}{L:List Cl}{K:Nat->Value}{v:Value}{w:World}(h:zhX B L K v w):∃ a c,v=.slice a L.length c/\zaF w a L:=by
 obtain⟨E,O⟩:=h;have D:=E;obtain⟨hl,h⟩:=E;rcases h with ⟨rfl,h0⟩ |⟨g,cap,F,rfl,hb,hg,h1,T,U,Z⟩
 ·exact⟨none,0,by rw[h0],fun i hi=>by omega⟩
 ·refine⟨some ⟨g,0,none⟩,cap,rfl,fun i hi=>⟨g,0,rfl,?_⟩⟩
  have hc:∀ j,j<2->w.cell? ⟨g,i*2+j,none⟩=(zgJ (cl L i) (K i))[j]?:=fun j M=>by
   rw[<- zms L K M hi];exact D.cellAt (i*2+j) (by omega)
  obtain⟨sa,sc,I,J⟩:=zfJ (O i hi);rw[yz];refine⟨hc 0 (by omega),sa,sc,?_,J⟩;rw[hc 1 (by omega),I];rfl
theorem zhX.kept{B:Nat}{L:List Cl}{K:Nat->Value}{v:Value}{w w' : World}(h:zhX B L K v w)(e:∀ j,B<=j->j<w.heap.size->(v.ownBlock=some j\/∃ i,i<L.length/\(K i).ownBlock=some j)->w'.heap[j]?=w.heap[j]?):zhX B L K v w' :=
 ⟨zaJ h.1 (fun k D=>e k (h.1.lt k D).1 (h.1.lt k D).2 (Or.inl D)),fun i hi=>zaJ (h.2 i hi) (fun k D=>e k ((h.2 i hi).lt k D).1 ((h.2 i hi).lt k D).2 (Or.inr ⟨i,hi,D⟩))⟩
theorem zhX.step{O w3:World}{B:Nat}{L:List Cl}{K:Nat->Value}{v v1 v2:Value}{s:Cl}{o3:Obj}(I:zhX B L K v O)(D:O.ownsRow B 3 1 v1 s.ks.length (s.ks.map (Value.int .i64)))
  (h3:(O.alloc o3).grownBy w3 v.ownBlock) (M:w3.ownsRow B 55 2 v2 (L.length+1) (zkt L K++zgJ s v1)) :
  zhX B (L++[s]) (fun i=>if i=L.length then v1 else K i) v2 w3:=by
 obtain⟨hm,E⟩:=I
 have U:∀ k,k<O.heap.size->v.ownBlock≠some k->w3.heap[k]?=O.heap[k]?:=fun k E T =>
  (h3.block k (by simp;omega) (fun e=>T e.symm)).trans (Below.heap_alloc _ _ _ E)
 refine⟨?_,fun i hi=>?_⟩
 ·rw[<- znO,List.length_append,List.length_singleton];exact M
 ·rw[List.length_append,List.length_singleton] at hi;by_cases Z:i=L.length
  ·subst Z;simp only[if_true];rw[zsr];exact zaJ D (fun k E=>U k (D.lt k E).2 (zei D hm (by decide) k E))
  ·simp only[ya Z];have J:i<L.length:=(by omega);rw[zss J];have F:=E i J;exact zaJ F (fun k E=>U k (F.lt k E).2 (zei F hm (by decide) k E))
theorem zAA{W:World}{b:Nat}{s:Cl}{v:Value}(c0:W.cell? ⟨b,0,none⟩=some (.int .i64 s.n))(c1:W.cell? ⟨b,1,none⟩=some v):∀ j u,(zgJ s v)[j]?=some u->W.cell? ((⟨b,0,none⟩:Addr).add j)=some u:=fun j u D=>by
 unfold zgJ at D;rw[Addr.add_lit]
 match j,D with
 | 0,D=>cases D;exact c0
 | 1,D=>cases D;exact c1
theorem zAS{s:Cl}{a:Option Addr}{n c:Nat}:∀ u ∈ zgJ s (.slice a n c),u.oneCell' = true:=fun u D=>by
 unfold zgJ at D;simp at D;rcases D with rfl|rfl <;> rfl
theorem ziw{P:Program}{ops:Array Oper}{o:Oper}{a:Act}{w:World}{K:Act->World->Prop}{Q:Exit->Act->World->Prop}{E:Prop}
  (hg:o.guard=none) (s x:Operand) (t:TypeId) (O:o.op=Op.call { callee:=Callee.builtin Builtin.append,args:=#[s,x],argTypes:=#[t,t] })
  (base:Nat) (e:TypeId) (i:TypeInfo) (z:Value) (size bytes:Nat) (h1:P.underlying t=some (.slice e)) (h2:P.info? e=some i) (h3:i.zero=some z) (h4:i.size=size) (h5:i.bytes=bytes) (h6:z.cells.size=size) (h7:0<size)
  (v:Value) (n:Nat) (T:List Value) (hs:a.eval s=v) (F:w.ownsRow base e size v n T)
  (J:Addr) (m c:Nat) (news:List Value) (hx:a.eval x=.slice (some J) m c) (hn:news.length=m*size) (hc:∀ j u,news[j]?=some u->w.cell? (J.add j)=some u) (M:∀ u ∈ news,u.oneCell' = true)
  (U:n+m<=maxLen) (Z:(n+m)*bytes<=140737488355328) (D:base<=w.heap.size)
  (hK:∀ I w', w'.ownsRow base e size I (n+m) (T++news)->w.grownBy w' v.ownBlock->K (a.put o.dst I) w') :
  if Region.wanted o (yielded ops a.tmps)=true then Oper.wp P o a w K Q else E:=by
 have hw:Region.wanted o (yielded ops a.tmps)=true:=by simp[Region.wanted,hg]
 rw[yb hw];exact wp_append_own w s x t O base e i z size bytes h1 h2 h3 h4 h5 h6 h7 v n T hs F J m c news hx hn hc M U Z D (fun I w' r1 r2 _=>hK I w' r1 r2)
theorem zsc{G:List Cl}(D:zdG G)(h0:0<G.length){i:Nat}{k:Int}(E:k ∈ bfs G i):at1 (bfs G i) k=at1 (reach G) k:=by
 obtain⟨r,F⟩:=zgH D h0 i;rw[F,znH E]
theorem zsg{G:List Cl}(E:zdG G)(h0:0<G.length){i:Nat}(hi:i<(bfs G i).length):i<(reach G).length/\(reach G).getD i 0=(bfs G i).getD i 0:=by
 obtain⟨r,D⟩:=zgH E h0 i;have h1:i<(reach G).length:=by rw[D];simp;omega
 refine⟨h1,?_⟩;rw[zae _ _ h1,zae _ _ hi];simp only[D];rw[List.getElem_append_left hi]
theorem zoY{G:List Cl}{i:Nat}(hi:i<(bfs G i).length):brings (bfs G i) (cl G ((bfs G i).getD i 0).toNat).ks=bfs G (i+1):=by
 rw[bfs,yb hi]
theorem zsy{G:List Cl}(D:zdG G)(h0:0<G.length){i y:Nat}(hi:i<(bfs G i).length)(E:(bfs G i).getD i 0=y) :
  (zbw G).take (i+1)=(zbw G).take i++[⟨(cl G y).n,(cl G y).ks.map (at1 (bfs G (i+1)))⟩]:=by
 obtain⟨h1,F⟩:=zsg D h0 hi;have hl:=zfb h0;rw[List.take_succ_eq_append_getElem (by omega),<- zco,zlr h0 h1,F,E];unfold zqk;rw[yi]
 congr 3
 refine List.map_congr_left (fun k I=>?_);rw[zsc D h0];rw[<- zoY hi,zfB,E,yi];exact Or.inr I
theorem zzg(G:List Cl):∀ i,(bfs G i).length<=(bfs G (i+1)).length:=fun i=>by
 obtain⟨r,D⟩:=zsh G i;rw[D];simp
theorem zew{w w1:World}{a:Option Addr}{n c:Nat}{p u:Int}(D:Below (w.heap.size+1+1+1+1) ((((w.alloc (.cells #[.slice a n c] 43)).alloc (.cells #[.int .i64 p,.int .i64 u] 61)).alloc (.cells #[.slice none 0 0] 43)).alloc (.cells #[.int .i64 0,.int .i64 0] 61)) w1) :
  w1.cell? ⟨w.heap.size,0,none⟩=some (.slice a n c)/\w1.cell? ⟨w.heap.size+1,0,none⟩=some (.int .i64 p)/\w1.cell? ⟨w.heap.size+1,1,none⟩=some (.int .i64 u)/\w1.cell? ⟨w.heap.size+1+1,0,none⟩=some (.slice none 0 0)/\w1.cell? ⟨w.heap.size+1+1+1,0,none⟩=some (.int .i64 0)/\w1.cell? ⟨w.heap.size+1+1+1,1,none⟩=some (.int .i64 0)/\(∀ o,w1.frozen? ⟨w.heap.size+1+1,o,none⟩=false)/\(∀ o,w1.frozen? ⟨w.heap.size+1+1+1,o,none⟩=false):=by
 refine⟨?_,?_,?_,?_,?_,?_,fun o=>?_,fun o=>?_⟩
 all_goals first|exact(D.cell (by first|(simp;done)|(simp;omega))).trans (by go_simp)|exact(D.frozen (by first|(simp;done)|(simp;omega))).trans (by go_simp)
theorem zse(a:Option Addr)(c:Nat)(S:List Nd)(k f:Nat)(u:Int)(cl:Bool)(w:World)(wf:WF S)(hS:zah w a S)(hk:k<S.length)(hE:zaC S k u=0)(hH:zfj S k=false)(hf:f<S.length)(b2:zcn (nd S f)=true)(T:∀ i,i<f->zcn (nd S i)=false) :
  yL 193 #[.agg #[.slice a S.length c],.agg #[.int .i64 (k:Int),.int .i64 u],.bool cl] w fun e w' => ∃ g,e=.returned (.tuple #[.agg #[.slice (some ⟨g,0,none⟩) S.length S.length],.agg #[.int .i64 (f:Int),.int .i64 ((nd S f).n+1)],.int .i64 0])/\Below w.heap.size w w' /\ w.heap.size<=g/\znz w' g (S.set f (zbS (nd S f) k cl)):=by
 have hN:=wf.small;have D0:Hid (∀ W,zah W a S->Calls _ _ _ _ _):=fun W hW=>find_ok a c S k u W (by omega) wf.big hW hk hE (by have:=wf.kids_small hk;omega);have d1:=fun W hW=>zee a c S (k:Int) W (by omega) hW (by omega);rw[hH] at d1;have D1:Hid _:=d1;have D2:Hid (∀ W,zah W a S->Calls _ _ _ _ _):=fun W hW=>zps a c S 0 W hN (fun i hi=>by have:=wf.kids_small hi;omega) hW ((zfz _).2 wf) (by omega) (by omega) f hf b2 (wf.uses hf).1 T;have HS:Hid (zah w a S):=hS
 have RT:Hid (∀ W g,znz W g (S.set f (zbQ (nd S f) 0))->znz ((W.setCell ⟨g,f*8+6,none⟩ (.int .i64 (k:Int))).setCell ⟨g,f*8+7,none⟩ (.bool cl)) g (S.set f (zbS (nd S f) k cl))):=fun W g h=>by
  have h2:=h.root (k:=f) (by simpa using hf) (k:Int) cl;rw[zcR S f f _ hf,yb rfl,List.set_set] at h2;exact h2
 have RC:Hid (∀ W g,znz W g (S.set f (zbQ (nd S f) 0))->g<W.heap.size/\(∀ o,W.frozen? ⟨g,o,none⟩=false)/\(∃ v6 v7,W.cell? ⟨g,f*8+6,none⟩=some v6/\W.cell? ⟨g,f*8+7,none⟩=some v7)):=fun W g ⟨F,hF,_⟩=>by
  rw[List.length_set] at hF;exact⟨hF.lt,hF.frozen,_,_,hF.cell (by omega),hF.cell (by omega)⟩
 have b8:(f:Int)<(S.length:Int):=by omega
 have b9:decide ((f:Int)<0)=false:=yE (by omega);clear hS wf hE hH b2 T d1;obtain⟨x0,b3⟩:∃ x,nd S k=x:=⟨_,rfl⟩;rw[b3] at D0;clear b3;obtain⟨S1,b0⟩:∃ S1,S.set f (zbQ (nd S f) 0)=S1:=⟨_,rfl⟩;obtain⟨S2,b1⟩:∃ S2,S.set f (zbS (nd S f) k cl)=S2:=⟨_,rfl⟩;rw[b0] at D2 RT RC;rw[b1] at RT |-;clear b0 b1;generalize (nd S f).n=nf at *;generalize S.length=n at *
 go_enter Tryz.func193,Tryz.ntmps193
 go_wp2_with fail
 refine ye (D0.out _ (HS.out.below (zaH _ _ _ _ _))) ?_;rintro e w2 ⟨fg,rfl,J,_⟩;simp only[yr] at J;have a7:Hid (Below (w.heap.size+1+1+1+1) ((((w.alloc (.cells #[.slice a n c] 43)).alloc (.cells #[.int .i64 (k:Int),.int .i64 u] 61)).alloc (.cells #[.slice none 0 0] 43)).alloc (.cells #[.int .i64 0,.int .i64 0] 61)) w2):=J;have b6:=J.size;simp only[yr] at b6;obtain⟨l0,l1,l2,l3,l4,l5,l6,l7⟩:=zew J;have BW:Hid (∀ W,Below (w.heap.size+1+1+1+1) ((((w.alloc (.cells #[.slice a n c] 43)).alloc (.cells #[.int .i64 (k:Int),.int .i64 u] 61)).alloc (.cells #[.slice none 0 0] 43)).alloc (.cells #[.int .i64 0,.int .i64 0] 61)) W->Below w.heap.size w W):=fun W h=>(zaH _ _ _ _ _).trans (h.mono (by omega));clear J;have q0:w.heap.size<w2.heap.size:=by omega
 have q1:w.heap.size+1<w2.heap.size:=by omega
 go_wp2_with fail
 refine ye (D1.out _ (HS.out.below (BW.out _ (a7.out.alloc (by omega) _)))) ?_;rintro e w3 ⟨rfl,M⟩;simp only[yr] at M;have U:Hid (Below (w.heap.size+1+1+1+1) ((((w.alloc (.cells #[.slice a n c] 43)).alloc (.cells #[.int .i64 (k:Int),.int .i64 u] 61)).alloc (.cells #[.slice none 0 0] 43)).alloc (.cells #[.int .i64 0,.int .i64 0] 61)) w3):=(a7.out.alloc (by omega) _).trans (M.mono (by omega));have b7:=M.size;simp only[yr] at b7;clear M l0 l1 l2 l3 l4 l5 l6 l7;obtain⟨l0,l1,l2,l3,l4,l5,l6,l7⟩:=zew U.out
 go_wp2_with fail
 refine ye (D2.out _ (HS.out.below (BW.out _ U.out))) ?_;rintro e I ⟨g,rfl,a6,c6,a5⟩;have Z:Hid (Below (w.heap.size+1+1+1+1) ((((w.alloc (.cells #[.slice a n c] 43)).alloc (.cells #[.int .i64 (k:Int),.int .i64 u] 61)).alloc (.cells #[.slice none 0 0] 43)).alloc (.cells #[.int .i64 0,.int .i64 0] 61)) I):=U.out.trans (a6.mono (by omega));have c8:=a6.size;clear a6 l0 l1 l2 l3 l4 l5 l6 l7;obtain⟨l0,l1,l2,l3,l4,l5,l6,l7⟩:=zew Z.out;obtain⟨c7,b5,v6,v7,d6,d7⟩:=RC.out _ _ a5;have a9:Hid (znz I g S1):=a5;have e1:¬ g=w.heap.size+1:=by omega
 have e2:¬ w.heap.size+1=g:=by omega
 have e3:¬ g=w.heap.size+1+1:=by omega
 have e4:¬ w.heap.size+1+1=g:=by omega
 have e5:¬ g=w.heap.size+1+1+1:=by omega
 have e6:¬ w.heap.size+1+1+1=g:=by omega
 have q2:w.heap.size+1<I.heap.size:=by omega
 have q3:w.heap.size+1+1<I.heap.size:=by omega
 have q4:w.heap.size+1+1+1<I.heap.size:=by omega
 have q5:w.heap.size<I.heap.size:=by omega
 clear a5 D0 D1 D2
 go_wp2_with fail
 first
  |(obtain⟨E,D⟩:∃ E,E=((((I.setCell ⟨g,f*8+6,none⟩ (.int .i64 (k:Int))).setCell ⟨g,f*8+7,none⟩ (.bool cl)).alloc (.cells #[.slice (some ⟨g,0,none⟩) n n] 43)).alloc (.cells #[.int .i64 (f:Int),.int .i64 (nf+1)] 61)):=⟨_,rfl⟩;rw[<- D])
  |(obtain⟨E,D⟩:∃ E,E=((((I.alloc (.cells #[.slice (some ⟨g,0,none⟩) n n] 43)).alloc (.cells #[.int .i64 (f:Int),.int .i64 (nf+1)] 61)).setCell ⟨g,f*8+6,none⟩ (.int .i64 (k:Int))).setCell ⟨g,f*8+7,none⟩ (.bool cl)):=⟨_,rfl⟩;rw[<- D])
 have b4:Hid (znz E g S2):=by
  rw[D]
  first
   | exact(RT.out I g a9.out).up (fun b _ O=>(((yk _ _).alloc (yj _) _).alloc (by simp) _).block b O)
   | exact RT.out _ g (a9.out.up (fun b _ O=>(((yk _ _).alloc (yj _) _).alloc (by simp) _).block b O))
 have c9:E.heap.size=I.heap.size+1+1:=by rw[D];simp
 have a8:Hid (Below w.heap.size w E):=by
  rw[D]
  first
   | exact((((BW.out _ Z.out).setCell (by simp;omega) _).setCell (by simp;omega) _).alloc (by simp;omega) _).alloc (by simp;omega) _
   | exact((((BW.out _ Z.out).alloc (by omega) _).alloc (by simp;omega) _).setCell (by simp;omega) _).setCell (by simp;omega) _
 have y0:E.cell? ⟨I.heap.size,0,none⟩=some (.slice (some ⟨g,0,none⟩) n n):=by rw[D];go_simp
 have y1:E.cell? ⟨I.heap.size+1,0,none⟩=some (.int .i64 (f:Int)):=by rw[D];go_simp
 have y2:E.cell? ⟨I.heap.size+1,1,none⟩=some (.int .i64 (nf+1)):=by rw[D];go_simp
 have y3:E.cell? ⟨w.heap.size+1+1,0,none⟩=some (.slice none 0 0):=by rw[D];go_simp
 have y4:E.cell? ⟨w.heap.size+1+1+1,0,none⟩=some (.int .i64 0):=by rw[D];go_simp
 have y5:E.cell? ⟨w.heap.size+1+1+1,1,none⟩=some (.int .i64 0):=by rw[D];go_simp
 have y6:∀ o,E.frozen? ⟨w.heap.size+1+1,o,none⟩=false:=fun o=>by rw[D];go_simp
 have y7:∀ o,E.frozen? ⟨w.heap.size+1+1+1,o,none⟩=false:=fun o=>by rw[D];go_simp
 have z1:I.heap.size<E.heap.size:=by omega
 have z2:I.heap.size+1<E.heap.size:=by omega
 have z3:w.heap.size+1+1<E.heap.size:=by omega
 have z4:w.heap.size+1+1+1<E.heap.size:=by omega
 have z5:¬ I.heap.size=w.heap.size+1+1:=by omega
 have z6:¬ I.heap.size+1=w.heap.size+1+1:=by omega
 have z7:¬ I.heap.size=w.heap.size+1+1+1:=by omega
 have z8:¬ I.heap.size+1=w.heap.size+1+1+1:=by omega
 clear D l0 l1 l2 l3 l4 l5 l6 l7 d6 d7 b5
 go_region
 all_goals (try go_wp2)
 all_goals
  refine yv (v:=.tuple #[.agg #[.slice (some ⟨g,0,none⟩) n n],.agg #[.int .i64 (f:Int),.int .i64 (nf+1)],.int .i64 0]) (by simp[results,Tryz.results193,go_sem,y3,y4,y5]) rfl ⟨g,rfl,?_,by omega,?_⟩
  ·first
    | exact(((a8.out.setCell (by simp;omega) _).setCell (by simp;omega) _).setCell (by simp;omega) _).drew
    | exact((a8.out.setCell (by simp;omega) _).setCell (by simp;omega) _).setCell (by simp;omega) _
  ·refine b4.out.up (fun b hb O=>?_)
   first
    | rw[heap_drew,ys _ _ _ _ (by show b≠w.heap.size+1+1+1;omega),ys _ _ _ _ (by show b≠w.heap.size+1+1+1;omega),ys _ _ _ _ (by show b≠w.heap.size+1+1;omega)]
    | rw[ys _ _ _ _ (by show b≠w.heap.size+1+1+1;omega),ys _ _ _ _ (by show b≠w.heap.size+1+1+1;omega),ys _ _ _ _ (by show b≠w.heap.size+1+1;omega)]
end Go.Proofs.YtcbcpomacdngmaaGreat
