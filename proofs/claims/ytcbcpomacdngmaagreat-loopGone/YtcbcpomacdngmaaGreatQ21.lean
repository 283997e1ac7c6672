/-
  x
-/
import Derived.Test.YtcbcpomacdngmaaGreatQ20
namespace Go.Proofs.YtcbcpomacdngmaaGreat
set_option maxRecDepth 100000
set_option maxHeartbeats 4000000
set_option linter.unusedVariables false
open Go.RowKit Go.ChangeShapes Go.WideShapes
theorem ziD.kept{w w' : World}{B D E F n:Nat}{v:Value}{T:List Int}(h:ziD w B D E F n v T)(e:∀ j,j<w.heap.size->(j=D\/zgp E F v j)->w'.heap[j]?=w.heap[j]?):ziD w' B D E F n v T :=
 ⟨(e D (zay h.bmE) (Or.inl rfl)).trans h.bmE,(e E (zay h.btE) (Or.inr (Or.inl rfl))).trans h.btE,h.mp.kept (e F h.mp.lt (Or.inr (Or.inr (Or.inl rfl)))),zaK h.own (fun j I=>e j (h.own.lt j I).2 (Or.inr (Or.inr (Or.inr I))))⟩
theorem ziD.below{w w' : World}{B D E F n:Nat}{v:Value}{T:List Int}(h:ziD w B D E F n v T)(I:Below w.heap.size w w'):ziD w' B D E F n v T:=h.kept (fun j J _=>I.block j J)
theorem Later.trans{w w1:World}{v v1 v2:Value}(h:Later w v v1)(F:Later w1 v1 v2)(hs:w.heap.size<=w1.heap.size):Later w v v2:=by
 rcases F with e |⟨j,e,E⟩
 ·rcases h with D |⟨j,D,E⟩
  ·exact Or.inl (e.trans D)
  ·exact Or.inr ⟨j,e.trans D,E⟩
 ·exact Or.inr ⟨j,e,by omega⟩
theorem Later.off{w:World}{v v1:Value}{D E j:Nat}(h:Later w v v1)(J:j<w.heap.size)(I:zgp D E v1 j):zgp D E v j:=by
 rcases I with e|e|e
 ·exact Or.inl e
 ·exact Or.inr (Or.inl e)
 ·rcases h with h |⟨i,F,hi⟩
  ·exact Or.inr (Or.inr (h.symm.trans e))
  ·rw[F] at e;cases e;omega
def zzw(s:Nat)(v:Value):Prop:=∀ j,v.ownBlock=some j->j<s\/s+3<=j
theorem zzw.later{s:Nat}{w:World}{v v1:Value}(h:zzw s v)(E:Later w v v1)(hs:s+3<=w.heap.size):zzw s v1:=fun j D=>by
 rcases E with e |⟨i,e,hi⟩
 ·exact h j (e.symm.trans D)
 ·rw[e] at D;cases D;exact Or.inr (by omega)
theorem zgt{T ks:List Int}{j:Nat}(D:j<ks.length):brings T (ks.take (j+1))=bring (brings T (ks.take j)) (ks.getD j 0):=by
 rw[List.take_succ_eq_append_getElem D,zog,zae ks 0 D]
theorem ztY(n:Nat)(hn:n<=1000)(w:World):(Instr.makeSlice 48 (.int .i64 (n:Int)) (.int .i64 (n:Int))).run Tryz.prog w=.ok (.slice (some ⟨w.heap.size,0,none⟩) n n) (w.alloc (.cells (madeCells #[.int .i64 0] n) 3)) :=
 run_make_row' (P:=Tryz.prog) 48 3 (.int .i64 0) 8 Tryz.underlying48 ziP rfl .i64 .i64 n (by omega) (by omega) w
def zhk(T ks:List Int)(j i:Nat):Value:=.int .i64 (if i<j then at1 (brings T (ks.take j)) (ks.getD i 0) else 0)
theorem zoG{T ks:List Int}{j:Nat}(D:j<ks.length)(i:Nat):(if i=j then Value.int .i64 (at1 (bring (brings T (ks.take j)) (ks.getD j 0)) (ks.getD j 0)) else zhk T ks j i)=zhk T ks (j+1) i:=by
 unfold zhk;rw[zgt D];by_cases e:i=j
 ·subst e;rw[yd rfl,yd (by omega)]
 ·rw[ya e];by_cases hi:i<j
  ·rw[yd hi,yd (by omega)]
   have E:ks.getD i 0 ∈ brings T (ks.take j):=by
    rw[zfP,zae ks 0 (by omega)];exact Or.inr (List.mem_take_iff_getElem.2 ⟨i,by omega,rfl⟩)
   obtain⟨r,F⟩:=zmB (brings T (ks.take j)) (ks.getD j 0);rw[F,znZ E]
  ·rw[ya hi,ya (by omega)]
theorem zmI(x:Cl)(ka:Option Addr)(kc B B0 Z D F n:Nat)(v:Value)(T:List Int)(w:World)(h:ziD w B Z D F n v T)(hB:B<=w.heap.size)(hl:x.ks.length<=8)(hn:n<=1000)(hT:T.length<=1000)(c6:∀ k ∈ x.ks,(Lit.int .i64 k).wf=true)
  (e6:B0<=B/\B0<=D/\B0<=F) (b9:∀ W,Below B0 w W->zak W ka x.ks) :
  Calls Tryz.prog 181 #[.agg #[.int .i64 x.n,.slice ka x.ks.length kc],.func (.func 180) #[] #[.pointer (some ⟨Z,0,none⟩),.pointer (some ⟨D,0,none⟩)]] w fun e w' =>
   ∃ E kb,e=.returned (.agg #[.int .i64 x.n,.slice (some ⟨kb,0,none⟩) x.ks.length x.ks.length])/\ziD w' B Z D F (n+x.ks.length) E (brings T x.ks)/\Later w v E/\zhB (zgp D F v) w w' /\ w.heap.size<=kb/\E.ownBlock≠some kb /\
    w'.ownsRow w.heap.size 3 1 (.slice (some ⟨kb,0,none⟩) x.ks.length x.ks.length) x.ks.length ((x.ks.map (at1 (brings T x.ks))).map (Value.int .i64)):=by
 obtain⟨xn,ks⟩:=x;dsimp only at *;have eg:=yK Tryz.func180 (by kernel_rfl) rfl;have e0:=fun W=>ztY ks.length (by omega) W;have d4:Hid (∀ W,Below B0 w W->zak W ka ks):=b9;have d5:Hid (∀ k ∈ ks,(Lit.int .i64 k).wf=true):=c6;have a7:Hid (Z<w.heap.size/\D<w.heap.size/\F<w.heap.size):=⟨zay h.bmE,zay h.btE,h.mp.lt⟩;have BR:Hid (∀ (n' : Nat) (E:Value) (T' : List Int) (k:Int) (W:World),ziD W B Z D F n' E T' ->(Lit.int .i64 k).wf=true->n' < 100000->T'.length<100000->B<=W.heap.size->Calls _ _ _ _ _):=fun n' E T' k W h1 h2 h3 h4 h5=>zmz B Z D F n' E T' k W h1 h2 h3 h4 h5
 have TL:Hid (∀ j,(brings T (ks.take j)).length<=T.length+j):=fun j=>by
  induction j with
  | zero=>simp[brings]
  | succ j ih =>
   by_cases hj:j<ks.length
   ·rw[zgt hj];unfold bring;split
    ·omega
    ·rw[List.length_append,List.length_singleton];omega
   ·rw[List.take_of_length_le (by omega)] at ih |-;omega
 have H0:Hid (ziD w B Z D F n v T):=h;have F0:Hid (zzw w.heap.size v):=fun j hj=>Or.inl (h.own.lt j hj).2;have RL:Hid (∀ i,i<ks.length->ks.getD i 0 ∈ ks):=fun i hi=>by rw[zae ks 0 hi];exact List.getElem_mem hi
 have b0:Hid (∀ j,j<ks.length->∀ i,(if i=j then Value.int .i64 (at1 (bring (brings T (ks.take j)) (ks.getD j 0)) (ks.getD j 0)) else zhk T ks j i)=zhk T ks (j+1) i):=fun j hj i=>zoG hj i;have BT:Hid (∀ j,j<ks.length->brings T (ks.take (j+1))=bring (brings T (ks.take j)) (ks.getD j 0)):=fun j hj=>zgt hj;obtain⟨m,hm⟩:∃ m,ks.length=m:=⟨_,rfl⟩;have HM:Hid (ks.length=m):=hm;rw[hm] at hl e0 RL b0 BT |-;clear h b9 c6 hm
 go_enter Tryz.func181,Tryz.ntmps181
 go_wp2_with fail
 go_loopg [15] m (fun g s15 wr=>∃ (j:Nat) (E:Value),j<=m/\m-j<=g/\s15=.int .i64 j/\wr.heap[w.heap.size]?=some (.cells #[.int .i64 xn,.slice ka m kc] 55 (0,0))/\wr.heap[w.heap.size+1]?=some (.cells #[.int .i64 0,.slice none 0 0] 55 (0,0))/\w.heap.size+3<=wr.heap.size /\
   Hid (ziD wr B Z D F (n+j) E (brings T (ks.take j)))/\Hid (Later w v E)/\Hid (zzw w.heap.size E)/\Hid (zhB (zgp D F v) w wr)/\Hid (wr.rowIs (w.heap.size+2) 3 m (zhk T ks j)))
 case atStart =>
  refine⟨0,v,by omega,by omega,rfl,?_,?_,by simp,?_,Or.inl rfl,F0,?_,?_⟩
  ·exact(Below.heap_alloc _ _ _ (by simp only[ys];omega)).trans ((Below.heap_alloc _ _ _ (by simp)).trans (yL w _))
  ·refine(Below.heap_alloc _ _ _ (by simp)).trans ?_;have:=yL (w.alloc (.cells #[.int .i64 xn,.slice ka m kc] 55)) (.cells #[.int .i64 0,.slice none 0 0] 55);simpa using this
  ·exact H0.out.below (((yr _ _).alloc (yk _) _).alloc (by simp) _ |>.alloc (by simp;omega) _)
  ·exact zhB.of_below (((yr _ _).alloc (yk _) _).alloc (by simp) _ |>.alloc (by simp;omega) _)
  ·have:=World.rowIs_made ((w.alloc (.cells #[.int .i64 xn,.slice ka m kc] 55)).alloc (.cells #[.int .i64 0,.slice none 0 0] 55)) (.int .i64 0) m 3;simp only[ys] at this;exact this.congr (fun i _=>by unfold zhk;rw[ya (by omega)])
 case round =>
  obtain⟨j,E,hj,hg,rfl,x1,x2,e9,b3,a6,O,J,b4⟩:=hrel;have c7:=x1;by_cases U:j<m
  ·have e2:(j:Int)<(m:Int):=by omega
   have b1:Below B0 w wr:=J.out.below (by have:=a7.out.2.1;omega) (fun k hk=>by
    rcases hk with e|e|e
    ·omega
    ·omega
    ·have:=(H0.out.own.lt k e).1;omega)
   obtain⟨pb,po,ep,e8⟩:=d4.out wr b1 j (by rw[HM.out];exact U);subst ep;have e1:=d5.out _ (RL.out j U);have e3:=TL.out j;have d8:Hid _:=b0.out j U;have c9:Hid _:=BT.out j U;have c8:Hid _:=BR.out (n+j) E _ (ks.getD j 0) wr b3.out e1 (by omega) (by omega) (by have:=J.out.size;omega);clear b1;generalize ks.getD j 0=y at *;generalize brings T (ks.take j)=Tj at *;generalize at1 (bring Tj y) y=A at *
   go_wp2_with fail
   refine yi c8.out ?_;rintro e w3 ⟨v3,rfl,b8,b5,a8⟩
   have kp:∀ i,w.heap.size<=i->i<w.heap.size+3->w3.heap[i]?=wr.heap[i]?:=fun i h1 h2=>a8.block i (by omega) (fun M=>by
    have:=a7.out;rcases M with e|e|e
    ·omega
    ·omega
    ·have:=O.out i e;omega)
   have y1:=(kp w.heap.size (by omega) (by omega)).trans x1;have y2:=(kp (w.heap.size+1) (by omega) (by omega)).trans x2;have I:=b4.out.of_block (kp (w.heap.size+2) (by omega) (by omega));have rc:=I.cell U;have rf:=I.frozen j;have s3:=a8.size;have a9:Hid (zzw w.heap.size v3):=O.out.later b5 (by omega);have b6:Hid (Later w v v3):=a6.out.trans b5 (by omega);have b7:Hid (zhB (zgp D F v) w w3):=J.out.trans a8 (fun i hi M=>a6.out.off hi M)
   have a5:Hid (ziD (w3.setCell ⟨w.heap.size+2,j,none⟩ (.int .i64 A)) B Z D F (n+(j+1)) v3 (bring Tj y)):=b8.kept (fun i hi M=>yv _ _ _ _ (by
    show i≠w.heap.size+2;have:=a7.out;rcases M with e|e|e|e
    ·omega
    ·omega
    ·omega
    ·have:=a9.out i e;omega))
   have d7:Hid ((w3.setCell ⟨w.heap.size+2,j,none⟩ (.int .i64 A)).rowIs (w.heap.size+2) 3 m (zhk T ks (j+1))):=(I.set j (.int .i64 A)).congr (fun i _=>d8.out i);have d6:Hid (zhB (zgp D F v) w (w3.setCell ⟨w.heap.size+2,j,none⟩ (.int .i64 A))):=b7.out.trans (Y:=fun i=>i=w.heap.size+2) (zeT _ _ _ _ rfl) (fun i hi M=>by have M:i=w.heap.size+2:=M;omega);have Y1:Hid ((w3.setCell ⟨w.heap.size+2,j,none⟩ (.int .i64 A)).heap[w.heap.size]?=_):=(yv _ _ _ _ (by show w.heap.size≠w.heap.size+2;omega)).trans y1;have Y2:Hid ((w3.setCell ⟨w.heap.size+2,j,none⟩ (.int .i64 A)).heap[w.heap.size+1]?=_):=(yv _ _ _ _ (by show w.heap.size+1≠w.heap.size+2;omega)).trans y2;have s4:w.heap.size+2<w3.heap.size:=by omega
   clear kp b8 b5 a8 I y1 y2 x1 x2 O a6 J c7
   go_wp2_with fail
   go_roundg (m-(j+1))
   case measure=>omega
   case rel=>exact⟨j+1,v3,by omega,by omega,by go_num,Y1.out,Y2.out,by simp[World.setCell];omega,(show ziD _ _ _ _ _ _ _ _ by rw[c9.out];exact a5.out),b6,a9,d6,d7⟩
  ·have d9:m=j:=by omega
   subst d9;have e7:wr.cell? ⟨w.heap.size,0,none⟩=some (.int .i64 xn):=by simp[World.cell?,x1]
   have d0:wr.cell? ⟨w.heap.size+1,0,none⟩=some (.int .i64 0):=by simp[World.cell?,x2]
   have d1:wr.cell? ⟨w.heap.size+1,1,none⟩=some (.slice none 0 0):=by simp[World.cell?,x2]
   have df:∀ o,wr.frozen? ⟨w.heap.size+1,o,none⟩=false:=fun o=>by simp[World.frozen?,x2]
   have e4:=df 0;have e5:=df 1;have s4:w.heap.size+1<wr.heap.size:=by omega
   have eT:brings T (ks.take m)=brings T ks:=by rw[List.take_of_length_le (by rw[HM.out];omega)]
   have a5:Hid (∀ va vb,let w9:=(wr.setCell ⟨w.heap.size+1,0,none⟩ va).setCell ⟨w.heap.size+1,1,none⟩ vb;ziD w9 B Z D F (n+m) E (brings T ks)/\zhB (zgp D F v) w w9/\w9.ownsRow w.heap.size 3 1 (.slice (some ⟨w.heap.size+2,0,none⟩) m m) m ((ks.map (at1 (brings T ks))).map (Value.int .i64))):=fun va vb=>by
    intro w9;have kp:∀ i,i≠w.heap.size+1->w9.heap[i]?=wr.heap[i]?:=fun i hi=>(yv _ _ _ _ hi).trans (yv _ _ _ _ hi);refine⟨?_,?_,?_⟩
    ·have h1:=b3.out;rw[eT] at h1;refine h1.kept (fun i hi M=>kp i ?_);have:=a7.out;rcases M with e|e|e|e
     ·omega
     ·omega
     ·omega
     ·have:=O.out i e;omega
    ·refine J.out.trans (Y:=fun i=>i=w.heap.size+1) (zhB.trans (Y:=fun i=>i=w.heap.size+1) (zeT _ _ _ _ rfl) (zeT _ _ _ _ rfl) (fun _ _ h=>h)) (fun i hi M=>?_);have M:i=w.heap.size+1:=M;omega
    ·have hr:=b4.out.of_block (kp (w.heap.size+2) (by omega));have hlen:(ks.map (at1 (brings T ks))).length=m:=by rw[List.length_map,HM.out]
     have:=zlb (B:=w.heap.size) (l:=ks.map (at1 (brings T ks))) hr (fun i hi=>by
      rw[hlen] at hi;unfold zhk;rw[yd hi,eT,zae (ks.map (at1 (brings T ks))) 0 (by rw[hlen];exact hi),List.getElem_map,zae ks 0 (by rw[HM.out];exact hi)]) (by omega) (by unfold maxLen;omega) (by omega)
     rw[hlen] at this;exact this
   have NE:Hid (E.ownBlock≠some (w.heap.size+2)):=fun e=>by have:=O.out _ e;omega
   have FN:=a5.out (.int .i64 xn) (.slice (some ⟨w.heap.size+1+1,0,none⟩) m m);have b2:Hid _:=FN;have r0:(wr.setCell ⟨w.heap.size+1,0,none⟩ (.int .i64 xn)).cell? ⟨w.heap.size+1,0,none⟩=some (.int .i64 xn):=World.cell?_setCell_same _ _ _ d0;have r1:((wr.setCell ⟨w.heap.size+1,0,none⟩ (.int .i64 xn)).setCell ⟨w.heap.size+1,1,none⟩ (.slice (some ⟨w.heap.size+1+1,0,none⟩) m m)).cell? ⟨w.heap.size+1,1,none⟩=some (.slice (some ⟨w.heap.size+1+1,0,none⟩) m m):=World.cell?_setCell_same _ _ _ ((World.cell?_setCell_other _ _ _ _ (by intro e;cases e)).trans d1);clear x1 x2 c7 df b4 J b3 a5 FN
   go_wp2_with fail
   refine yw (v:=.agg #[.int .i64 xn,.slice (some ⟨w.heap.size+1+1,0,none⟩) m m]) (by simp[results,Tryz.results181,go_sem,r0,r1]) rfl ?_;refine⟨E,w.heap.size+2,rfl,b2.out.1,a6.out,b2.out.2.1,by omega,NE.out,?_⟩;have h9:=b2.out.2.2
   first|exact h9|(simp only[List.map_map] at h9 |-;exact h9)
theorem zwy:(Tryz.prog.info? 55).map (fun i=>(i.zero,i.size,i.bytes))=some (some (.agg #[.int .i64 0,.slice none 0 0]),2,32):=by kernel_rfl
def zgT(x:Cl)(v:Value):List Value:=[.int .i64 x.n,v]
def zkG(L:List Cl)(K:Nat->Value):List Value:=(List.range L.length).flatMap fun i=>zgT (cl L i) (K i)
theorem zsZ{L:List Cl}{s:Cl}{i:Nat}(h:i<L.length):cl (L++[s]) i=cl L i:=by
 rw[zcv (by simp;omega),zcv h,List.getElem_append_left h]
theorem zsY(L:List Cl)(s:Cl):cl (L++[s]) L.length=s:=by
 rw[zcv (by simp)];simp
theorem zoh(L:List Cl)(K:Nat->Value)(s:Cl)(v:Value):zkG L K++zgT s v=zkG (L++[s]) (fun i=>if i=L.length then v else K i):=by
 unfold zkG;rw[List.length_append,List.length_singleton,List.range_succ,List.flatMap_append]
 congr 1
 ·rw[List.flatMap_def,List.flatMap_def]
  congr 1
  refine List.map_congr_left (fun i hi=>?_);have hi:=List.mem_range.1 hi;show _=zgT (cl (L++[s]) i) (if i=L.length then v else K i);rw[zsZ hi,ya (by omega)]
 ·simp[zsY]
def zin(B:Nat)(L:List Cl)(K:Nat->Value)(v:Value)(w:World):Prop :=
 w.ownsRow B 55 2 v L.length (zkG L K)/\∀ i,i<L.length->w.ownsRow B 3 1 (K i) (cl L i).ks.length ((cl L i).ks.map (Value.int .i64))
theorem zfQ(L:List Cl)(K:Nat->Value):∀ q,((List.range q).flatMap fun i=>zgT (cl L i) (K i)).length=q*2
 | 0=>rfl
 | q+1=>by rw[List.range_succ,List.flatMap_append,List.length_append,zfQ L K q];simp[zgT];omega
theorem zmC(L:List Cl)(K:Nat->Value){i j:Nat}(D:j<2):∀ {q:Nat},i<q->((List.range q).flatMap fun i=>zgT (cl L i) (K i))[i*2+j]?=(zgT (cl L i) (K i))[j]?
 | 0,hi=>by omega
 | q+1,hi=>by
  rw[List.range_succ,List.flatMap_append];by_cases e:i=q
  ·subst e;rw[List.getElem?_append_right (by rw[zfQ];omega),zfQ];simp
  ·rw[List.getElem?_append_left (by rw[zfQ];omega)];exact zmC L K D (by omega)
theorem zin.cls{B:Nat}{L:List Cl}{K:Nat->Value}{v:Value}{w:World}(h:zin B L K v w):∃ a c,v=.slice a L.length c/\zaI w a L:=by
 obtain⟨E,O⟩:=h;have D:=E;obtain⟨hl,h⟩:=E;rcases h with ⟨rfl,h0⟩ |⟨g,cap,F,rfl,hb,hg,h1,T,U,Z⟩
 ·exact⟨none,0,by rw[h0],fun i hi=>by omega⟩
 ·refine⟨some ⟨g,0,none⟩,cap,rfl,fun i hi=>⟨g,0,rfl,?_⟩⟩
  have hc:∀ j,j<2->w.cell? ⟨g,i*2+j,none⟩=(zgT (cl L i) (K i))[j]?:=fun j M=>by
   rw[<- zmC L K M hi];exact D.cellAt (i*2+j) (by omega)
  obtain⟨sa,sc,I,J⟩:=zfX (O i hi);rw[yB];refine⟨hc 0 (by omega),sa,sc,?_,J⟩;rw[hc 1 (by omega),I];rfl
theorem zin.kept{B:Nat}{L:List Cl}{K:Nat->Value}{v:Value}{w w' : World}(h:zin B L K v w)(e:∀ j,B<=j->j<w.heap.size->(v.ownBlock=some j\/∃ i,i<L.length/\(K i).ownBlock=some j)->w'.heap[j]?=w.heap[j]?):zin B L K v w' :=
 ⟨zaK h.1 (fun k D=>e k (h.1.lt k D).1 (h.1.lt k D).2 (Or.inl D)),fun i hi=>zaK (h.2 i hi) (fun k D=>e k ((h.2 i hi).lt k D).1 ((h.2 i hi).lt k D).2 (Or.inr ⟨i,hi,D⟩))⟩
theorem zin.step{O w3:World}{B:Nat}{L:List Cl}{K:Nat->Value}{v v1 v2:Value}{s:Cl}{o3:Obj}(I:zin B L K v O)(D:O.ownsRow B 3 1 v1 s.ks.length (s.ks.map (Value.int .i64)))
  (h3:(O.alloc o3).grownBy w3 v.ownBlock) (M:w3.ownsRow B 55 2 v2 (L.length+1) (zkG L K++zgT s v1)) :
  zin B (L++[s]) (fun i=>if i=L.length then v1 else K i) v2 w3:=by
 obtain⟨hm,E⟩:=I
 have U:∀ k,k<O.heap.size->v.ownBlock≠some k->w3.heap[k]?=O.heap[k]?:=fun k E T =>
  (h3.block k (by simp;omega) (fun e=>T e.symm)).trans (Below.heap_alloc _ _ _ E)
 refine⟨?_,fun i hi=>?_⟩
 ·rw[<- zoh,List.length_append,List.length_singleton];exact M
 ·rw[List.length_append,List.length_singleton] at hi;by_cases Z:i=L.length
  ·subst Z;simp only[if_true];rw[zsY];exact zaK D (fun k E=>U k (D.lt k E).2 (zeo D hm (by decide) k E))
  ·simp only[ya Z];have J:i<L.length:=by omega
   rw[zsZ J];have F:=E i J;exact zaK F (fun k E=>U k (F.lt k E).2 (zeo F hm (by decide) k E))
theorem zBp{W:World}{b:Nat}{s:Cl}{v:Value}(c0:W.cell? ⟨b,0,none⟩=some (.int .i64 s.n))(c1:W.cell? ⟨b,1,none⟩=some v):∀ j u,(zgT s v)[j]?=some u->W.cell? ((⟨b,0,none⟩:Addr).add j)=some u:=fun j u D=>by
 unfold zgT at D;rw[Addr.add_lit]
 match j,D with
 | 0,D=>cases D;exact c0
 | 1,D=>cases D;exact c1
theorem zBG{s:Cl}{a:Option Addr}{n c:Nat}:∀ u ∈ zgT s (.slice a n c),u.oneCell' = true:=fun u D=>by
 unfold zgT at D;simp at D;rcases D with rfl|rfl <;> rfl
theorem ziI{P:Program}{ops:Array Oper}{o:Oper}{a:Act}{w:World}{K:Act->World->Prop}{Q:Exit->Act->World->Prop}{E:Prop}
  (hg:o.guard=none) (s x:Operand) (t:TypeId) (O:o.op=Op.call { callee:=Callee.builtin Builtin.append,args:=#[s,x],argTypes:=#[t,t] })
  (base:Nat) (e:TypeId) (i:TypeInfo) (z:Value) (size bytes:Nat) (h1:P.underlying t=some (.slice e)) (h2:P.info? e=some i) (h3:i.zero=some z) (h4:i.size=size) (h5:i.bytes=bytes) (h6:z.cells.size=size) (h7:0<size)
  (v:Value) (n:Nat) (T:List Value) (hs:a.eval s=v) (F:w.ownsRow base e size v n T)
  (J:Addr) (m c:Nat) (news:List Value) (hx:a.eval x=.slice (some J) m c) (hn:news.length=m*size) (hc:∀ j u,news[j]?=some u->w.cell? (J.add j)=some u) (M:∀ u ∈ news,u.oneCell' = true)
  (U:n+m<=maxLen) (Z:(n+m)*bytes<=140737488355328) (D:base<=w.heap.size)
  (hK:∀ I w', w'.ownsRow base e size I (n+m) (T++news)->w.grownBy w' v.ownBlock->K (a.put o.dst I) w') :
  if Region.wanted o (yielded ops a.tmps)=true then Oper.wp P o a w K Q else E:=by
 have hw:Region.wanted o (yielded ops a.tmps)=true:=by simp[Region.wanted,hg]
 rw[yd hw];exact wp_append_own w s x t O base e i z size bytes h1 h2 h3 h4 h5 h6 h7 v n T hs F J m c news hx hn hc M U Z D (fun I w' r1 r2 _=>hK I w' r1 r2)
theorem zsI{G:List Cl}(D:zdJ G)(h0:0<G.length){i:Nat}{k:Int}(E:k ∈ bfs G i):at1 (bfs G i) k=at1 (reach G) k:=by
 obtain⟨r,F⟩:=zgR D h0 i;rw[F,znZ E]
theorem zsN{G:List Cl}(E:zdJ G)(h0:0<G.length){i:Nat}(hi:i<(bfs G i).length):i<(reach G).length/\(reach G).getD i 0=(bfs G i).getD i 0:=by
 obtain⟨r,D⟩:=zgR E h0 i;have h1:i<(reach G).length:=by rw[D];simp;omega
 refine⟨h1,?_⟩;rw[zae _ _ h1,zae _ _ hi];simp only[D];rw[List.getElem_append_left hi]
theorem zpA{G:List Cl}{i:Nat}(hi:i<(bfs G i).length):brings (bfs G i) (cl G ((bfs G i).getD i 0).toNat).ks=bfs G (i+1):=by
 rw[bfs,yd hi]
theorem zte{G:List Cl}(D:zdJ G)(h0:0<G.length){i y:Nat}(hi:i<(bfs G i).length)(E:(bfs G i).getD i 0=y) :
  (zbx G).take (i+1)=(zbx G).take i++[⟨(cl G y).n,(cl G y).ks.map (at1 (bfs G (i+1)))⟩]:=by
 obtain⟨h1,F⟩:=zsN D h0 hi;have hl:=zfp h0;rw[List.take_succ_eq_append_getElem (by omega),<- zcv,zlD h0 h1,F,E];unfold zqL;rw[yj]
 congr 3
 refine List.map_congr_left (fun k I=>?_);rw[zsI D h0];rw[<- zpA hi,zfP,E,yj];exact Or.inr I
theorem zzN(G:List Cl):∀ i,(bfs G i).length<=(bfs G (i+1)).length:=fun i=>by
 obtain⟨r,D⟩:=zsO G i;rw[D];simp
theorem zyH(a:Option Addr)(c:Nat)(S:List Nd)(k:Nat)(u:Int)(w:World)(hN:S.length<=24)(hB:∀ i,i<S.length->(nd S i).ks.length<=1000)(hS:zai w a S)(hk:k<S.length)(I:zaz S k u=0)(hT:zgn S k) :
  Calls Tryz.prog 167 #[.agg #[.slice a S.length c],.agg #[.int .i64 k,.int .i64 u]] w fun e w' => ∃ g,e=.returned (.tuple #[.agg #[.slice (some ⟨g,0,none⟩) S.length S.length],.int .i64 0])/\Below w.heap.size w w' /\ w.heap.size<=g/\∀ w3:World,(∀ b,g<=b->w3.heap[b]?=w'.heap[b]?)->zai w3 (some ⟨g,0,none⟩) (S.set k (zdc (nd S k))):=by
 have hK:=yH (hB k hk) (show 1000<=1000000 by omega);have dc:=fun(W:World) (hW:zai W a S)=>copy_any a c S W hN hB hW;have DC:Hid _:=dc;replace hB:Big S:=fun i hi=>yH (hB i hi) (by omega);have D1:Hid (∀ W,zai W a S->Calls _ _ _ _ _):=fun W hW=>find_ok a c S k u W (by omega) hB hW hk I hK;obtain⟨r,hr⟩:∃ r,zam (nd S k)=r:=⟨_,rfl⟩;obtain⟨h2,b9⟩:∃ b,zfy S k=b:=⟨_,rfl⟩;have d2:=fun(v:Value) W=>zdV (nd S k) v W;rw[show (if (nd S k).h = -1 then (nd S k).p else (nd S k).h)=r from hr] at d2;have D2:Hid _:=d2;have d3:=fun W hW=>zej a c S (k:Int) W (by omega) hW (by omega);rw[b9] at d3;have D3:Hid _:=d3;have HS:Hid (zai w a S):=hS;have N8:Hid (∀ (w w3:World) (B g:Nat) (kb kc:Nat->Nat),Own w B g S kb kc S.length->_->zai w3 (some ⟨g,0,none⟩) (S.set k (zdc (nd S k)))):=fun w w3 B g kb kc h c6=>Own.nil8 h hk (zdc (nd S k)) rfl w3 c6
 have OC:Hid (∀ (wr:World) (B g:Nat) (kb kc:Nat->Nat),Own wr B g S kb kc S.length->(g<wr.heap.size/\(∀ o,wr.frozen? ⟨g,o,none⟩=false)/\(∃ v0 v1 v2 v3 v4 v5 v6 v7,wr.cell? ⟨g,k*8,none⟩=some v0/\wr.cell? ⟨g,k*8+1,none⟩=some v1/\wr.cell? ⟨g,k*8+2,none⟩=some v2/\wr.cell? ⟨g,k*8+3,none⟩=some v3/\wr.cell? ⟨g,k*8+4,none⟩=some v4/\wr.cell? ⟨g,k*8+5,none⟩=some v5/\wr.cell? ⟨g,k*8+6,none⟩=some v6/\wr.cell? ⟨g,k*8+7,none⟩=some v7))):=fun wr B g kb kc h=>by
  obtain⟨_,F,I,g9,_⟩:=h;exact⟨I.lt,I.frozen,_,_,_,_,_,_,_,_,I.cell (by omega),I.cell (by omega),I.cell (by omega),I.cell (by omega),I.cell (by omega),I.cell (by omega),I.cell (by omega),I.cell (by omega)⟩
 obtain⟨t1,t2,t3⟩:=hT;rw[hr] at t1;rw[b9] at t3;subst t1 t3;have t4:(nd S k).ks.length=0:=by rw[t2];rfl
 have h3:(k:Int)<(S.length:Int):=by omega
 have h4:decide ((k:Int)<0)=false:=yF (by omega);unfold zdc at N8 |-;clear hS d2 d3 dc I hB hr b9 t2 hK;generalize hx:nd S k=x at *;clear hx;obtain⟨xu,xn,xt,xm,xp,g5,xh,xc⟩:=x;dsimp only at *;generalize g5.length=L at *;subst t4;generalize hn:S.length=n at *;clear hn
 go_enter Tryz.func167,Tryz.ntmps167
 go_wp2_with (go_at_call 14;refine(D1.out _ (HS.out.below (zas _ _ _ _))).mono ?_;rintro e w1 ⟨kg,rfl,M,g4⟩;clear g4;simp only[ys] at M;obtain⟨l0,l1,l2,l3,z3⟩:=zbV M;have b3:=M.size;simp only[ys] at b3;have q0:w.heap.size<w1.heap.size:=(by omega);have q1:w.heap.size+1<w1.heap.size:=(by omega);have q2:w.heap.size+1+1<w1.heap.size:=(by omega))
 refine(D2.out _ _).mono ?_;rintro e w2 ⟨rfl,a6⟩;simp only[ys] at a6;obtain⟨Z,n0,n1,n2,n3,n4,n5,n6,n7⟩:=zeL M b3 a6;have e8:=a6.size;simp only[ys] at e8;clear l0 l1 l2 l3 z3;obtain⟨l0,l1,l2,l3,z3⟩:=zbV Z;have a8:Hid (Below w.heap.size w w2):=(zas _ _ _ _).trans (Z.mono (by omega));have b8:Hid _:=M;have c8:Hid _:=a6;have q3:w1.heap.size<w2.heap.size:=by omega
 clear M a6 Z
 go_wp2_with fail
 refine(D3.out _ (HS.out.below a8.out)).mono ?_;rintro e w3 ⟨rfl,b0⟩;have h6:=b0.size;have E:Hid (Below w.heap.size w w3):=a8.out.trans (b0.mono (by have:=a8.out.size;omega));have a7:=c8.out.trans (b0.mono e8);clear l0 l1 l2 l3 z3 n0 n1 n2 n3 n4 n5 n6 n7 b0 c8;obtain⟨b6,n0,n1,n2,n3,n4,n5,n6,n7⟩:=zeL b8.out b3 a7;obtain⟨l0,l1,l2,l3,z3⟩:=zbV b6;have r1:w1.heap.size<w3.heap.size:=by omega
 have r2:w.heap.size<w3.heap.size:=by omega
 have r3:w.heap.size+1<w3.heap.size:=by omega
 have r4:w.heap.size+1+1<w3.heap.size:=by omega
 have b4:Hid _:=a7;clear b6 a7
 go_wp2_with fail
 refine(DC.out _ (HS.out.below E.out)).mono ?_;rintro e O ⟨g,kb,kc,rfl,b1,a9⟩;have hg:w3.heap.size<=g:=a9.1;have e9:w1.heap.size+1<=w3.heap.size:=by omega
 have b7:=b4.out.trans (b1.mono e9);have h7:=b1.size;have U:Hid (Below w.heap.size w O):=E.out.trans (b1.mono (by have:=E.out.size;omega));clear l0 l1 l2 l3 z3 n0 n1 n2 n3 n4 n5 n6 n7 b4;obtain⟨a5,n0,n1,n2,n3,n4,n5,n6,n7⟩:=zeL b8.out b3 b7;obtain⟨l0,l1,l2,l3,z3⟩:=zbV a5;obtain⟨g7,e0,v0,v1,v2,v3,v4,v5,v6,v7,d0,d1,d2,d3,d4,d5,d6,d7⟩:=OC.out _ _ _ _ _ a9;have g6:w1.heap.size<g:=by omega
 have c9:Hid (Own O w3.heap.size g S kb kc n):=a9;have T:Hid _:=a5;clear a5 b7 a9 b1 hg
 go_wp2_with fail
 have t1:w1.heap.size<O.heap.size:=by omega
 obtain⟨D,J⟩:∃ D,D=O.alloc (Obj.cells #[Value.slice (some ⟨g,0,none⟩) n n] 43):=⟨_,rfl⟩;rw[<- J];have k8:D.cell? ⟨O.heap.size,0,none⟩=some (.slice (some ⟨g,0,none⟩) n n):=by rw[J];go_simp
 have k9:D.cell? ⟨w1.heap.size,1,none⟩=some (.int .i64 xn):=by rw[J];go_simp
 have g0:D.heap.size=O.heap.size+1:=by rw[J];simp
 have b2:Below O.heap.size O D:=by rw[J];exact(yr _ _).alloc (yk _) _
 have d9:=T.out.trans (b2.mono (by have:=T.out.size;simp at this;omega));have b5:Hid (Below w.heap.size w D):=U.out.trans (b2.mono U.out.size);have d8:Hid (Own D w3.heap.size g S kb kc n):=Own.below c9.out b2;clear l0 l1 l2 l3 z3 n0 n1 n2 n3 n4 n5 n6 n7 d0 d1 d2 d3 d4 d5 d6 d7 e0 c9 T J b2;obtain⟨l0,l1,l2,l3,z3⟩:=zbV d9;obtain⟨_,e0,i1,i2,i3,i4,i5,i6,i7,i8,d0,d1,d2,d3,d4,d5,d6,d7⟩:=OC.out _ _ _ _ _ d8.out;have u1:O.heap.size<D.heap.size:=by omega
 have u2:w1.heap.size<D.heap.size:=by omega
 have u3:w.heap.size+1<D.heap.size:=by omega
 have u4:w.heap.size+1+1<D.heap.size:=by omega
 have u5:g<D.heap.size:=by omega
 have u6:w.heap.size+1+1<g:=by omega
 have g8:Hid (D.heap.size=O.heap.size+1):=g0;clear d9 g0;have h8:=World.new_ne D _ k8;have h9:=World.new_ne D _ k9;have i0:=World.new_ne D _ l1;have e1:¬ g=O.heap.size:=by omega
 have e2:¬ O.heap.size=g:=by omega
 have e3:¬ g=w.heap.size+1:=by omega
 have e4:¬ w.heap.size+1=g:=by omega
 have e5:¬ g=w1.heap.size:=by omega
 have e6:¬ w1.heap.size=g:=by omega
 clear U E a8 b8 HS D1 D2 D3 DC OC
 go_region_held3 (fun c7=>c7.cell? ⟨O.heap.size,0,none⟩=some (.slice (some ⟨g,0,none⟩) n n)/\c7.cell? ⟨w.heap.size+1,0,none⟩=some (.int .i64 k)/\c7.cell? ⟨w1.heap.size,1,none⟩=some (.int .i64 xn)) (go_keep) (first|(go_at_call 93;refine(zil _ _).mono ?_;rintro e w' ⟨rfl,rfl⟩))
 all_goals (try go_wp2)
 all_goals
  refine yw (v:=.tuple #[.agg #[.slice (some ⟨g,0,none⟩) n n],.int .i64 0]) (by simp only[results,Tryz.results167];go_simp) rfl ⟨g,rfl,?_,by omega,fun w3 c6=>?_⟩
  ·first
    | exact((((((((((b5.out.setCell (by simp;omega) _).setCell (by simp;omega) _).setCell (by simp;omega) _).setCell (by simp;omega) _).setCell (by simp;omega) _).setCell (by simp;omega) _).setCell (by simp;omega) _).setCell (by simp;omega) _).setCell (by simp;omega) _).alloc (by simp;omega) _).drew
    | exact((((((((((b5.out.setCell (by simp;omega) _).setCell (by simp;omega) _).setCell (by simp;omega) _).setCell (by simp;omega) _).setCell (by simp;omega) _).setCell (by simp;omega) _).setCell (by simp;omega) _).setCell (by simp;omega) _).alloc (by simp;omega) _).setCell (by simp;omega) _).drew
  ·refine N8.out D w3 _ g kb kc d8.out (fun b hb e7=>(c6 b hb).trans ?_)
   first
    |(rw[heap_drew,((yr _ _).alloc (yk _) _).block b (by simpa using e7),yv _ _ _ _ (by show b≠w.heap.size+1+1;omega)])
    |(rw[heap_drew,yv _ _ _ _ (by show b≠w.heap.size+1+1;omega),((yr _ _).alloc (yk _) _).block b (by simpa using e7)])
end Go.Proofs.YtcbcpomacdngmaaGreat
