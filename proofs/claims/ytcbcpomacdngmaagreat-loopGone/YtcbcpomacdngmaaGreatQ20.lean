/-
  x
-/
import Derived.Test.YtcbcpomacdngmaaGreatQ19
namespace Go.Proofs.YtcbcpomacdngmaaGreat
set_option maxRecDepth 100000
set_option maxHeartbeats 4000000
set_option linter.unusedVariables false
open Go.RowKit Go.ChangeShapes Go.WideShapes
theorem ziw.kept{w w' : World}{B D E F n:Nat}{v:Value}{T:List Int}(h:ziw w B D E F n v T)(e:∀ j,j<w.heap.size->(j=D\/zgk E F v j)->w'.heap[j]?=w.heap[j]?):ziw w' B D E F n v T :=
 ⟨(e D (zaw h.bmE) (Or.inl rfl)).trans h.bmE,(e E (zaw h.btE) (Or.inr (Or.inl rfl))).trans h.btE,h.mp.kept (e F h.mp.lt (Or.inr (Or.inr (Or.inl rfl)))),zau h.own (fun j I=>e j (h.own.lt j I).2 (Or.inr (Or.inr (Or.inr I))))⟩
theorem ziw.below{w w' : World}{B D E F n:Nat}{v:Value}{T:List Int}(h:ziw w B D E F n v T)(I:Below w.heap.size w w'):ziw w' B D E F n v T:=h.kept (fun j J _=>I.block j J)
theorem Later.trans{w F:World}{v v1 v2:Value}(h:Later w v v1)(I:Later F v1 v2)(hs:w.heap.size<=F.heap.size):Later w v v2:=by
 rcases I with e |⟨j,e,E⟩
 ·rcases h with D |⟨j,D,E⟩
  ·exact Or.inl (e.trans D)
  ·exact Or.inr ⟨j,e.trans D,E⟩
 ·exact Or.inr ⟨j,e,by omega⟩
theorem Later.off{w:World}{v v1:Value}{D E j:Nat}(h:Later w v v1)(J:j<w.heap.size)(I:zgk D E v1 j):zgk D E v j:=by
 rcases I with e|e|e
 ·exact Or.inl e
 ·exact Or.inr (Or.inl e)
 ·rcases h with h |⟨i,F,hi⟩
  ·exact Or.inr (Or.inr (h.symm.trans e))
  ·rw[F] at e;cases e;omega
def zzg(s:Nat)(v:Value):Prop:=∀ j,v.ownBlock=some j->j<s\/s+3<=j
theorem zzg.later{s:Nat}{w:World}{v v1:Value}(h:zzg s v)(E:Later w v v1)(hs:s+3<=w.heap.size):zzg s v1:=fun j D=>by
 rcases E with e |⟨i,e,hi⟩
 ·exact h j (e.symm.trans D)
 ·rw[e] at D;cases D;exact Or.inr (by omega)
theorem zgn{T ks:List Int}{j:Nat}(D:j<ks.length):brings T (ks.take (j+1))=bring (brings T (ks.take j)) (ks.getD j 0):=by
 rw[List.take_succ_eq_append_getElem D,zoe,zae ks 0 D]
theorem ztL(n:Nat)(hn:n<=1000)(w:World):(Instr.makeSlice 48 (.int .i64 (n:Int)) (.int .i64 (n:Int))).run Tryz.prog w=.ok (.slice (some ⟨w.heap.size,0,none⟩) n n) (w.alloc (.cells (madeCells #[.int .i64 0] n) 3)) :=
 run_make_row' (P:=Tryz.prog) 48 3 (.int .i64 0) 8 Tryz.underlying48 ziO rfl .i64 .i64 n (by omega) (by omega) w
def zhd(T ks:List Int)(j i:Nat):Value:=.int .i64 (if i<j then at1 (brings T (ks.take j)) (ks.getD i 0) else 0)
theorem zoE{T ks:List Int}{j:Nat}(D:j<ks.length)(i:Nat):(if i=j then Value.int .i64 (at1 (bring (brings T (ks.take j)) (ks.getD j 0)) (ks.getD j 0)) else zhd T ks j i)=zhd T ks (j+1) i:=by
 unfold zhd;rw[zgn D];by_cases e:i=j
 ·subst e;rw[yb rfl,yb (by omega)]
 ·rw[ya e];by_cases hi:i<j
  ·rw[yb hi,yb (by omega)]
   have E:ks.getD i 0 ∈ brings T (ks.take j):=by
    rw[zfH,zae ks 0 (by omega)];exact Or.inr (List.mem_take_iff_getElem.2 ⟨i,by omega,rfl⟩)
   obtain⟨r,F⟩:=zmA (brings T (ks.take j)) (ks.getD j 0);rw[F,znX E]
  ·rw[ya hi,ya (by omega)]
theorem zmG(x:Cl)(ka:Option Addr)(kc B B0 Z D F n:Nat)(v:Value)(T:List Int)(w:World)(h:ziw w B Z D F n v T)(hB:B<=w.heap.size)(hl:x.ks.length<=8)(hn:n<=1000)(hT:T.length<=1000)(c6:∀ k ∈ x.ks,(Lit.int .i64 k).wf=true)
  (e6:B0<=B/\B0<=D/\B0<=F) (b9:∀ W,Below B0 w W->zaj W ka x.ks) :
  Calls Tryz.prog 181 #[.agg #[.int .i64 x.n,.slice ka x.ks.length kc],.func (.func 180) #[] #[.pointer (some ⟨Z,0,none⟩),.pointer (some ⟨D,0,none⟩)]] w fun e w' =>
   ∃ E kb,e=.returned (.agg #[.int .i64 x.n,.slice (some ⟨kb,0,none⟩) x.ks.length x.ks.length])/\ziw w' B Z D F (n+x.ks.length) E (brings T x.ks)/\Later w v E/\zgL (zgk D F v) w w' /\ w.heap.size<=kb/\E.ownBlock≠some kb /\
    w'.ownsRow w.heap.size 3 1 (.slice (some ⟨kb,0,none⟩) x.ks.length x.ks.length) x.ks.length ((x.ks.map (at1 (brings T x.ks))).map (Value.int .i64)):=by
 obtain⟨xn,ks⟩:=x;dsimp only at *;have eg:=enters_of Tryz.func180 (by kernel_rfl) rfl;have e0:=fun W=>ztL ks.length (by omega) W;have d4:Hid (∀ W,Below B0 w W->zaj W ka ks):=b9;have d5:Hid (∀ k ∈ ks,(Lit.int .i64 k).wf=true):=c6;have a7:Hid (Z<w.heap.size/\D<w.heap.size/\F<w.heap.size):=⟨zaw h.bmE,zaw h.btE,h.mp.lt⟩;have BR:Hid (∀ (n' : Nat) (E:Value) (T' : List Int) (k:Int) (W:World),ziw W B Z D F n' E T' ->(Lit.int .i64 k).wf=true->n' < 100000->T'.length<100000->B<=W.heap.size->Calls _ _ _ _ _):=fun n' E T' k W h1 h2 h3 h4 h5=>zmy B Z D F n' E T' k W h1 h2 h3 h4 h5
 have TL:Hid (∀ j,(brings T (ks.take j)).length<=T.length+j):=fun j=>by
  induction j with
  | zero=>simp[brings]
  | succ j ih =>
   by_cases hj:j<ks.length
   ·rw[zgn hj];unfold bring;split
    ·omega
    ·rw[List.length_append,List.length_singleton];omega
   ·rw[List.take_of_length_le (by omega)] at ih |-;omega
 have H0:Hid (ziw w B Z D F n v T):=h;have F0:Hid (zzg w.heap.size v):=fun j hj=>Or.inl (h.own.lt j hj).2;have RL:Hid (∀ i,i<ks.length->ks.getD i 0 ∈ ks):=fun i hi=>by rw[zae ks 0 hi];exact List.getElem_mem hi
 have b0:Hid (∀ j,j<ks.length->∀ i,(if i=j then Value.int .i64 (at1 (bring (brings T (ks.take j)) (ks.getD j 0)) (ks.getD j 0)) else zhd T ks j i)=zhd T ks (j+1) i):=fun j hj i=>zoE hj i;have BT:Hid (∀ j,j<ks.length->brings T (ks.take (j+1))=bring (brings T (ks.take j)) (ks.getD j 0)):=fun j hj=>zgn hj;obtain⟨m,hm⟩:∃ m,ks.length=m:=⟨_,rfl⟩;have HM:Hid (ks.length=m):=hm;rw[hm] at hl e0 RL b0 BT |-;clear h b9 c6 hm
 go_enter Tryz.func181,Tryz.ntmps181
 go_wp2_with fail
 go_loopg [15] m (fun g s15 wr=>∃ (j:Nat) (E:Value),j<=m/\m-j<=g/\s15=.int .i64 j/\wr.heap[w.heap.size]?=some (.cells #[.int .i64 xn,.slice ka m kc] 55 (0,0))/\wr.heap[w.heap.size+1]?=some (.cells #[.int .i64 0,.slice none 0 0] 55 (0,0))/\w.heap.size+3<=wr.heap.size /\
   Hid (ziw wr B Z D F (n+j) E (brings T (ks.take j)))/\Hid (Later w v E)/\Hid (zzg w.heap.size E)/\Hid (zgL (zgk D F v) w wr)/\Hid (wr.rowIs (w.heap.size+2) 3 m (zhd T ks j)))
 case atStart =>
  refine⟨0,v,by omega,by omega,rfl,?_,?_,by simp,?_,Or.inl rfl,F0,?_,?_⟩
  ·exact(Below.heap_alloc _ _ _ (by simp only[yr];omega)).trans ((Below.heap_alloc _ _ _ (by simp)).trans (heap_alloc_new w _))
  ·refine(Below.heap_alloc _ _ _ (by simp)).trans ?_;have:=heap_alloc_new (w.alloc (.cells #[.int .i64 xn,.slice ka m kc] 55)) (.cells #[.int .i64 0,.slice none 0 0] 55);simpa using this
  ·exact H0.out.below (((yk _ _).alloc (yj _) _).alloc (by simp) _ |>.alloc (by simp;omega) _)
  ·exact zgL.of_below (((yk _ _).alloc (yj _) _).alloc (by simp) _ |>.alloc (by simp;omega) _)
  ·have:=World.rowIs_made ((w.alloc (.cells #[.int .i64 xn,.slice ka m kc] 55)).alloc (.cells #[.int .i64 0,.slice none 0 0] 55)) (.int .i64 0) m 3;simp only[yr] at this;exact this.congr (fun i _=>by unfold zhd;rw[ya (by omega)])
 case round =>
  obtain⟨j,E,hj,hg,rfl,x1,x2,e9,b3,a6,O,J,b4⟩:=hrel;have c7:=x1;by_cases U:j<m
  ·have e2:(j:Int)<(m:Int):=by omega
   have b1:Below B0 w wr:=J.out.below (by have:=a7.out.2.1;omega) (fun k hk=>by
    rcases hk with e|e|e
    ·omega
    ·omega
    ·have:=(H0.out.own.lt k e).1;omega)
   obtain⟨pb,po,ep,e8⟩:=d4.out wr b1 j (by rw[HM.out];exact U);subst ep;have e1:=d5.out _ (RL.out j U);have e3:=TL.out j;have d8:Hid _:=b0.out j U;have c9:Hid _:=BT.out j U;have c8:Hid _:=BR.out (n+j) E _ (ks.getD j 0) wr b3.out e1 (by omega) (by omega) (by have:=J.out.size;omega);clear b1;generalize ks.getD j 0=y at *;generalize brings T (ks.take j)=Tj at *;generalize at1 (bring Tj y) y=A at *
   go_wp2_with fail
   refine ye c8.out ?_;rintro e w3 ⟨v3,rfl,b8,b5,a8⟩
   have kp:∀ i,w.heap.size<=i->i<w.heap.size+3->w3.heap[i]?=wr.heap[i]?:=fun i h1 h2=>a8.block i (by omega) (fun M=>by
    have:=a7.out;rcases M with e|e|e
    ·omega
    ·omega
    ·have:=O.out i e;omega)
   have y1:=(kp w.heap.size (by omega) (by omega)).trans x1;have y2:=(kp (w.heap.size+1) (by omega) (by omega)).trans x2;have I:=b4.out.of_block (kp (w.heap.size+2) (by omega) (by omega));have rc:=I.cell U;have rf:=I.frozen j;have s3:=a8.size;have a9:Hid (zzg w.heap.size v3):=O.out.later b5 (by omega);have b6:Hid (Later w v v3):=a6.out.trans b5 (by omega);have b7:Hid (zgL (zgk D F v) w w3):=J.out.trans a8 (fun i hi M=>a6.out.off hi M)
   have a5:Hid (ziw (w3.setCell ⟨w.heap.size+2,j,none⟩ (.int .i64 A)) B Z D F (n+(j+1)) v3 (bring Tj y)):=b8.kept (fun i hi M=>ys _ _ _ _ (by
    show i≠w.heap.size+2;have:=a7.out;rcases M with e|e|e|e
    ·omega
    ·omega
    ·omega
    ·have:=a9.out i e;omega))
   have d7:Hid ((w3.setCell ⟨w.heap.size+2,j,none⟩ (.int .i64 A)).rowIs (w.heap.size+2) 3 m (zhd T ks (j+1))):=(I.set j (.int .i64 A)).congr (fun i _=>d8.out i);have d6:Hid (zgL (zgk D F v) w (w3.setCell ⟨w.heap.size+2,j,none⟩ (.int .i64 A))):=b7.out.trans (Y:=fun i=>i=w.heap.size+2) (zeP _ _ _ _ rfl) (fun i hi M=>by have M:i=w.heap.size+2:=M;omega);have Y1:Hid ((w3.setCell ⟨w.heap.size+2,j,none⟩ (.int .i64 A)).heap[w.heap.size]?=_):=(ys _ _ _ _ (by show w.heap.size≠w.heap.size+2;omega)).trans y1;have Y2:Hid ((w3.setCell ⟨w.heap.size+2,j,none⟩ (.int .i64 A)).heap[w.heap.size+1]?=_):=(ys _ _ _ _ (by show w.heap.size+1≠w.heap.size+2;omega)).trans y2;have s4:w.heap.size+2<w3.heap.size:=by omega
   clear kp b8 b5 a8 I y1 y2 x1 x2 O a6 J c7
   go_wp2_with fail
   go_roundg (m-(j+1))
   case measure=>omega
   case rel=>exact⟨j+1,v3,by omega,by omega,by go_num,Y1.out,Y2.out,by simp[World.setCell];omega,(show ziw _ _ _ _ _ _ _ _ by rw[c9.out];exact a5.out),b6,a9,d6,d7⟩
  ·have d9:m=j:=by omega
   subst d9;have e7:wr.cell? ⟨w.heap.size,0,none⟩=some (.int .i64 xn):=by simp[World.cell?,x1]
   have d0:wr.cell? ⟨w.heap.size+1,0,none⟩=some (.int .i64 0):=by simp[World.cell?,x2]
   have d1:wr.cell? ⟨w.heap.size+1,1,none⟩=some (.slice none 0 0):=by simp[World.cell?,x2]
   have df:∀ o,wr.frozen? ⟨w.heap.size+1,o,none⟩=false:=fun o=>by simp[World.frozen?,x2]
   have e4:=df 0;have e5:=df 1;have s4:w.heap.size+1<wr.heap.size:=by omega
   have eT:brings T (ks.take m)=brings T ks:=by rw[List.take_of_length_le (by rw[HM.out];omega)]
   have a5:Hid (∀ va vb,let w9:=(wr.setCell ⟨w.heap.size+1,0,none⟩ va).setCell ⟨w.heap.size+1,1,none⟩ vb;ziw w9 B Z D F (n+m) E (brings T ks)/\zgL (zgk D F v) w w9/\w9.ownsRow w.heap.size 3 1 (.slice (some ⟨w.heap.size+2,0,none⟩) m m) m ((ks.map (at1 (brings T ks))).map (Value.int .i64))):=fun va vb=>by
    intro w9;have kp:∀ i,i≠w.heap.size+1->w9.heap[i]?=wr.heap[i]?:=fun i hi=>(ys _ _ _ _ hi).trans (ys _ _ _ _ hi);refine⟨?_,?_,?_⟩
    ·have h1:=b3.out;rw[eT] at h1;refine h1.kept (fun i hi M=>kp i ?_);have:=a7.out;rcases M with e|e|e|e
     ·omega
     ·omega
     ·omega
     ·have:=O.out i e;omega
    ·refine J.out.trans (Y:=fun i=>i=w.heap.size+1) (zgL.trans (Y:=fun i=>i=w.heap.size+1) (zeP _ _ _ _ rfl) (zeP _ _ _ _ rfl) (fun _ _ h=>h)) (fun i hi M=>?_);have M:i=w.heap.size+1:=M;omega
    ·have hr:=b4.out.of_block (kp (w.heap.size+2) (by omega));have hlen:(ks.map (at1 (brings T ks))).length=m:=by rw[List.length_map,HM.out]
     have:=zkX (B:=w.heap.size) (l:=ks.map (at1 (brings T ks))) hr (fun i hi=>by
      rw[hlen] at hi;unfold zhd;rw[yb hi,eT,zae (ks.map (at1 (brings T ks))) 0 (by rw[hlen];exact hi),List.getElem_map,zae ks 0 (by rw[HM.out];exact hi)]) (by omega) (by unfold maxLen;omega) (by omega)
     rw[hlen] at this;exact this
   have NE:Hid (E.ownBlock≠some (w.heap.size+2)):=fun e=>by have:=O.out _ e;omega
   have FN:=a5.out (.int .i64 xn) (.slice (some ⟨w.heap.size+1+1,0,none⟩) m m);have b2:Hid _:=FN;have r0:(wr.setCell ⟨w.heap.size+1,0,none⟩ (.int .i64 xn)).cell? ⟨w.heap.size+1,0,none⟩=some (.int .i64 xn):=World.cell?_setCell_same _ _ _ d0;have r1:((wr.setCell ⟨w.heap.size+1,0,none⟩ (.int .i64 xn)).setCell ⟨w.heap.size+1,1,none⟩ (.slice (some ⟨w.heap.size+1+1,0,none⟩) m m)).cell? ⟨w.heap.size+1,1,none⟩=some (.slice (some ⟨w.heap.size+1+1,0,none⟩) m m):=World.cell?_setCell_same _ _ _ ((World.cell?_setCell_other _ _ _ _ (by intro e;cases e)).trans d1);clear x1 x2 c7 df b4 J b3 a5 FN
   go_wp2_with fail
   refine yv (v:=.agg #[.int .i64 xn,.slice (some ⟨w.heap.size+1+1,0,none⟩) m m]) (by simp[results,Tryz.results181,go_sem,r0,r1]) rfl ?_;refine⟨E,w.heap.size+2,rfl,b2.out.1,a6.out,b2.out.2.1,by omega,NE.out,?_⟩;have h9:=b2.out.2.2
   first|exact h9|(simp only[List.map_map] at h9 |-;exact h9)
theorem zwd:(Tryz.prog.info? 55).map (fun i=>(i.zero,i.size,i.bytes))=some (some (.agg #[.int .i64 0,.slice none 0 0]),2,32):=by kernel_rfl
def zgQ(x:Cl)(v:Value):List Value:=[.int .i64 x.n,v]
def zkD(L:List Cl)(K:Nat->Value):List Value:=(List.range L.length).flatMap fun i=>zgQ (cl L i) (K i)
theorem zsL{L:List Cl}{s:Cl}{i:Nat}(h:i<L.length):cl (L++[s]) i=cl L i:=by
 rw[zcq (by simp;omega),zcq h,List.getElem_append_left h]
theorem zsK(L:List Cl)(s:Cl):cl (L++[s]) L.length=s:=by
 rw[zcq (by simp)];simp
theorem zof(L:List Cl)(K:Nat->Value)(s:Cl)(v:Value):zkD L K++zgQ s v=zkD (L++[s]) (fun i=>if i=L.length then v else K i):=by
 unfold zkD;rw[List.length_append,List.length_singleton,List.range_succ,List.flatMap_append]
 congr 1
 ·rw[List.flatMap_def,List.flatMap_def]
  congr 1
  refine List.map_congr_left (fun i hi=>?_);have hi:=List.mem_range.1 hi;show _=zgQ (cl (L++[s]) i) (if i=L.length then v else K i);rw[zsL hi,ya (by omega)]
 ·simp[zsK]
def zgM(B:Nat)(L:List Cl)(K:Nat->Value)(v:Value)(w:World):Prop :=
 w.ownsRow B 55 2 v L.length (zkD L K)/\∀ i,i<L.length->w.ownsRow B 3 1 (K i) (cl L i).ks.length ((cl L i).ks.map (Value.int .i64))
theorem zfI(L:List Cl)(K:Nat->Value):∀ q,((List.range q).flatMap fun i=>zgQ (cl L i) (K i)).length=q*2
 | 0=>rfl
 | q+1=>by rw[List.range_succ,List.flatMap_append,List.length_append,zfI L K q];simp[zgQ];omega
theorem zmB(L:List Cl)(K:Nat->Value){i j:Nat}(D:j<2):∀ {q:Nat},i<q->((List.range q).flatMap fun i=>zgQ (cl L i) (K i))[i*2+j]?=(zgQ (cl L i) (K i))[j]?
 | 0,hi=>by omega
 | q+1,hi=>by
  rw[List.range_succ,List.flatMap_append];by_cases e:i=q
  ·subst e;rw[List.getElem?_append_right (by rw[zfI];omega),zfI];simp
  ·rw[List.getElem?_append_left (by rw[zfI];omega)];exact zmB L K D (by omega)
theorem zgM.cls{B:Nat}{L:List Cl}{K:Nat->Value}{v:Value}{w:World}(h:zgM B L K v w):∃ a c,v=.slice a L.length c/\zaG w a L:=by
 obtain⟨E,O⟩:=h;have D:=E;obtain⟨hl,h⟩:=E;rcases h with ⟨rfl,h0⟩ |⟨g,cap,F,rfl,hb,hg,h1,T,U,Z⟩
 ·exact⟨none,0,by rw[h0],fun i hi=>by omega⟩
 ·refine⟨some ⟨g,0,none⟩,cap,rfl,fun i hi=>⟨g,0,rfl,?_⟩⟩
  have hc:∀ j,j<2->w.cell? ⟨g,i*2+j,none⟩=(zgQ (cl L i) (K i))[j]?:=fun j M=>by
   rw[<- zmB L K M hi];exact D.cellAt (i*2+j) (by omega)
  obtain⟨sa,sc,I,J⟩:=zeE (O i hi);rw[yz];refine⟨hc 0 (by omega),sa,sc,?_,J⟩;rw[hc 1 (by omega),I];rfl
theorem zgM.kept{B:Nat}{L:List Cl}{K:Nat->Value}{v:Value}{w w' : World}(h:zgM B L K v w)(e:∀ j,B<=j->j<w.heap.size->(v.ownBlock=some j\/∃ i,i<L.length/\(K i).ownBlock=some j)->w'.heap[j]?=w.heap[j]?):zgM B L K v w' :=
 ⟨zau h.1 (fun k D=>e k (h.1.lt k D).1 (h.1.lt k D).2 (Or.inl D)),fun i hi=>zau (h.2 i hi) (fun k D=>e k ((h.2 i hi).lt k D).1 ((h.2 i hi).lt k D).2 (Or.inr ⟨i,hi,D⟩))⟩
theorem zgM.below{B:Nat}{L:List Cl}{K:Nat->Value}{v:Value}{w w' : World}(h:zgM B L K v w)(D:Below w.heap.size w w'):zgM B L K v w' := h.kept (fun j _ E _=>D.block j E)
theorem zgM.step{O w3:World}{B:Nat}{L:List Cl}{K:Nat->Value}{v v1 v2:Value}{s:Cl}{o3:Obj}(I:zgM B L K v O)(D:O.ownsRow B 3 1 v1 s.ks.length (s.ks.map (Value.int .i64)))
  (h3:(O.alloc o3).grownBy w3 v.ownBlock) (M:w3.ownsRow B 55 2 v2 (L.length+1) (zkD L K++zgQ s v1)) :
  zgM B (L++[s]) (fun i=>if i=L.length then v1 else K i) v2 w3:=by
 obtain⟨hm,E⟩:=I
 have U:∀ k,k<O.heap.size->v.ownBlock≠some k->w3.heap[k]?=O.heap[k]?:=fun k E T =>
  (h3.block k (by simp;omega) (fun e=>T e.symm)).trans (Below.heap_alloc _ _ _ E)
 refine⟨?_,fun i hi=>?_⟩
 ·rw[<- zof,List.length_append,List.length_singleton];exact M
 ·rw[List.length_append,List.length_singleton] at hi;by_cases Z:i=L.length
  ·subst Z;simp only[if_true];rw[zsK];exact zau D (fun k E=>U k (D.lt k E).2 (zcG D hm (by decide) k E))
  ·simp only[ya Z];have J:i<L.length:=by omega
   rw[zsL J];have F:=E i J;exact zau F (fun k E=>U k (F.lt k E).2 (zcG F hm (by decide) k E))
theorem zAZ{W:World}{b:Nat}{s:Cl}{v:Value}(c0:W.cell? ⟨b,0,none⟩=some (.int .i64 s.n))(c1:W.cell? ⟨b,1,none⟩=some v):∀ j u,(zgQ s v)[j]?=some u->W.cell? ((⟨b,0,none⟩:Addr).add j)=some u:=fun j u D=>by
 unfold zgQ at D;rw[Addr.add_lit]
 match j,D with
 | 0,D=>cases D;exact c0
 | 1,D=>cases D;exact c1
theorem zBq{s:Cl}{a:Option Addr}{n c:Nat}:∀ u ∈ zgQ s (.slice a n c),u.oneCell' = true:=fun u D=>by
 unfold zgQ at D;simp at D;rcases D with rfl|rfl <;> rfl
theorem ziF{P:Program}{ops:Array Oper}{o:Oper}{a:Act}{w:World}{K:Act->World->Prop}{Q:Exit->Act->World->Prop}{E:Prop}
  (hg:o.guard=none) (s x:Operand) (t:TypeId) (O:o.op=Op.call { callee:=Callee.builtin Builtin.append,args:=#[s,x],argTypes:=#[t,t] })
  (base:Nat) (e:TypeId) (i:TypeInfo) (z:Value) (size bytes:Nat) (h1:P.underlying t=some (.slice e)) (h2:P.info? e=some i) (h3:i.zero=some z) (h4:i.size=size) (h5:i.bytes=bytes) (h6:z.cells.size=size) (h7:0<size)
  (v:Value) (n:Nat) (T:List Value) (hs:a.eval s=v) (F:w.ownsRow base e size v n T)
  (J:Addr) (m c:Nat) (news:List Value) (hx:a.eval x=.slice (some J) m c) (hn:news.length=m*size) (hc:∀ j u,news[j]?=some u->w.cell? (J.add j)=some u) (M:∀ u ∈ news,u.oneCell' = true)
  (U:n+m<=maxLen) (Z:(n+m)*bytes<=140737488355328) (D:base<=w.heap.size)
  (hK:∀ I w', w'.ownsRow base e size I (n+m) (T++news)->w.grownBy w' v.ownBlock->K (a.put o.dst I) w') :
  if Region.wanted o (yielded ops a.tmps)=true then Oper.wp P o a w K Q else E:=by
 have hw:Region.wanted o (yielded ops a.tmps)=true:=by simp[Region.wanted,hg]
 rw[yb hw];exact wp_append_own w s x t O base e i z size bytes h1 h2 h3 h4 h5 h6 h7 v n T hs F J m c news hx hn hc M U Z D (fun I w' r1 r2 _=>hK I w' r1 r2)
theorem zsw{G:List Cl}(D:zdy G)(h0:0<G.length){i:Nat}{k:Int}(E:k ∈ bfs G i):at1 (bfs G i) k=at1 (reach G) k:=by
 obtain⟨r,F⟩:=zgO D h0 i;rw[F,znX E]
theorem zsz{G:List Cl}(E:zdy G)(h0:0<G.length){i:Nat}(hi:i<(bfs G i).length):i<(reach G).length/\(reach G).getD i 0=(bfs G i).getD i 0:=by
 obtain⟨r,D⟩:=zgO E h0 i;have h1:i<(reach G).length:=by rw[D];simp;omega
 refine⟨h1,?_⟩;rw[zae _ _ h1,zae _ _ hi];simp only[D];rw[List.getElem_append_left hi]
theorem zpt{G:List Cl}{i:Nat}(hi:i<(bfs G i).length):brings (bfs G i) (cl G ((bfs G i).getD i 0).toNat).ks=bfs G (i+1):=by
 rw[bfs,yb hi]
theorem zsP{G:List Cl}(D:zdy G)(h0:0<G.length){i y:Nat}(hi:i<(bfs G i).length)(E:(bfs G i).getD i 0=y) :
  (zbu G).take (i+1)=(zbu G).take i++[⟨(cl G y).n,(cl G y).ks.map (at1 (bfs G (i+1)))⟩]:=by
 obtain⟨h1,F⟩:=zsz D h0 hi;have hl:=zfk h0;rw[List.take_succ_eq_append_getElem (by omega),<- zcq,zlC h0 h1,F,E];unfold zqB;rw[yi]
 congr 3
 refine List.map_congr_left (fun k I=>?_);rw[zsw D h0];rw[<- zpt hi,zfH,E,yi];exact Or.inr I
theorem zzy(G:List Cl):∀ i,(bfs G i).length<=(bfs G (i+1)).length:=fun i=>by
 obtain⟨r,D⟩:=zsA G i;rw[D];simp
theorem zys(a:Option Addr)(c:Nat)(S:List Nd)(k:Nat)(u:Int)(w:World)(hN:S.length<=24)(hB:∀ i,i<S.length->(nd S i).ks.length<=1000)(hS:zah w a S)(hk:k<S.length)(I:zaH S k u=0)(hT:zgi S k) :
  Calls Tryz.prog 167 #[.agg #[.slice a S.length c],.agg #[.int .i64 k,.int .i64 u]] w fun e w' => ∃ g,e=.returned (.tuple #[.agg #[.slice (some ⟨g,0,none⟩) S.length S.length],.int .i64 0])/\Below w.heap.size w w' /\ w.heap.size<=g/\∀ w3:World,(∀ b,g<=b->w3.heap[b]?=w'.heap[b]?)->zah w3 (some ⟨g,0,none⟩) (S.set k (zcU (nd S k))):=by
 have hK:=yE (hB k hk) (show 1000<=1000000 by omega);have dc:=fun(W:World) (hW:zah W a S)=>copy_any a c S W hN hB hW;have DC:Hid _:=dc;replace hB:Big S:=fun i hi=>yE (hB i hi) (by omega);have D1:Hid (∀ W,zah W a S->Calls _ _ _ _ _):=fun W hW=>find_ok a c S k u W (by omega) hB hW hk I hK;obtain⟨r,hr⟩:∃ r,zal (nd S k)=r:=⟨_,rfl⟩;obtain⟨h3,c6⟩:∃ b,zfs S k=b:=⟨_,rfl⟩;have d2:=fun(v:Value) W=>zdN (nd S k) v W;rw[show (if (nd S k).h = -1 then (nd S k).p else (nd S k).h)=r from hr] at d2;have D2:Hid _:=d2;have d3:=fun W hW=>zeb a c S (k:Int) W (by omega) hW (by omega);rw[c6] at d3;have D3:Hid _:=d3;have HS:Hid (zah w a S):=hS;have N8:Hid (∀ (w w3:World) (B g:Nat) (kb kc:Nat->Nat),Own w B g S kb kc S.length->_->zah w3 (some ⟨g,0,none⟩) (S.set k (zcU (nd S k)))):=fun w w3 B g kb kc h c7=>Own.nil8 h hk (zcU (nd S k)) rfl w3 c7
 have OC:Hid (∀ (wr:World) (B g:Nat) (kb kc:Nat->Nat),Own wr B g S kb kc S.length->(g<wr.heap.size/\(∀ o,wr.frozen? ⟨g,o,none⟩=false)/\(∃ v0 v1 v2 v3 v4 v5 v6 v7,wr.cell? ⟨g,k*8,none⟩=some v0/\wr.cell? ⟨g,k*8+1,none⟩=some v1/\wr.cell? ⟨g,k*8+2,none⟩=some v2/\wr.cell? ⟨g,k*8+3,none⟩=some v3/\wr.cell? ⟨g,k*8+4,none⟩=some v4/\wr.cell? ⟨g,k*8+5,none⟩=some v5/\wr.cell? ⟨g,k*8+6,none⟩=some v6/\wr.cell? ⟨g,k*8+7,none⟩=some v7))):=fun wr B g kb kc h=>by
  obtain⟨_,F,I,h2,_⟩:=h;exact⟨I.lt,I.frozen,_,_,_,_,_,_,_,_,I.cell (by omega),I.cell (by omega),I.cell (by omega),I.cell (by omega),I.cell (by omega),I.cell (by omega),I.cell (by omega),I.cell (by omega)⟩
 obtain⟨t1,t2,t3⟩:=hT;rw[hr] at t1;rw[c6] at t3;subst t1 t3;have t4:(nd S k).ks.length=0:=by rw[t2];rfl
 have h4:(k:Int)<(S.length:Int):=by omega
 have h6:decide ((k:Int)<0)=false:=decide_eq_false (by omega);unfold zcU at N8 |-;clear hS d2 d3 dc I hB hr c6 t2 hK;generalize hx:nd S k=x at *;clear hx;obtain⟨xu,xn,xt,xm,xp,g6,xh,xc⟩:=x;dsimp only at *;generalize g6.length=L at *;subst t4;generalize hn:S.length=n at *;clear hn
 go_enter Tryz.func167,Tryz.ntmps167
 go_wp2_with (go_at_call 14;refine(D1.out _ (HS.out.below (zar _ _ _ _))).mono ?_;rintro e O ⟨kg,rfl,M,g5⟩;clear g5;simp only[yr] at M;obtain⟨l0,l1,l2,l3,z3⟩:=zbS M;have b4:=M.size;simp only[yr] at b4;have q0:w.heap.size<O.heap.size:=(by omega);have q1:w.heap.size+1<O.heap.size:=(by omega);have q2:w.heap.size+1+1<O.heap.size:=(by omega))
 refine(D2.out _ _).mono ?_;rintro e w2 ⟨rfl,a7⟩;simp only[yr] at a7;obtain⟨a5,n0,n1,n2,n3,n4,n5,n6,n7⟩:=zeD M b4 a7;have e9:=a7.size;simp only[yr] at e9;clear l0 l1 l2 l3 z3;obtain⟨l0,l1,l2,l3,z3⟩:=zbS a5;have a9:Hid (Below w.heap.size w w2):=(zar _ _ _ _).trans (a5.mono (by omega));have b9:Hid _:=M;have c9:Hid _:=a7;have q3:O.heap.size<w2.heap.size:=by omega
 clear M a7 a5
 go_wp2_with fail
 refine(D3.out _ (HS.out.below a9.out)).mono ?_;rintro e w3 ⟨rfl,b1⟩;have h7:=b1.size;have E:Hid (Below w.heap.size w w3):=a9.out.trans (b1.mono (by have:=a9.out.size;omega));have a8:=c9.out.trans (b1.mono e9);clear l0 l1 l2 l3 z3 n0 n1 n2 n3 n4 n5 n6 n7 b1 c9;obtain⟨b7,n0,n1,n2,n3,n4,n5,n6,n7⟩:=zeD b9.out b4 a8;obtain⟨l0,l1,l2,l3,z3⟩:=zbS b7;have r1:O.heap.size<w3.heap.size:=by omega
 have r2:w.heap.size<w3.heap.size:=by omega
 have r3:w.heap.size+1<w3.heap.size:=by omega
 have r4:w.heap.size+1+1<w3.heap.size:=by omega
 have b5:Hid _:=a8;clear b7 a8
 go_wp2_with fail
 refine(DC.out _ (HS.out.below E.out)).mono ?_;rintro e T ⟨g,kb,kc,rfl,b2,b0⟩;have hg:w3.heap.size<=g:=b0.1;have g0:O.heap.size+1<=w3.heap.size:=by omega
 have b8:=b5.out.trans (b2.mono g0);have h8:=b2.size;have Z:Hid (Below w.heap.size w T):=E.out.trans (b2.mono (by have:=E.out.size;omega));clear l0 l1 l2 l3 z3 n0 n1 n2 n3 n4 n5 n6 n7 b5;obtain⟨a6,n0,n1,n2,n3,n4,n5,n6,n7⟩:=zeD b9.out b4 b8;obtain⟨l0,l1,l2,l3,z3⟩:=zbS a6;obtain⟨g8,e7,v0,v1,v2,v3,v4,v5,v6,v7,d0,d1,d2,d3,d4,d5,d6,d7⟩:=OC.out _ _ _ _ _ b0;have g7:O.heap.size<g:=by omega
 have d8:Hid (Own T w3.heap.size g S kb kc n):=b0;have U:Hid _:=a6;clear a6 b8 b0 b2 hg
 go_wp2_with fail
 have t1:O.heap.size<T.heap.size:=by omega
 obtain⟨D,J⟩:∃ D,D=T.alloc (Obj.cells #[Value.slice (some ⟨g,0,none⟩) n n] 43):=⟨_,rfl⟩;rw[<- J];have k8:D.cell? ⟨T.heap.size,0,none⟩=some (.slice (some ⟨g,0,none⟩) n n):=by rw[J];go_simp
 have k9:D.cell? ⟨O.heap.size,1,none⟩=some (.int .i64 xn):=by rw[J];go_simp
 have g4:D.heap.size=T.heap.size+1:=by rw[J];simp
 have b3:Below T.heap.size T D:=by rw[J];exact(yk _ _).alloc (yj _) _
 have e0:=U.out.trans (b3.mono (by have:=U.out.size;simp at this;omega));have b6:Hid (Below w.heap.size w D):=Z.out.trans (b3.mono Z.out.size);have d9:Hid (Own D w3.heap.size g S kb kc n):=Own.below d8.out b3;clear l0 l1 l2 l3 z3 n0 n1 n2 n3 n4 n5 n6 n7 d0 d1 d2 d3 d4 d5 d6 d7 e7 d8 U J b3;obtain⟨l0,l1,l2,l3,z3⟩:=zbS e0;obtain⟨_,e7,i2,i3,i4,i5,i6,i7,i8,i9,d0,d1,d2,d3,d4,d5,d6,d7⟩:=OC.out _ _ _ _ _ d9.out;have u1:T.heap.size<D.heap.size:=by omega
 have u2:O.heap.size<D.heap.size:=by omega
 have u3:w.heap.size+1<D.heap.size:=by omega
 have u4:w.heap.size+1+1<D.heap.size:=by omega
 have u5:g<D.heap.size:=by omega
 have u6:w.heap.size+1+1<g:=by omega
 have g9:Hid (D.heap.size=T.heap.size+1):=g4;clear e0 g4;have h9:=World.new_ne D _ k8;have i0:=World.new_ne D _ k9;have i1:=World.new_ne D _ l1;have e1:¬ g=T.heap.size:=by omega
 have e2:¬ T.heap.size=g:=by omega
 have e3:¬ g=w.heap.size+1:=by omega
 have e4:¬ w.heap.size+1=g:=by omega
 have e5:¬ g=O.heap.size:=by omega
 have e6:¬ O.heap.size=g:=by omega
 clear Z E a9 b9 HS D1 D2 D3 DC OC
 go_region_held3 (fun c8=>c8.cell? ⟨T.heap.size,0,none⟩=some (.slice (some ⟨g,0,none⟩) n n)/\c8.cell? ⟨w.heap.size+1,0,none⟩=some (.int .i64 k)/\c8.cell? ⟨O.heap.size,1,none⟩=some (.int .i64 xn)) (go_keep) (first|(go_at_call 93;refine(zhZ _ _).mono ?_;rintro e w' ⟨rfl,rfl⟩))
 all_goals (try go_wp2)
 all_goals
  refine yv (v:=.tuple #[.agg #[.slice (some ⟨g,0,none⟩) n n],.int .i64 0]) (by simp only[results,Tryz.results167];go_simp) rfl ⟨g,rfl,?_,by omega,fun w3 c7=>?_⟩
  ·first
    | exact((((((((((b6.out.setCell (by simp;omega) _).setCell (by simp;omega) _).setCell (by simp;omega) _).setCell (by simp;omega) _).setCell (by simp;omega) _).setCell (by simp;omega) _).setCell (by simp;omega) _).setCell (by simp;omega) _).setCell (by simp;omega) _).alloc (by simp;omega) _).drew
    | exact((((((((((b6.out.setCell (by simp;omega) _).setCell (by simp;omega) _).setCell (by simp;omega) _).setCell (by simp;omega) _).setCell (by simp;omega) _).setCell (by simp;omega) _).setCell (by simp;omega) _).setCell (by simp;omega) _).alloc (by simp;omega) _).setCell (by simp;omega) _).drew
  ·refine N8.out D w3 _ g kb kc d9.out (fun b hb e8=>(c7 b hb).trans ?_)
   first
    |(rw[heap_drew,((yk _ _).alloc (yj _) _).block b (by simpa using e8),ys _ _ _ _ (by show b≠w.heap.size+1+1;omega)])
    |(rw[heap_drew,ys _ _ _ _ (by show b≠w.heap.size+1+1;omega),((yk _ _).alloc (yj _) _).block b (by simpa using e8)])
end Go.Proofs.YtcbcpomacdngmaaGreat
