/-
  x
-/
import Derived.Test.YtcbcpomacdngmaaGreatQ22
namespace Go.Proofs.YtcbcpomacdngmaaGreat
set_option maxRecDepth 100000
set_option maxHeartbeats 4000000
set_option linter.unusedVariables false
open Go.RowKit Go.ChangeShapes Go.WideShapes
theorem zhG{m:Nat}:∀ {l:List Cl},cellsE m l=0↔∀ x ∈ l,zfj m x=0
 | []=>by simp[cellsE]
 | x :: l=>by
  rw[cellsE];by_cases h:zfj m x=0
  ·rw[yd h,zhG];simp[h]
  ·rw[ya h];simp[h]
theorem zhD{m:Nat}{x:Cl}(h:zfj m x=0):(-1000000<=x.n/\x.n<=1000000)/\x.ks.length<=8/\∀ k ∈ x.ks,∃ q:Nat,k=q/\q<m:=by
 unfold zfj at h
 split at h
 ·omega
 ·rename_i h1
  split at h
  ·omega
  ·rename_i I
   split at h
   ·omega
   ·rename_i D;refine⟨by omega,by omega,fun k F=>?_⟩;simp only[List.any_eq_true,not_exists,not_and] at D;have E:=D k F;simp only[Bool.not_eq_true', decide_eq_false_iff_not,Decidable.not_not] at E;exact⟨k.toNat,by omega,by omega⟩
theorem zyn{m:Nat}{x:Cl}(h1:-1000000<=x.n/\x.n<=1000000)(F:x.ks.length<=8)(D:∀ k ∈ x.ks,∃ q:Nat,k=q/\q<m):zfj m x=0:=by
 unfold zfj;rw[ya (by omega),ya (by omega),ya];simp only[List.any_eq_true,not_exists,not_and];intro k E;obtain⟨q,e,I⟩:=D k E;simp only[Bool.not_eq_true', decide_eq_false_iff_not,Decidable.not_not];omega
structure Right (G:List Cl):Prop where
 few:G.length<=24
 range:∀ i,i<G.length->-1000000<=(cl G i).n/\(cl G i).n<=1000000
 kids8:∀ i,i<G.length->(cl G i).ks.length<=8
 kids:zdJ G
theorem zbK{G:List Cl}:zaA G=0↔Right G:=by
 unfold zaA;constructor
 ·intro h
  split at h
  ·omega
  ·rename_i hl;have h1:=zhG.1 h;have D:∀ i,i<G.length->zfj G.length (cl G i)=0:=fun i hi=>h1 _ (by rw[zcv hi];exact List.getElem_mem hi);exact⟨by omega,fun i hi=>(zhD (D i hi)).1,fun i hi=>(zhD (D i hi)).2.1,fun i hi=>(zhD (D i hi)).2.2⟩
 ·intro h;rw[ya (by have:=h.few;omega),zhG];intro x E;obtain⟨i,hi,rfl⟩:=List.getElem_of_mem E;have:=zyn (m:=G.length) (h.range i hi) (h.kids8 i hi) (h.kids i hi)
  rwa [zcv hi] at this
theorem Right.copy{G:List Cl}(h:Right G):Right (zbx G):=by
 by_cases h0:G.length=0
 ·rw[zhI h0];exact⟨by simp,(fun i hi=>by cases hi),(fun i hi=>by cases hi),(fun i hi=>by cases hi)⟩
 ·have h0:0<G.length:=by omega
  have hl:=zfp h0;have F:=zuR h.kids h0
  have E:∀ i,i<(zbx G).length->∃ q:Nat,q<G.length/\cl (zbx G) i=zqL G (reach G) (q:Int):=fun i hi=>by
   rw[hl] at hi;obtain⟨q,e,D⟩:=(ziy h.kids h0).2 ((reach G).getD i 0) (by rw[zae _ _ hi];exact List.getElem_mem hi);exact⟨q,D,by rw[zlD h0 hi,e]⟩
  refine⟨by have:=h.few;omega,fun i hi=>?_,fun i hi=>?_,zqP h.kids⟩
  ·obtain⟨q,D,e⟩:=E i hi;rw[e];have:=h.range q D;simpa [zqL] using this
  ·obtain⟨q,D,e⟩:=E i hi;rw[e];have:=h.kids8 q D;simpa [zqL] using this
theorem Right.big{G:List Cl}(h:Right G):zkb G:=fun i hi=>by have:=h.kids8 i hi;omega
def zzI(G:List Cl):List Cl:=if zaA G=0 then zbx G else []
theorem zin.nil(B:Nat)(w:World):zin B [] (fun _=>.slice none 0 0) (.slice none 0 0) w:=⟨World.ownsRow_nil _ _ _ _,fun i hi=>by cases hi⟩
theorem ztu(a:Option Addr)(c:Nat)(G:List Cl)(w:World)(hN:G.length<=9223372036854775807)(hB:zkb G)(hS:zaI w a G) :
  Calls Tryz.prog 160 #[.agg #[.slice a G.length c]] w fun e w' => ∃ v,e=.returned (.tuple #[.agg #[v],.int .i64 (zaA G)])/\Below w.heap.size w w' /\ ∃ K,zin w.heap.size (zzI G) K v w' := by
 have D:Hid (∀ W,zaI W a G->Calls _ _ _ _ _):=fun W hW=>zfV a c G W hN hB hW;have HS:Hid (zaI w a G):=hS;have RF:Hid (zzI G=if zaA G=0 then zbx G else []):=(rfl:zzI G=_);have CF:Hid (zaA G=0->0<G.length->∀ W,zaI W a G->Calls _ _ _ _ _):=fun h1 h2 W hW=>zmJ a c G W (zbK.1 h1).kids h2 (zbK.1 h1).few (zbK.1 h1).kids8 hW;have NO:Hid (G.length=0->zbx G=[]):=zhI;clear hS hB;generalize zzI G=R at *;generalize zaA G=E at *;obtain⟨n,hn⟩:∃ n,G.length=n:=⟨_,rfl⟩;rw[hn] at hN D CF NO |-;clear hn;have O:(((w.alloc (.cells #[.slice a n c] 47)).alloc (.cells #[.slice none 0 0] 47)).frozen? ⟨w.heap.size+1,0,none⟩=false):=by go_simp
 go_enter Tryz.func160,Tryz.ntmps160
 go_wp2_with fail
 refine yi (D.out _ (HS.out.below (zah _ _ _))) ?_;rintro e w1 ⟨rfl,F⟩;have l0:=zab (zaB w #[.slice a n c] 47 0 (.cells #[.slice none 0 0] 47) rfl) F;have T:=zab (zaC w #[.slice none 0 0] 47 0 (.cells #[.slice a n c] 47) rfl) F;have f1:=(F.frozen (p:=⟨w.heap.size+1,0,none⟩) (by simp)).trans O;have a9:=F.size;simp only[ys] at a9;have q1:w.heap.size+1<w1.heap.size:=by omega
 have M:Hid (Below w.heap.size w w1):=(zah w _ _).trans (F.mono (by simp;omega));have r0:∀ u v,(w1.setCell ⟨w.heap.size+1,0,none⟩ u).cell? ⟨w.heap.size+1,0,none⟩=some v↔u=v:=fun u v=>by rw[World.cell?_setCell_same _ _ _ T];simp
 clear F D O;by_cases Z:E=0
 ·subst Z;have I:Hid (R=zbx G):=by show _=_;rw[RF.out,yd rfl]
  by_cases h0:n=0
  ·have a8:Hid (R=[]):=I.out.trans (NO.out h0);subst h0;have r1:(w1.setCell ⟨w.heap.size+1,0,none⟩ (.slice none 0 0)).cell? ⟨w.heap.size+1,0,none⟩=some (.slice none 0 0):=World.cell?_setCell_same _ _ _ T;clear r0
   go_wp2_with fail
   refine yw (v:=.tuple #[.agg #[.slice none 0 0],.int .i64 0]) (by simp[results,Tryz.results160,go_sem,r1]) rfl ⟨_,rfl,M.out.setCell (by show w.heap.size<=w.heap.size+1;omega) _,_,(show zin _ R _ _ _ by rw[a8.out];exact zin.nil _ _)⟩
  ·have b0:decide ((n:Int)=0)=false:=yF (by omega);have b1:((n:Int) == 0)=false:=by simp;omega
   have a5:Hid _:=CF.out rfl (by omega);clear r0
   go_wp2_with fail
   refine yi (a5.out _ (HS.out.below M.out)) ?_;rintro e U ⟨v,K,rfl,F,J⟩;obtain⟨va,vc,hv,_⟩:=J.cls;subst hv;have m1:=zab T F;have g1:=(F.frozen (p:=⟨w.heap.size+1,0,none⟩) (by exact q1)).trans f1;have q2:w.heap.size+1<U.heap.size:=yz q1 F.size;have r1:∀ u,(U.setCell ⟨w.heap.size+1,0,none⟩ u).cell? ⟨w.heap.size+1,0,none⟩=some u:=fun u=>World.cell?_setCell_same _ _ _ m1;have a6:Hid (∀ u,Below w.heap.size w (U.setCell ⟨w.heap.size+1,0,none⟩ u)):=fun u=>(M.out.trans (F.mono M.out.size)).setCell (by show w.heap.size<=w.heap.size+1;omega) _
   have a7:Hid (∀ u,zin w.heap.size R K (.slice va (zbx G).length vc) (U.setCell ⟨w.heap.size+1,0,none⟩ u)):=fun u=>by
    rw[I.out];have h1:=J.kept (w' := U.setCell ⟨w.heap.size+1,0,none⟩ u) (fun j h1 _ _=>yv _ _ _ _ (by show j≠w.heap.size+1;omega));exact⟨zaV h1.1 (by omega),fun i hi=>zaV (h1.2 i hi) (by omega)⟩
   clear F J l0 T I RF NO;generalize (zbx G).length=m at *
   go_wp2_with fail
   refine yw (v:=.tuple #[.agg #[.slice va m vc],.int .i64 0]) (by simp[results,Tryz.results160,go_sem,r1]) rfl ⟨_,rfl,a6.out _,K,a7.out _⟩
 ·have I:Hid (R=[]):=by show _=_;rw[RF.out,ya Z]
  have e1:(E == 0)=false:=beq_eq_false_iff_ne.2 Z;have e2:decide (E=0)=false:=yF Z;have r1:(w1.setCell ⟨w.heap.size+1,0,none⟩ (.slice none 0 0)).cell? ⟨w.heap.size+1,0,none⟩=some (.slice none 0 0):=World.cell?_setCell_same _ _ _ T;clear r0
  go_wp2_with fail
  refine yw (v:=.tuple #[.agg #[.slice none 0 0],.int .i64 E]) (by simp[results,Tryz.results160,go_sem,r1]) rfl ⟨_,rfl,M.out.setCell (by show w.heap.size<=w.heap.size+1;omega) _,_,(show zin _ R _ _ _ by rw[I.out];exact zin.nil _ _)⟩
structure Pt where
 o:Int
 t:Int
 m:Int
 cm:List (List Cl)
 s:Bool
 deriving DecidableEq
def zyb:Pt:=⟨0,0,0,[],false⟩
def pt(L:List Pt)(i:Nat):Pt:=L.getD i zyb
theorem zfH{L:List Pt}{i:Nat}(h:i<L.length):pt L i=L[i]:=zae L zyb h
theorem zmb{L M:List Pt}{i:Nat}(h:i<L.length):pt (L++M) i=pt L i:=by
 rw[zfH (by simp;omega),zfH h,List.getElem_append_left h]
theorem zuH(L:List Pt)(x:Pt):pt (L++[x]) L.length=x:=by
 rw[zfH (by simp)];simp
theorem zle{L:List Pt}{k i:Nat}{x:Pt}(h:i<L.length):pt (L.set k x) i=if k=i then x else pt L i:=by
 rw[zfH (by simpa using h),List.getElem_set];split
 ·rfl
 ·rw[zfH h]
def gr(C:List (List Cl))(i:Nat):List Cl:=C.getD i []
theorem zhO{C:List (List Cl)}{i:Nat}(h:i<C.length):gr C i=C[i]:=zae C [] h
theorem zou{C D:List (List Cl)}{i:Nat}(h:i<C.length):gr (C++D) i=gr C i:=by
 rw[zhO (by simp;omega),zhO h,List.getElem_append_left h]
theorem zot(C:List (List Cl))(g:List Cl):gr (C++[g]) C.length=g:=by
 rw[zhO (by simp)];simp
theorem zos(C:List (List Cl)){i:Nat}(h:i+1<C.length):gr (C.drop 1) i=gr C (i+1):=by
 rw[zhO (by simp;omega),zhO h];simp
def zbq:List (List Cl)->Int
 | []=>0
 | g :: l=>if zaA g=0 then zbq l else zaA g
def zdC(L:List Pt)(F:Int)(i:Nat):Int :=
 if ¬ (0<=(pt L i).o/\(pt L i).o<F)\/¬ (0<=(pt L i).m/\(pt L i).m<=(L.length:Int)-1) then 4
 else if (pt L i).m=i\/(pt L (pt L i).m.toNat).m≠i then 3
 else if ¬ (0<=(pt L i).t/\(pt L i).t<=1000) then 2
 else if 16<(pt L i).cm.length\/(0<(pt L i).cm.length/\(pt L i).s=true) then 1
 else zbq (pt L i).cm
def zpb(L:List Pt)(F:Int):Nat->Nat->Int
 | _,0=>0
 | i,n+1=>if zdC L F i=0 then zpb L F (i+1) n else zdC L F i
def zpa(L:List Pt)(F:Int)(i:Nat):Int:=zpb L F i (L.length-i)
def zbd(L:List Pt)(F:Int):Int:=if 12<L.length then 1 else zpa L F 0
theorem zuB{L:List Pt}{F:Int}{i:Nat}(h:i<L.length):zpa L F i=if zdC L F i=0 then zpa L F (i+1) else zdC L F i:=by
 unfold zpa;obtain⟨n,hn⟩:∃ n,L.length-i=n+1:=⟨L.length-i-1,by omega⟩;rw[hn,zpb,show L.length-(i+1)=n by omega]
theorem zxb{L:List Pt}{F:Int}{i:Nat}(h:L.length<=i):zpa L F i=0:=by
 unfold zpa;rw[show L.length-i=0 by omega,zpb]
structure zdu (L:List Pt) (F:Int):Prop where
 few:L.length<=12
 ok:∀ i,i<L.length->zdC L F i=0
theorem zlc{L:List Pt}{F:Int}:∀ n i,zpb L F i n=0↔∀ j,i<=j->j<i+n->zdC L F j=0
 | 0,i=>by simp[zpb];omega
 | n+1,i=>by
  rw[zpb];by_cases h:zdC L F i=0
  ·rw[yd h,zlc n (i+1)];constructor
   ·intro H j h1 D;by_cases e:j=i
    ·rw[e];exact h
    ·exact H j (by omega) (by omega)
   ·intro H j h1 D;exact H j (by omega) (by omega)
  ·rw[ya h];constructor
   ·intro H;exact absurd H h
   ·intro H;exact H i (yk _) (by omega)
theorem zcN{L:List Pt}{F:Int}:zbd L F=0↔zdu L F:=by
 unfold zbd zpa;by_cases h:12<L.length
 ·rw[yd h];exact⟨fun e=>by omega,fun R=>absurd R.few (by omega)⟩
 ·rw[ya h,zlc];exact⟨fun H=>⟨by omega,fun i hi=>H i (by omega) (by omega)⟩,fun R j _ D=>R.ok j (by omega)⟩
theorem zco:∀ {C:List (List Cl)},zbq C=0↔∀ i,i<C.length->Right (gr C i)
 | []=>by simp[zbq]
 | g :: l=>by
  rw[zbq];by_cases h:zaA g=0
  ·rw[yd h,zco];constructor
   ·intro H i hi
    cases i with
    | zero=>exact zbK.1 h
    | succ i=>exact H i (by simpa using hi)
   ·intro H i hi;exact H (i+1) (by simpa using hi)
  ·rw[ya h];constructor
   ·intro H;exact absurd H h
   ·intro H;exact zbK.2 (H 0 (by simp))
theorem zbm{L:List Pt}{F:Int}{i:Nat}:zdC L F i=0↔(0<=(pt L i).o/\(pt L i).o<F)/\(0<=(pt L i).m/\(pt L i).m<=(L.length:Int)-1)/\((pt L i).m≠i/\(pt L (pt L i).m.toNat).m=i)/\(0<=(pt L i).t/\(pt L i).t<=1000)/\((pt L i).cm.length<=16/\((pt L i).s=true->(pt L i).cm.length=0))/\zbq (pt L i).cm=0:=by
 unfold zdC;by_cases h1:¬ (0<=(pt L i).o/\(pt L i).o<F)\/¬ (0<=(pt L i).m/\(pt L i).m<=(L.length:Int)-1)
 ·rw[yd h1];exact⟨fun e=>by omega,fun⟨a,b,_⟩=>by rcases h1 with h|h;exact absurd a h;exact absurd b h⟩
 ·rw[ya h1];have J:0<=(pt L i).o/\(pt L i).o<F:=Classical.byContradiction fun h=>h1 (Or.inl h);have M:0<=(pt L i).m/\(pt L i).m<=(L.length:Int)-1:=Classical.byContradiction fun h=>h1 (Or.inr h);by_cases D:(pt L i).m=i\/(pt L (pt L i).m.toNat).m≠i
  ·rw[yd D];exact⟨fun e=>by omega,fun⟨_,_,c,_⟩=>by rcases D with h|h;exact absurd h c.1;exact absurd c.2 h⟩
  ·rw[ya D];have O:(pt L i).m≠i:=fun h=>D (Or.inl h);have T:(pt L (pt L i).m.toNat).m=i:=Classical.byContradiction fun h=>D (Or.inr h);by_cases I:0<=(pt L i).t/\(pt L i).t<=1000
   ·rw[ya (yJ I)];by_cases E:16<(pt L i).cm.length\/(0<(pt L i).cm.length/\(pt L i).s=true)
    ·rw[yd E];refine⟨fun e=>by omega,fun⟨_,_,_,_,e,_⟩=>?_⟩;rcases E with h|h
     ·omega
     ·have:=e.2 h.2;omega
    ·rw[ya E]
     have U:(pt L i).cm.length<=16:=by
      by_cases h:16<(pt L i).cm.length
      ·exact absurd (Or.inl h) E
      ·omega
     have Z:(pt L i).s=true->(pt L i).cm.length=0:=fun hs=>by
      by_cases h:0<(pt L i).cm.length
      ·exact absurd (Or.inr ⟨h,hs⟩) E
      ·omega
     exact⟨fun e=>⟨J,M,⟨O,T⟩,I,⟨U,Z⟩,e⟩,fun h=>h.2.2.2.2.2⟩
   ·rw[yd I];exact⟨fun e=>by omega,fun⟨_,_,_,d,_⟩=>absurd d I⟩
def zfF(L:List Pt)(F o t:Int):Int:=if zbd L F≠0 then zbd L F else if ¬ (0<=o/\o<F) then 4 else if ¬ (0<=t/\t<=1000) then 2 else if 10<L.length then 1 else 0
def zcz(L:List Pt)(o t:Int):List Pt:=L++[⟨o,t,(L.length:Int)+1,[],false⟩,⟨o,t,(L.length:Int),[],false⟩]
def znP(L:List Pt)(F o t:Int):List Pt:=if zfF L F o t=0 then zcz L o t else []
def zjw(L:List Pt)(F o t:Int):Int:=if zfF L F o t=0 then (L.length:Int) else 0
def zaU(L:List Pt)(F k o t:Int):Int:=if zbd L F≠0 then zbd L F else if ¬ (0<=k/\k<(L.length:Int)) then 4 else if (pt L k.toNat).o≠o\/(pt L k.toNat).t≠t then 7 else if (pt L k.toNat).s=true then 5 else 0
def zkz(L:List Pt)(F k o t D th:Int):Int:=if zaU L F k o t≠0 then zaU L F k o t else if ¬ (0<=D/\D<F) then 4 else if ¬ (0<=th/\th<=1000) then 2 else 0
def zhW(L:List Pt)(k D th:Int):List Pt:=L.set k.toNat { pt L k.toNat with o:=D,t:=th }
def zid(L:List Pt)(F k o t D th:Int):List Pt:=if zkz L F k o t D th=0 then zhW L k D th else []
def zkw(L:List Pt)(k:Int):Pt:=pt L (pt L k.toNat).m.toNat
def zib(L:List Pt)(F k o t:Int)(g:List Cl):Int:=if zaU L F k o t≠0 then zaU L F k o t else if zaA g≠0 then zaA g else if (zkw L k).s=true then 5 else if (zkw L k).cm.length=16 then 1 else 0
def ziH(L:List Pt)(k:Int)(g:List Cl):List Pt:=L.set (pt L k.toNat).m.toNat { zkw L k with cm:=(zkw L k).cm++[zbx g] }
def zif(L:List Pt)(F k o t:Int)(g:List Cl):List Pt:=if zib L F k o t g=0 then ziH L k g else []
def zfI(L:List Pt)(F k o t:Int):Int:=if zaU L F k o t≠0 then zaU L F k o t else if (pt L k.toNat).cm.length=0 then 8 else 0
def zia(L:List Pt)(k:Int):List Pt:=L.set k.toNat { pt L k.toNat with cm:=(pt L k.toNat).cm.drop 1 }
def zie(L:List Pt)(F k o t:Int):List Pt:=if zfI L F k o t=0 then zia L k else []
def zuK(L:List Pt)(F k o t:Int):List Cl:=if zfI L F k o t=0 then gr (pt L k.toNat).cm 0 else []
def zij(L:List Pt)(k:Int):List Pt:=L.set k.toNat { pt L k.toNat with s:=true,cm:=[] }
def zih(L:List Pt)(F k o t:Int):List Pt:=if zaU L F k o t=0 then zij L k else []
theorem zcs{L:List Pt}{F k o t:Int}(h:zaU L F k o t=0):zdu L F/\∃ q:Nat,k=q/\q<L.length/\(pt L q).o=o/\(pt L q).t=t/\(pt L q).s=false:=by
 unfold zaU at h;by_cases h1:zbd L F=0
 ·rw[ya (yJ h1)] at h;by_cases E:0<=k/\k<(L.length:Int)
  ·rw[ya (yJ E)] at h;obtain⟨q,rfl⟩:=Int.eq_ofNat_of_zero_le E.1;rw[yj] at h;by_cases D:(pt L q).o≠o\/(pt L q).t≠t
   ·rw[yd D] at h;cases h
   ·rw[ya D] at h
    cases hs:(pt L q).s with
    | true=>rw[yd hs] at h;cases h
    | false=>exact⟨zcN.1 h1,q,rfl,by omega,Classical.byContradiction fun e=>D (Or.inl e),Classical.byContradiction fun e=>D (Or.inr e),hs⟩
  ·rw[yd E] at h;cases h
 ·rw[yd h1] at h;exact absurd h h1
theorem zdu.mate{L:List Pt}{F:Int}(R:zdu L F){i:Nat}(h:i<L.length):∃ q:Nat,(pt L i).m=q/\q<L.length/\q≠i/\(pt L q).m=i:=by
 obtain⟨_,I,D,_⟩:=zbm.1 (R.ok i h);obtain⟨q,E⟩:=Int.eq_ofNat_of_zero_le I.1;rw[E,yj] at D;exact⟨q,E,by omega,fun e=>D.1 (by omega),D.2⟩
def goE(L:List Fr)(k o:Int):Int:=if zcy L k≠0 then zcy L k else if ¬ (0<=o/\o<=9) then 2 else if 1000<=(fr L k.toNat).t then 1 else 0
def goX(L:List Fr)(k o:Int)(i:Nat):Fr:=if (i:Int)=k then { fr L i with o:=o,t:=(fr L i).t+1 } else { fr L i with g:=(fr L i).g || inF L i k }
def goF(L:List Fr)(k o:Int):List Fr:=(List.range L.length).map (goX L k o)
theorem zhg(L:List Fr)(k o:Int):(goF L k o).length=L.length:=by unfold goF;simp
theorem zwk{L:List Fr}{k o:Int}{i:Nat}(h:i<L.length):fr (goF L k o) i=goX L k o i:=by
 rw[zgy (by rw[zhg];exact h)];unfold goF;simp
theorem ztA{L:List Fr}{k o:Int}(h:goE L k o=0):zcy L k=0/\(0<=o/\o<=9)/\(fr L k.toNat).t<1000:=by
 unfold goE at h;by_cases h1:zcy L k=0
 ·rw[ya (yJ h1)] at h;by_cases D:0<=o/\o<=9
  ·rw[ya (yJ D)] at h;by_cases E:1000<=(fr L k.toNat).t
   ·rw[yd E] at h;cases h
   ·exact⟨h1,D,by omega⟩
  ·rw[yd D] at h;cases h
 ·rw[yd h1] at h;exact absurd h h1
theorem zpN{L:List Fr}(R:zcr L){top:Int}:∀ (n:Nat) (k:Int),k<n->inF L k top=true->top<=k
 | 0,k,F,h=>by
  unfold inF at h;rw[zez (by omega)] at h;cases h
 | n+1,k,F,h=>by
  by_cases D:0<=k/\k<L.length
  ·obtain⟨i,rfl⟩:=Int.eq_ofNat_of_zero_le D.1;by_cases E:(i:Int)=top
   ·omega
   ·rw[zwv R (by omega) E] at h;have hl:=R.low (i:=i) (by omega);have:=zpN R n _ (by omega) h;omega
  ·unfold inF at h;rw[zez D] at h;cases h
theorem zAk{L:List Fr}(R:zcr L){k top:Int}(h:inF L k top=true):top<=k:=zpN R (k.toNat+1) k (by omega) h
theorem zgz{L:List Fr}{k:Nat}{o:Int}(h:k<L.length):fr (goF L k o) k={ fr L k with o:=o,t:=(fr L k).t+1 }:=by
 rw[zwk h];unfold goX;rw[yd rfl]
theorem zdK{L:List Fr}{k:Nat}{o:Int}{i:Nat}(h:i<L.length)(D:i≠k):fr (goF L k o) i={ fr L i with g:=(fr L i).g || inF L i k }:=by
 rw[zwk h];unfold goX;rw[ya (by omega)]
theorem zBj{L:List Fr}{k o:Int}{i:Nat}(h:i<L.length):(fr (goF L k o) i).p=(fr L i).p:=by
 rw[zwk h];unfold goX
 split <;> rfl
theorem zBc{L:List Fr}{k o:Int}{i:Nat}(h:i<L.length):(fr (goF L k o) i).m=(fr L i).m:=by
 rw[zwk h];unfold goX
 split <;> rfl
theorem zpK{L:List Fr}{k o:Int}(h:goE L k o=0):zcr (goF L k o):=by
 obtain⟨h1,O,T⟩:=ztA h;obtain⟨R,q,rfl,U,hg⟩:=zfv h1;rw[yj] at T;refine⟨by rw[zhg];exact R.few,fun i hi=>?_⟩;rw[zhg] at hi;obtain⟨a1,a2,a3⟩:=zdj.1 (R.ok i hi);rw[zdj];refine⟨?_,?_,fun h0=>?_⟩
 ·unfold zgO at a1 |-;rw[zBj hi];exact a1
 ·unfold zdU at a2 |-;rw[zBc hi];by_cases e:i=q
  ·subst e;rw[zgz hi];dsimp only;exact⟨O,a2.2.1,by omega⟩
  ·rw[zdK hi e];exact a2
 ·obtain⟨p,I,M,D⟩:=R.up hi h0;rw[zBj hi,I,yj];unfold zha;rw[zBc hi,zBc (by omega)];refine⟨D.1,?_⟩;by_cases e:i=q
  ·subst e;rw[zgz hi,zdK (by omega) (by omega)];dsimp only;right
   have E:(fr L p).g=false:=by
    rcases D.2 with hh|hh
    ·rw[hg] at hh;cases hh
    ·exact hh
   have F:inF L (p:Int) i=false:=by
    cases hc:inF L (p:Int) i with
    | false=>rfl
    | true=>exact absurd (zAk R (k:=(p:Int)) hc) (by omega)
   rw[E,F];rfl
  ·rw[zdK hi e];dsimp only;by_cases J:p=q
   ·subst J;left;rw[zwv R hi (by omega),I,ztI (by omega),Bool.or_true]
   ·rw[zdK (by omega) J,zwv R hi (by omega),I];dsimp only;rcases D.2 with hh|hh
    ·left;rw[hh,Bool.true_or]
    ·rw[hh]
     cases inF L (p:Int) q with
     | true=>left;rw[Bool.or_true]
     | false=>right;rfl
theorem zmc{w w1:World}{a:Option Addr}{n c:Nat}{p E:Int}(D:Below (w.heap.size+1+1+1) (((w.alloc (.cells #[.slice a n c] 43)).alloc (.cells #[.int .i64 p,.int .i64 E] 61)).alloc (.cells #[.slice none 0 0] 43)) w1) :
  w1.cell? ⟨w.heap.size,0,none⟩=some (.slice a n c)/\w1.cell? ⟨w.heap.size+1,0,none⟩=some (.int .i64 p)/\w1.cell? ⟨w.heap.size+1,1,none⟩=some (.int .i64 E)/\w1.cell? ⟨w.heap.size+1+1,0,none⟩=some (.slice none 0 0)/\(∀ o,w1.frozen? ⟨w.heap.size+1+1,o,none⟩=false):=by
 refine⟨?_,?_,?_,?_,fun o=>?_⟩
 all_goals first|exact(D.cell (by first|(simp;done)|(simp;omega))).trans (by go_simp)|exact(D.frozen (by first|(simp;done)|(simp;omega))).trans (by go_simp)
theorem zrP(a:Option Addr)(c:Nat)(S:List Nd)(p u E:Int)(w:World)(hN:S.length<=9223372036854775807)(I:Big S)(M:zai w a S)(J:zaZ S [(p,u)]=E)(F:E≠0) :
  Calls Tryz.prog 168 #[.agg #[.slice a S.length c],.agg #[.int .i64 p,.int .i64 u]] w fun e w' => e=.returned (.tuple #[.agg #[.slice none 0 0],.int .i64 E])/\Below w.heap.size w w' := by
 have d1:=fun(W:World) (ha:Option Addr) (hW:zai W a S) (Z:zau W ha [(p,u)])=>zdt a c S ha 1 [(p,u)] W hN I hW (by simp) Z;rw[J] at d1;have O:Hid _:=d1;have U:Hid (zai w a S):=M;clear M d1 J I;have hz:(E == 0)=false:=by simp[F]
 generalize S.length=n at *
 go_enter Tryz.func168,Tryz.ntmps168
 go_wp2_with (go_at_call 185;refine(O.out _ _ (U.out.below (zaH _ _ _ _ _)) (zft _ _ _ _ (by go_simp) (by go_simp))).mono ?_;rintro e w1 ⟨rfl,D⟩;simp only[ys] at D;obtain⟨l0,l1,l2,l3,l4⟩:=zmc (((yr _ _).alloc (by simp) _).trans (D.mono (by omega)));have T:Hid _:=D;clear D)
 refine yw (v:=.tuple #[.agg #[.slice none 0 0],.int .i64 E]) (by simp[results,Tryz.results168,go_sem,l3]) rfl ⟨rfl,?_⟩;exact((zaH _ _ _ _ _).trans (T.out.mono (by omega))).setCell (by simp;omega) _
theorem zpf(a:Option Addr)(c:Nat)(S:List Nd)(D:Nat)(u:Int)(w:World)(hN:S.length<=9223372036854775807)(M:Big S)(T:zai w a S)(O:zaZ S [((D:Int),u)]=0)(hch:D<S.length)(Z:(nd S D).p = -1) :
  Calls Tryz.prog 168 #[.agg #[.slice a S.length c],.agg #[.int .i64 D,.int .i64 u]] w fun e w' => e=.returned (.tuple #[.agg #[.slice none 0 0],.int .i64 6])/\Below w.heap.size w w' := by
 have d1:=fun(W:World) (ha:Option Addr) (I:zai W a S) (hH:zau W ha [((D:Int),u)])=>zdt a c S ha 1 [((D:Int),u)] W hN M I (by simp) hH;rw[O] at d1;have D1:Hid _:=d1;have J:Hid (zai w a S):=T;have U:(D:Int)<(S.length:Int):=by omega
 have QP:Hid (∀ W,zai W a S->∃ b o,a=some ⟨b,o,none⟩/\W.cell? ⟨b,o+D*8+4,none⟩=some (.int .i64 (-1))):=fun W I=>by
  obtain⟨b,o,e,_,_,_,_,c4,_⟩:=I D hch;exact⟨b,o,e,by rw[c4,Z]⟩
 clear T d1 O M Z;generalize S.length=n at *
 go_enter Tryz.func168,Tryz.ntmps168
 go_wp2_with (go_at_call 185;refine(D1.out _ _ (J.out.below (zaH _ _ _ _ _)) (zft _ _ _ _ (by go_simp) (by go_simp))).mono ?_;rintro e w1 ⟨rfl,E⟩;simp only[ys] at E;obtain⟨l0,l1,l2,l3,l4⟩:=zmc (((yr _ _).alloc (by simp) _).trans (E.mono (by omega)));have F:=(zaH _ _ _ _ _).trans (E.mono (by omega));obtain⟨b,o,rfl,qp⟩:=QP.out _ (J.out.below F);have HB:Hid _:=F;have hq:=ye _ _ qp;clear E F)
 refine yw (v:=.tuple #[.agg #[.slice none 0 0],.int .i64 6]) (by simp[results,Tryz.results168,go_sem,l3]) rfl ⟨rfl,?_⟩;exact HB.out.setCell (by simp;omega) _
theorem zuU(a:Option Addr)(c:Nat)(S:List Nd)(E pa:Nat)(u:Int)(w:World)(hN:S.length<=24)(hB:Big S)(hS:zai w a S)(hE:zaZ S [((E:Int),u)]=0)(hch:E<S.length)(hpa:pa<S.length)(b1:pa≠E)(hp:(nd S E).p=pa)(hK:∀ i,i<S.length->(nd S i).ks.length<=1000) :
  Calls Tryz.prog 168 #[.agg #[.slice a S.length c],.agg #[.int .i64 E,.int .i64 u]] w fun e w' => ∃ g,e=.returned (.tuple #[.agg #[.slice (some ⟨g,0,none⟩) S.length S.length],.int .i64 0])/\Below w.heap.size w w' /\ w.heap.size<=g/\∀ w3:World,(∀ b,g<=b->w3.heap[b]?=w'.heap[b]?)->zai w3 (some ⟨g,0,none⟩) (zbH S pa E):=by
 have d1:=fun(W:World) (ha:Option Addr) (hW:zai W a S) (hH:zau W ha [((E:Int),u)])=>zdt a c S ha 1 [((E:Int),u)] W (by omega) hB hW (by simp) hH;rw[hE] at d1;have D1:Hid _:=d1;have HS:Hid (zai w a S):=hS;have b3:(E:Int)<(S.length:Int):=by omega
 have QP:Hid (∀ W,zai W a S->∃ b o,a=some ⟨b,o,none⟩/\W.cell? ⟨b,o+E*8+4,none⟩=some (.int .i64 (pa:Int))):=fun W hW=>by
  obtain⟨b,o,e,_,_,_,_,c4,_⟩:=hW E hch;exact⟨b,o,e,by rw[c4,hp]⟩
 have dc:=fun(W:World) (hW:zai W a S)=>copy_any a c S W hN hK hW;have DC:Hid _:=dc;have dl:=fun(B g c:Nat) (kb kc:Nat->Nat) (W:World) (hO:Own W B g S kb kc S.length)=>zng B g c S kb kc pa E W hO hpa hch b1 hp;have DL:Hid _:=dl
 have OC:Hid (∀ (wr:World) (B g:Nat) (kb kc:Nat->Nat),Own wr B g S kb kc S.length->B<=g/\g<wr.heap.size/\g<kb pa/\kb pa<wr.heap.size):=fun wr B g kb kc h=>by
  obtain⟨hB,F,hF,a9,hg,_⟩:=h;exact⟨hB,hF.lt,hg pa hpa,(a9 pa hpa).row⟩
 clear hS d1 hE hB hp dc dl hK;generalize hn:S.length=n at *;have HN:Hid _:=hn;clear hn
 go_enter Tryz.func168,Tryz.ntmps168
 go_wp2_with (go_at_call 185;refine(D1.out _ _ (HS.out.below (zaH _ _ _ _ _)) (zft _ _ _ _ (by go_simp) (by go_simp))).mono ?_;rintro e w1 ⟨rfl,I⟩;simp only[ys] at I;have M:Hid (Below (w.heap.size+1+1+1) (((w.alloc (.cells #[.slice a n c] 43)).alloc (.cells #[.int .i64 (E:Int),.int .i64 u] 61)).alloc (.cells #[.slice none 0 0] 43)) w1):=((yr _ _).alloc (by simp) _).trans (I.mono (by omega));obtain⟨l0,l1,l2,U,l4⟩:=zmc M.out;have T:=(zaH _ _ _ _ _).trans (I.mono (by omega));obtain⟨b,o,ea,qp⟩:=QP.out _ (HS.out.below T);have HB:Hid _:=T;have hq:=ye _ _ qp;have b8:=ye _ _ l0;have c6:=ye _ _ l1;have c7:=ye _ _ U;subst ea;clear I T)
 refine(DC.out _ (HS.out.below HB.out)).mono ?_;rintro e Z ⟨g,kb,kc,rfl,J,O⟩;obtain⟨b4,b6,b5,b7⟩:=OC.out _ _ _ _ _ O;have c9:=J.size;have H7:Hid _:=M.out.trans (J.mono (by have:=M.out.size;simp at this;omega));have a8:Hid (Own Z w1.heap.size g S kb kc n):=O;have a5:Hid (Below w.heap.size w Z):=HB.out.trans (J.mono HB.out.size);clear l0 l1 l2 U l4 J O;obtain⟨l0,l1,l2,U,l4⟩:=zmc H7.out;have L1:=zcS l1;have L3:=zcS U;have c8:=ye _ _ l0;have b0:=ye _ _ U
 go_wp2_with fail
 refine(DL.out _ g n kb kc _ (Own.below a8.out ((yr _ _).alloc (yk _) _))).mono ?_;rintro e w9 ⟨rfl,D,a6⟩;have b9:=(D.cell (p:=⟨Z.heap.size,0,none⟩) (by simp) (by show ¬ (Z.heap.size=g\/Z.heap.size=kb pa);omega)).trans (show _=some (Value.slice (some ⟨g,0,none⟩) n n) by go_simp);have r9:=(D.cell (p:=⟨w.heap.size+1+1,0,none⟩) (by simp;omega) (by show ¬ (w.heap.size+1+1=g\/w.heap.size+1+1=kb pa);omega)).trans (L3 _);have f9:=fun o=>(D.frozen (p:=⟨w.heap.size+1+1,o,none⟩) (by simp;omega) (by show ¬ (w.heap.size+1+1=g\/w.heap.size+1+1=kb pa);omega)).trans ((((yr _ Z).alloc (yk _) (.cells #[.slice (some ⟨g,0,none⟩) n n] 43)).frozen (by exact b0)).trans (l4 o));have a7:Hid (Below w.heap.size w w9):=(a5.out.alloc a5.out.size _).trans (D.below (by simp;omega) (fun k hk=>by rcases hk with hk|hk <;> omega));have NS:Hid (∀ v (w3:World),(∀ b,g<=b->w3.heap[b]?=(w9.setCell ⟨w.heap.size+1+1,0,none⟩ v).heap[b]?)->zai w3 (some ⟨g,0,none⟩) (zbH S pa E)):=fun v w3 b2=>Own.up a6 _ (fun b hb=>(b2 b hb).trans (yv _ _ _ _ (by show b≠w.heap.size+1+1;omega)));clear a6 D l0 l1 l2 U l4 L1 L3
 go_wp2
 refine yw (v:=.tuple #[.agg #[.slice (some ⟨g,0,none⟩) n n],.int .i64 0]) (by simp[results,Tryz.results168,go_sem,r9]) rfl ⟨g,rfl,a7.out.setCell (by simp;omega) _,by omega,NS.out _⟩
def zkf(w:World)(a:Option Addr)(C:List (List Cl)):Prop :=
 ∀ i,i<C.length->∃ b o ga gc,a=some ⟨b,o,none⟩/\w.cell? ⟨b,o+i,none⟩=some (.slice ga (gr C i).length gc)/\zaI w ga (gr C i)
theorem zkf.below{w w' : World}{a:Option Addr}{C:List (List Cl)}(h:zkf w a C)(D:Below w.heap.size w w'):zkf w' a C:=fun i hi=>by
 obtain⟨b,o,ga,gc,e,h1,E⟩:=h i hi;exact⟨b,o,ga,gc,e,zab h1 D,E.below D⟩
theorem zwn(w:World):zkf w none []:=fun i hi=>absurd hi (yx _)
def zzt(C:List (List Cl)):Prop:=∀ i,i<C.length->(gr C i).length<=9223372036854775807/\zkb (gr C i)
def zzz(w:World)(a:Option Addr)(c:Nat)(C:List (List Cl)):Prop:=((a=none->c=0)/\C.length<=c/\c<=9223372036854775807)/\zkf w a C
theorem zzz.below{w w' : World}{a:Option Addr}{c:Nat}{C:List (List Cl)}(h:zzz w a c C)(D:Below w.heap.size w w'):zzz w' a c C:=⟨h.1,h.2.below D⟩
def zzB(w:World)(b o:Nat)(x:Pt):Prop :=
 w.cell? ⟨b,o,none⟩=some (.int .i64 x.o)/\w.cell? ⟨b,o+1,none⟩=some (.int .i64 x.t)/\w.cell? ⟨b,o+2,none⟩=some (.int .i64 x.m)/\∃ D E,w.cell? ⟨b,o+3,none⟩=some (.slice D x.cm.length E)/\zzz w D E x.cm/\w.cell? ⟨b,o+4,none⟩=some (.bool x.s)
theorem zzB.below{w w' : World}{b o:Nat}{x:Pt}(h:zzB w b o x)(D:Below w.heap.size w w'):zzB w' b o x:=by
 obtain⟨c0,c1,c2,E,F,c3,hg,c4⟩:=h;exact⟨zab c0 D,zab c1 D,zab c2 D,E,F,zab c3 D,hg.below D,zab c4 D⟩
def zdH(w:World)(a:Option Addr)(L:List Pt):Prop :=
 ∀ i,i<L.length->∃ b o,a=some ⟨b,o,none⟩/\zzB w b (o+i*5) (pt L i)
theorem zdH.below{w w' : World}{a:Option Addr}{L:List Pt}(h:zdH w a L)(D:Below w.heap.size w w'):zdH w' a L:=fun i hi=>by
 obtain⟨b,o,e,hn⟩:=h i hi;exact⟨b,o,e,hn.below D⟩
theorem zxh(w:World):zdH w none []:=fun i hi=>absurd hi (yx _)
def zsm(L:List Pt):Prop:=∀ i,i<L.length->(pt L i).cm.length<=9223372036854775807/\zzt (pt L i).cm
theorem zov{C:List (List Cl)}{j:Nat}(h:j<C.length):zbq (C.drop j)=if zaA (gr C j)=0 then zbq (C.drop (j+1)) else zaA (gr C j):=by
 rw[List.drop_eq_getElem_cons h,zbq,zhO h]
theorem zqY(C:List (List Cl)):zbq (C.drop C.length)=0:=by
 rw[List.drop_length];rfl
def zqA(X:Nat->Prop)(w:World)(a:Option Addr)(G:List Cl):Prop:=∀ w', zar X w w' -> zaI w' a G
theorem zqA.off{X:Nat->Prop}{w w' : World}{a:Option Addr}{G:List Cl}(h:zqA X w a G)(F:zar X w w'):zqA X w' a G:=fun D E=>h D (F.trans E)
end Go.Proofs.YtcbcpomacdngmaaGreat
