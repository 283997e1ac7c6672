/-
  x
-/
import Derived.Test.YtcbcpomacdngmaaGreatM20
namespace Go.Proofs.YtcbcpomacdngmaaGreat
set_option maxRecDepth 100000
set_option maxHeartbeats 4000000
set_option linter.unusedVariables false
open Go.RowKit Go.ChangeShapes Go.WideShapes
theorem zhs{m:Nat}:∀ {l:List Cl},cellsE m l=0↔∀ x ∈ l,zeX m x=0
 | []=>by simp[cellsE]
 | x :: l=>by
  rw[cellsE];by_cases h:zeX m x=0
  ·rw[yb h,zhs];simp[h]
  ·rw[ya h];simp[h]
theorem zhp{m:Nat}{x:Cl}(h:zeX m x=0):(-1000000<=x.n/\x.n<=1000000)/\x.ks.length<=8/\∀ k ∈ x.ks,∃ q:Nat,k=q/\q<m:=by
 unfold zeX at h
 split at h
 ·omega
 ·rename_i h1
  split at h
  ·omega
  ·rename_i I
   split at h
   ·omega
   ·rename_i D;refine⟨by omega,by omega,fun k F=>?_⟩;simp only[List.any_eq_true,not_exists,not_and] at D;have E:=D k F;simp only[Bool.not_eq_true', decide_eq_false_iff_not,Decidable.not_not] at E;exact⟨k.toNat,by omega,by omega⟩
theorem zxK{m:Nat}{x:Cl}(h1:-1000000<=x.n/\x.n<=1000000)(F:x.ks.length<=8)(D:∀ k ∈ x.ks,∃ q:Nat,k=q/\q<m):zeX m x=0:=by
 unfold zeX;rw[ya (by omega),ya (by omega),ya];simp only[List.any_eq_true,not_exists,not_and];intro k E;obtain⟨q,e,I⟩:=D k E;simp only[Bool.not_eq_true', decide_eq_false_iff_not,Decidable.not_not];omega
structure Right (G:List Cl):Prop where
 few:G.length<=24
 range:∀ i,i<G.length->-1000000<=(cl G i).n/\(cl G i).n<=1000000
 kids8:∀ i,i<G.length->(cl G i).ks.length<=8
 kids:zdG G
theorem zbx{G:List Cl}:zaz G=0↔Right G:=by
 unfold zaz;constructor
 ·intro h
  split at h
  ·omega
  ·rename_i hl;have h1:=zhs.1 h;have D:∀ i,i<G.length->zeX G.length (cl G i)=0:=fun i hi=>h1 _ (by rw[zco hi];exact List.getElem_mem hi);exact⟨by omega,fun i hi=>(zhp (D i hi)).1,fun i hi=>(zhp (D i hi)).2.1,fun i hi=>(zhp (D i hi)).2.2⟩
 ·intro h;rw[ya (by have:=h.few;omega),zhs];intro x E;obtain⟨i,hi,rfl⟩:=List.getElem_of_mem E;have:=zxK (m:=G.length) (h.range i hi) (h.kids8 i hi) (h.kids i hi)
  rwa [zco hi] at this
theorem Right.copy{G:List Cl}(h:Right G):Right (zbw G):=by
 by_cases h0:G.length=0
 ·rw[zhu h0];exact⟨by simp,(fun i hi=>by cases hi),(fun i hi=>by cases hi),(fun i hi=>by cases hi)⟩
 ·have h0:0<G.length:=by omega
  have hl:=zfb h0;have F:=zun h.kids h0
  have E:∀ i,i<(zbw G).length->∃ q:Nat,q<G.length/\cl (zbw G) i=zqk G (reach G) (q:Int):=fun i hi=>by
   rw[hl] at hi;obtain⟨q,e,D⟩:=(zii h.kids h0).2 ((reach G).getD i 0) (by rw[zae _ _ hi];exact List.getElem_mem hi);exact⟨q,D,by rw[zlr h0 hi,e]⟩
  refine⟨by have:=h.few;omega,fun i hi=>?_,fun i hi=>?_,zqo h.kids⟩
  ·obtain⟨q,D,e⟩:=E i hi;rw[e];have:=h.range q D;simpa [zqk] using this
  ·obtain⟨q,D,e⟩:=E i hi;rw[e];have:=h.kids8 q D;simpa [zqk] using this
theorem Right.big{G:List Cl}(h:Right G):zlb G:=fun i hi=>by have:=h.kids8 i hi;omega
def zzc(G:List Cl):List Cl:=if zaz G=0 then zbw G else []
theorem zhX.nil(B:Nat)(w:World):zhX B [] (fun _=>.slice none 0 0) (.slice none 0 0) w:=⟨World.ownsRow_nil _ _ _ _,fun i hi=>by cases hi⟩
theorem zsO(a:Option Addr)(c:Nat)(G:List Cl)(w:World)(hN:G.length<=9223372036854775807)(hB:zlb G)(hS:zaF w a G) :
  yL 160 #[.agg #[.slice a G.length c]] w fun e w' => ∃ v,e=.returned (.tuple #[.agg #[v],.int .i64 (zaz G)])/\Below w.heap.size w w' /\ ∃ K,zhX w.heap.size (zzc G) K v w' := by
 have D:Hid (∀ W,zaF W a G->Calls _ _ _ _ _):=fun W hW=>zfH a c G W hN hB hW;have HS:Hid (zaF w a G):=hS;have RF:Hid (zzc G=if zaz G=0 then zbw G else []):=(rfl:zzc G=_);have CF:Hid (zaz G=0->0<G.length->∀ W,zaF W a G->Calls _ _ _ _ _):=fun h1 h2 W hW=>zmy a c G W (zbx.1 h1).kids h2 (zbx.1 h1).few (zbx.1 h1).kids8 hW;have NO:Hid (G.length=0->zbw G=[]):=zhu;clear hS hB;generalize zzc G=R at *;generalize zaz G=E at *;obtain⟨n,hn⟩:∃ n,G.length=n:=⟨_,rfl⟩;rw[hn] at hN D CF NO |-;clear hn;have O:(((w.alloc (.cells #[.slice a n c] 47)).alloc (.cells #[.slice none 0 0] 47)).frozen? ⟨w.heap.size+1,0,none⟩=false):=by go_simp
 go_enter Tryz.func160,Tryz.ntmps160
 go_wp2_with fail
 refine ye (D.out _ (HS.out.below (zam _ _ _))) ?_;rintro e w1 ⟨rfl,F⟩;have l0:=zab (zaM w #[.slice a n c] 47 0 (.cells #[.slice none 0 0] 47) rfl) F;have T:=zab (zaN w #[.slice none 0 0] 47 0 (.cells #[.slice a n c] 47) rfl) F;have f1:=(F.frozen (p:=⟨w.heap.size+1,0,none⟩) (by simp)).trans O;have a9:=F.size;simp only[yr] at a9;have q1:w.heap.size+1<w1.heap.size:=by omega
 have M:Hid (Below w.heap.size w w1):=(zam w _ _).trans (F.mono (by simp;omega));have r0:∀ u v,(w1.setCell ⟨w.heap.size+1,0,none⟩ u).cell? ⟨w.heap.size+1,0,none⟩=some v↔u=v:=fun u v=>by rw[World.cell?_setCell_same _ _ _ T];simp
 clear F D O;by_cases Z:E=0
 ·subst Z;have I:Hid (R=zbw G):=by show _=_;rw[RF.out,yb rfl]
  by_cases h0:n=0
  ·have a8:Hid (R=[]):=I.out.trans (NO.out h0);subst h0;have r1:(w1.setCell ⟨w.heap.size+1,0,none⟩ (.slice none 0 0)).cell? ⟨w.heap.size+1,0,none⟩=some (.slice none 0 0):=World.cell?_setCell_same _ _ _ T;clear r0
   go_wp2_with fail
   refine yv (v:=.tuple #[.agg #[.slice none 0 0],.int .i64 0]) (by simp[results,Tryz.results160,go_sem,r1]) rfl ⟨_,rfl,M.out.setCell (by show w.heap.size<=w.heap.size+1;omega) _,_,(show zhX _ R _ _ _ by rw[a8.out];exact zhX.nil _ _)⟩
  ·have b0:decide ((n:Int)=0)=false:=yE (by omega);have b1:((n:Int) == 0)=false:=(by simp;omega);have a5:Hid _:=CF.out rfl (by omega);clear r0
   go_wp2_with fail
   refine ye (a5.out _ (HS.out.below M.out)) ?_;rintro e U ⟨v,K,rfl,F,J⟩;obtain⟨va,vc,hv,_⟩:=J.cls;subst hv;have m1:=zab T F;have g1:=(F.frozen (p:=⟨w.heap.size+1,0,none⟩) (by exact q1)).trans f1;have q2:w.heap.size+1<U.heap.size:=yx q1 F.size;have r1:∀ u,(U.setCell ⟨w.heap.size+1,0,none⟩ u).cell? ⟨w.heap.size+1,0,none⟩=some u:=fun u=>World.cell?_setCell_same _ _ _ m1;have a6:Hid (∀ u,Below w.heap.size w (U.setCell ⟨w.heap.size+1,0,none⟩ u)):=fun u=>(M.out.trans (F.mono M.out.size)).setCell (by show w.heap.size<=w.heap.size+1;omega) _
   have a7:Hid (∀ u,zhX w.heap.size R K (.slice va (zbw G).length vc) (U.setCell ⟨w.heap.size+1,0,none⟩ u)):=fun u=>by
    rw[I.out];have h1:=J.kept (w' := U.setCell ⟨w.heap.size+1,0,none⟩ u) (fun j h1 _ _=>ys _ _ _ _ (by show j≠w.heap.size+1;omega));exact⟨zaV h1.1 (by omega),fun i hi=>zaV (h1.2 i hi) (by omega)⟩
   clear F J l0 T I RF NO;generalize (zbw G).length=m at *
   go_wp2_with fail
   refine yv (v:=.tuple #[.agg #[.slice va m vc],.int .i64 0]) (by simp[results,Tryz.results160,go_sem,r1]) rfl ⟨_,rfl,a6.out _,K,a7.out _⟩
 ·have I:Hid (R=[]):=by show _=_;rw[RF.out,ya Z]
  have e1:(E == 0)=false:=beq_eq_false_iff_ne.2 Z;have e2:decide (E=0)=false:=yE Z;have r1:(w1.setCell ⟨w.heap.size+1,0,none⟩ (.slice none 0 0)).cell? ⟨w.heap.size+1,0,none⟩=some (.slice none 0 0):=World.cell?_setCell_same _ _ _ T;clear r0
  go_wp2_with fail
  refine yv (v:=.tuple #[.agg #[.slice none 0 0],.int .i64 E]) (by simp[results,Tryz.results160,go_sem,r1]) rfl ⟨_,rfl,M.out.setCell (by show w.heap.size<=w.heap.size+1;omega) _,_,(show zhX _ R _ _ _ by rw[I.out];exact zhX.nil _ _)⟩
structure Pt where
 o:Int
 t:Int
 m:Int
 cm:List (List Cl)
 s:Bool
 deriving DecidableEq
def zxz:Pt:=⟨0,0,0,[],false⟩
def pt(L:List Pt)(i:Nat):Pt:=L.getD i zxz
theorem zft{L:List Pt}{i:Nat}(h:i<L.length):pt L i=L[i]:=zae L zxz h
theorem zlP{L M:List Pt}{i:Nat}(h:i<L.length):pt (L++M) i=pt L i:=by
 rw[zft (by simp;omega),zft h,List.getElem_append_left h]
theorem zua(L:List Pt)(x:Pt):pt (L++[x]) L.length=x:=by
 rw[zft (by simp)];simp
theorem zkS{L:List Pt}{k i:Nat}{x:Pt}(h:i<L.length):pt (L.set k x) i=if k=i then x else pt L i:=by
 rw[zft (by simpa using h),List.getElem_set];split
 ·rfl
 ·rw[zft h]
def gr(C:List (List Cl))(i:Nat):List Cl:=C.getD i []
theorem zhA{C:List (List Cl)}{i:Nat}(h:i<C.length):gr C i=C[i]:=zae C [] h
theorem zob{C D:List (List Cl)}{i:Nat}(h:i<C.length):gr (C++D) i=gr C i:=by
 rw[zhA (by simp;omega),zhA h,List.getElem_append_left h]
theorem zoa(C:List (List Cl))(g:List Cl):gr (C++[g]) C.length=g:=by
 rw[zhA (by simp)];simp
theorem znZ(C:List (List Cl)){i:Nat}(h:i+1<C.length):gr (C.drop 1) i=gr C (i+1):=by
 rw[zhA (by simp;omega),zhA h];simp
def zbp:List (List Cl)->Int
 | []=>0
 | g :: l=>if zaz g=0 then zbp l else zaz g
def zdA(L:List Pt)(F:Int)(i:Nat):Int :=
 if ¬ (0<=(pt L i).o/\(pt L i).o<F)\/¬ (0<=(pt L i).m/\(pt L i).m<=(L.length:Int)-1) then 4
 else if (pt L i).m=i\/(pt L (pt L i).m.toNat).m≠i then 3
 else if ¬ (0<=(pt L i).t/\(pt L i).t<=1000) then 2
 else if 16<(pt L i).cm.length\/(0<(pt L i).cm.length/\(pt L i).s=true) then 1
 else zbp (pt L i).cm
def zoH(L:List Pt)(F:Int):Nat->Nat->Int
 | _,0=>0
 | i,n+1=>if zdA L F i=0 then zoH L F (i+1) n else zdA L F i
def zoG(L:List Pt)(F:Int)(i:Nat):Int:=zoH L F i (L.length-i)
def zbf(L:List Pt)(F:Int):Int:=if 12<L.length then 1 else zoG L F 0
theorem ztT{L:List Pt}{F:Int}{i:Nat}(h:i<L.length):zoG L F i=if zdA L F i=0 then zoG L F (i+1) else zdA L F i:=by
 unfold zoG;obtain⟨n,hn⟩:∃ n,L.length-i=n+1:=⟨L.length-i-1,by omega⟩;rw[hn,zoH,show L.length-(i+1)=n by omega]
theorem zwy{L:List Pt}{F:Int}{i:Nat}(h:L.length<=i):zoG L F i=0:=by
 unfold zoG;rw[show L.length-i=0 by omega,zoH]
structure zds (L:List Pt) (F:Int):Prop where
 few:L.length<=12
 ok:∀ i,i<L.length->zdA L F i=0
theorem zkP{L:List Pt}{F:Int}:∀ n i,zoH L F i n=0↔∀ j,i<=j->j<i+n->zdA L F j=0
 | 0,i=>by simp[zoH];omega
 | n+1,i=>by
  rw[zoH];by_cases h:zdA L F i=0
  ·rw[yb h,zkP n (i+1)];constructor
   ·intro H j h1 D;by_cases e:j=i
    ·rw[e];exact h
    ·exact H j (by omega) (by omega)
   ·intro H j h1 D;exact H j (by omega) (by omega)
  ·rw[ya h];constructor
   ·intro H;exact absurd H h
   ·intro H;exact H i (yj _) (by omega)
theorem zcH{L:List Pt}{F:Int}:zbf L F=0↔zds L F:=by
 unfold zbf zoG;by_cases h:12<L.length
 ·rw[yb h];exact⟨fun e=>by omega,fun R=>absurd R.few (by omega)⟩
 ·rw[ya h,zkP];exact⟨fun H=>⟨by omega,fun i hi=>H i (by omega) (by omega)⟩,fun R j _ D=>R.ok j (by omega)⟩
theorem zcj:∀ {C:List (List Cl)},zbp C=0↔∀ i,i<C.length->Right (gr C i)
 | []=>by simp[zbp]
 | g :: l=>by
  rw[zbp];by_cases h:zaz g=0
  ·rw[yb h,zcj];constructor
   ·intro H i hi
    cases i with
    | zero=>exact zbx.1 h
    | succ i=>exact H i (by simpa using hi)
   ·intro H i hi;exact H (i+1) (by simpa using hi)
  ·rw[ya h];constructor
   ·intro H;exact absurd H h
   ·intro H;exact zbx.2 (H 0 (by simp))
theorem zbm{L:List Pt}{F:Int}{i:Nat}:zdA L F i=0↔(0<=(pt L i).o/\(pt L i).o<F)/\(0<=(pt L i).m/\(pt L i).m<=(L.length:Int)-1)/\((pt L i).m≠i/\(pt L (pt L i).m.toNat).m=i)/\(0<=(pt L i).t/\(pt L i).t<=1000)/\((pt L i).cm.length<=16/\((pt L i).s=true->(pt L i).cm.length=0))/\zbp (pt L i).cm=0:=by
 unfold zdA;by_cases h1:¬ (0<=(pt L i).o/\(pt L i).o<F)\/¬ (0<=(pt L i).m/\(pt L i).m<=(L.length:Int)-1)
 ·rw[yb h1];exact⟨fun e=>by omega,fun⟨a,b,_⟩=>by rcases h1 with h|h;exact absurd a h;exact absurd b h⟩
 ·rw[ya h1];have J:0<=(pt L i).o/\(pt L i).o<F:=Classical.byContradiction fun h=>h1 (Or.inl h);have M:0<=(pt L i).m/\(pt L i).m<=(L.length:Int)-1:=Classical.byContradiction fun h=>h1 (Or.inr h);by_cases D:(pt L i).m=i\/(pt L (pt L i).m.toNat).m≠i
  ·rw[yb D];exact⟨fun e=>by omega,fun⟨_,_,c,_⟩=>by rcases D with h|h;exact absurd h c.1;exact absurd c.2 h⟩
  ·rw[ya D];have O:(pt L i).m≠i:=fun h=>D (Or.inl h);have T:(pt L (pt L i).m.toNat).m=i:=Classical.byContradiction fun h=>D (Or.inr h);by_cases I:0<=(pt L i).t/\(pt L i).t<=1000
   ·rw[ya (yI I)];by_cases E:16<(pt L i).cm.length\/(0<(pt L i).cm.length/\(pt L i).s=true)
    ·rw[yb E];refine⟨fun e=>by omega,fun⟨_,_,_,_,e,_⟩=>?_⟩;rcases E with h|h
     ·omega
     ·have:=e.2 h.2;omega
    ·rw[ya E]
     have U:(pt L i).cm.length<=16:=by
      by_cases h:16<(pt L i).cm.length
      ·exact absurd (Or.inl h) E
      ·omega
     have Z:(pt L i).s=true->(pt L i).cm.length=0:=fun hs=>by
      by_cases h:0<(pt L i).cm.length
      ·exact absurd (Or.inr ⟨h,hs⟩) E
      ·omega
     exact⟨fun e=>⟨J,M,⟨O,T⟩,I,⟨U,Z⟩,e⟩,fun h=>h.2.2.2.2.2⟩
   ·rw[yb I];exact⟨fun e=>by omega,fun⟨_,_,_,d,_⟩=>absurd d I⟩
def zfq(L:List Pt)(F o t:Int):Int:=if zbf L F≠0 then zbf L F else if ¬ (0<=o/\o<F) then 4 else if ¬ (0<=t/\t<=1000) then 2 else if 10<L.length then 1 else 0
def zct(L:List Pt)(o t:Int):List Pt:=L++[⟨o,t,(L.length:Int)+1,[],false⟩,⟨o,t,(L.length:Int),[],false⟩]
def znA(L:List Pt)(F o t:Int):List Pt:=if zfq L F o t=0 then zct L o t else []
def zjk(L:List Pt)(F o t:Int):Int:=if zfq L F o t=0 then (L.length:Int) else 0
def zaU(L:List Pt)(F k o t:Int):Int:=if zbf L F≠0 then zbf L F else if ¬ (0<=k/\k<(L.length:Int)) then 4 else if (pt L k.toNat).o≠o\/(pt L k.toNat).t≠t then 7 else if (pt L k.toNat).s=true then 5 else 0
def zkm(L:List Pt)(F k o t D th:Int):Int:=if zaU L F k o t≠0 then zaU L F k o t else if ¬ (0<=D/\D<F) then 4 else if ¬ (0<=th/\th<=1000) then 2 else 0
def zhG(L:List Pt)(k D th:Int):List Pt:=L.set k.toNat { pt L k.toNat with o:=D,t:=th }
def zhN(L:List Pt)(F k o t D th:Int):List Pt:=if zkm L F k o t D th=0 then zhG L k D th else []
def zkj(L:List Pt)(k:Int):Pt:=pt L (pt L k.toNat).m.toNat
def zhL(L:List Pt)(F k o t:Int)(g:List Cl):Int:=if zaU L F k o t≠0 then zaU L F k o t else if zaz g≠0 then zaz g else if (zkj L k).s=true then 5 else if (zkj L k).cm.length=16 then 1 else 0
def ziv(L:List Pt)(k:Int)(g:List Cl):List Pt:=L.set (pt L k.toNat).m.toNat { zkj L k with cm:=(zkj L k).cm++[zbw g] }
def zhP(L:List Pt)(F k o t:Int)(g:List Cl):List Pt:=if zhL L F k o t g=0 then ziv L k g else []
def zfu(L:List Pt)(F k o t:Int):Int:=if zaU L F k o t≠0 then zaU L F k o t else if (pt L k.toNat).cm.length=0 then 8 else 0
def zhK(L:List Pt)(k:Int):List Pt:=L.set k.toNat { pt L k.toNat with cm:=(pt L k.toNat).cm.drop 1 }
def zhO(L:List Pt)(F k o t:Int):List Pt:=if zfu L F k o t=0 then zhK L k else []
def zug(L:List Pt)(F k o t:Int):List Cl:=if zfu L F k o t=0 then gr (pt L k.toNat).cm 0 else []
def zhS(L:List Pt)(k:Int):List Pt:=L.set k.toNat { pt L k.toNat with s:=true,cm:=[] }
def zhQ(L:List Pt)(F k o t:Int):List Pt:=if zaU L F k o t=0 then zhS L k else []
theorem zcm{L:List Pt}{F k o t:Int}(h:zaU L F k o t=0):zds L F/\∃ q:Nat,k=q/\q<L.length/\(pt L q).o=o/\(pt L q).t=t/\(pt L q).s=false:=by
 unfold zaU at h;by_cases h1:zbf L F=0
 ·rw[ya (yI h1)] at h;by_cases E:0<=k/\k<(L.length:Int)
  ·rw[ya (yI E)] at h;obtain⟨q,rfl⟩:=Int.eq_ofNat_of_zero_le E.1;rw[yi] at h;by_cases D:(pt L q).o≠o\/(pt L q).t≠t
   ·rw[yb D] at h;cases h
   ·rw[ya D] at h
    cases hs:(pt L q).s with
    | true=>rw[yb hs] at h;cases h
    | false=>exact⟨zcH.1 h1,q,rfl,by omega,Classical.byContradiction fun e=>D (Or.inl e),Classical.byContradiction fun e=>D (Or.inr e),hs⟩
  ·rw[yb E] at h;cases h
 ·rw[yb h1] at h;exact absurd h h1
theorem zds.mate{L:List Pt}{F:Int}(R:zds L F){i:Nat}(h:i<L.length):∃ q:Nat,(pt L i).m=q/\q<L.length/\q≠i/\(pt L q).m=i:=by
 obtain⟨_,I,D,_⟩:=zbm.1 (R.ok i h);obtain⟨q,E⟩:=Int.eq_ofNat_of_zero_le I.1;rw[E,yi] at D;exact⟨q,E,by omega,fun e=>D.1 (by omega),D.2⟩
def goE(L:List Fr)(k o:Int):Int:=if zcs L k≠0 then zcs L k else if ¬ (0<=o/\o<=9) then 2 else if 1000<=(fr L k.toNat).t then 1 else 0
def goX(L:List Fr)(k o:Int)(i:Nat):Fr:=if (i:Int)=k then { fr L i with o:=o,t:=(fr L i).t+1 } else { fr L i with g:=(fr L i).g || inF L i k }
def goF(L:List Fr)(k o:Int):List Fr:=(List.range L.length).map (goX L k o)
theorem zgU(L:List Fr)(k o:Int):(goF L k o).length=L.length:=by unfold goF;simp
theorem zvI{L:List Fr}{k o:Int}{i:Nat}(h:i<L.length):fr (goF L k o) i=goX L k o i:=by
 rw[zgk (by rw[zgU];exact h)];unfold goF;simp
theorem zsV{L:List Fr}{k o:Int}(h:goE L k o=0):zcs L k=0/\(0<=o/\o<=9)/\(fr L k.toNat).t<1000:=by
 unfold goE at h;by_cases h1:zcs L k=0
 ·rw[ya (yI h1)] at h;by_cases D:0<=o/\o<=9
  ·rw[ya (yI D)] at h;by_cases E:1000<=(fr L k.toNat).t
   ·rw[yb E] at h;cases h
   ·exact⟨h1,D,by omega⟩
  ·rw[yb D] at h;cases h
 ·rw[yb h1] at h;exact absurd h h1
theorem zpl{L:List Fr}(R:zcl L){top:Int}:∀ (n:Nat) (k:Int),k<n->inF L k top=true->top<=k
 | 0,k,F,h=>by
  unfold inF at h;rw[zes (by omega)] at h;cases h
 | n+1,k,F,h=>by
  by_cases D:0<=k/\k<L.length
  ·obtain⟨i,rfl⟩:=Int.eq_ofNat_of_zero_le D.1;by_cases E:(i:Int)=top
   ·omega
   ·rw[zvQ R (by omega) E] at h;have hl:=R.low (i:=i) (by omega);have:=zpl R n _ (by omega) h;omega
  ·unfold inF at h;rw[zes D] at h;cases h
theorem zzD{L:List Fr}(R:zcl L){k top:Int}(h:inF L k top=true):top<=k:=zpl R (k.toNat+1) k (by omega) h
theorem zgm{L:List Fr}{k:Nat}{o:Int}(h:k<L.length):fr (goF L k o) k={ fr L k with o:=o,t:=(fr L k).t+1 }:=by
 rw[zvI h];unfold goX;rw[yb rfl]
theorem zdH{L:List Fr}{k:Nat}{o:Int}{i:Nat}(h:i<L.length)(D:i≠k):fr (goF L k o) i={ fr L i with g:=(fr L i).g || inF L i k }:=by
 rw[zvI h];unfold goX;rw[ya (by omega)]
theorem zAw{L:List Fr}{k o:Int}{i:Nat}(h:i<L.length):(fr (goF L k o) i).p=(fr L i).p:=by
 rw[zvI h];unfold goX
 split <;> rfl
theorem zAp{L:List Fr}{k o:Int}{i:Nat}(h:i<L.length):(fr (goF L k o) i).m=(fr L i).m:=by
 rw[zvI h];unfold goX
 split <;> rfl
theorem zpi{L:List Fr}{k o:Int}(h:goE L k o=0):zcl (goF L k o):=by
 obtain⟨h1,O,T⟩:=zsV h;obtain⟨R,q,rfl,U,hg⟩:=zfg h1;rw[yi] at T;refine⟨by rw[zgU];exact R.few,fun i hi=>?_⟩;rw[zgU] at hi;obtain⟨a1,a2,a3⟩:=zde.1 (R.ok i hi);rw[zde];refine⟨?_,?_,fun h0=>?_⟩
 ·unfold zgC at a1 |-;rw[zAw hi];exact a1
 ·unfold zdQ at a2 |-;rw[zAp hi];by_cases e:i=q
  ·subst e;rw[zgm hi];dsimp only;exact⟨O,a2.2.1,by omega⟩
  ·rw[zdH hi e];exact a2
 ·obtain⟨p,I,M,D⟩:=R.up hi h0;rw[zAw hi,I,yi];unfold zgO;rw[zAp hi,zAp (by omega)];refine⟨D.1,?_⟩;by_cases e:i=q
  ·subst e;rw[zgm hi,zdH (by omega) (by omega)];dsimp only;right
   have E:(fr L p).g=false:=by
    rcases D.2 with hh|hh
    ·rw[hg] at hh;cases hh
    ·exact hh
   have F:inF L (p:Int) i=false:=by
    cases hc:inF L (p:Int) i with
    | false=>rfl
    | true=>exact absurd (zzD R (k:=(p:Int)) hc) (by omega)
   rw[E,F];rfl
  ·rw[zdH hi e];dsimp only;by_cases J:p=q
   ·subst J;left;rw[zvQ R hi (by omega),I,ztd (by omega),Bool.or_true]
   ·rw[zdH (by omega) J,zvQ R hi (by omega),I];dsimp only;rcases D.2 with hh|hh
    ·left;rw[hh,Bool.true_or]
    ·rw[hh]
     cases inF L (p:Int) q with
     | true=>left;rw[Bool.or_true]
     | false=>right;rfl
theorem zye(a:Option Addr)(c:Nat)(S:List Nd)(k:Nat)(u:Int)(w:World)(hN:S.length<=24)(hB:∀ i,i<S.length->(nd S i).ks.length<=1000)(hS:zah w a S)(hk:k<S.length)(I:zaC S k u=0)(hT:zfX S k) :
  yL 167 #[.agg #[.slice a S.length c],.agg #[.int .i64 k,.int .i64 u]] w fun e w' => ∃ g,e=.returned (.tuple #[.agg #[.slice (some ⟨g,0,none⟩) S.length S.length],.int .i64 0])/\Below w.heap.size w w' /\ w.heap.size<=g/\∀ w3:World,(∀ b,g<=b->w3.heap[b]?=w'.heap[b]?)->zah w3 (some ⟨g,0,none⟩) (S.set k (zcV (nd S k))):=by
 have hK:=yG (hB k hk) (show 1000<=1000000 by omega);have dc:=fun(W:World) (hW:zah W a S)=>copy_any a c S W hN hB hW;have DC:Hid _:=dc;replace hB:Big S:=fun i hi=>yG (hB i hi) (by omega);have D1:Hid (∀ W,zah W a S->Calls _ _ _ _ _):=fun W hW=>find_ok a c S k u W (by omega) hB hW hk I hK;obtain⟨r,hr⟩:∃ r,zak (nd S k)=r:=⟨_,rfl⟩;obtain⟨h2,b9⟩:∃ b,zfj S k=b:=⟨_,rfl⟩;have d2:=fun(v:Value) W=>zdR (nd S k) v W;rw[show (if (nd S k).h = -1 then (nd S k).p else (nd S k).h)=r from hr] at d2;have D2:Hid _:=d2;have d3:=fun W hW=>zee a c S (k:Int) W (by omega) hW (by omega);rw[b9] at d3;have D3:Hid _:=d3;have HS:Hid (zah w a S):=hS;have N8:Hid (∀ (w w3:World) (B g:Nat) (kb kc:Nat->Nat),Own w B g S kb kc S.length->_->zah w3 (some ⟨g,0,none⟩) (S.set k (zcV (nd S k)))):=fun w w3 B g kb kc h c6=>Own.nil8 h hk (zcV (nd S k)) rfl w3 c6
 have OC:Hid (∀ (wr:World) (B g:Nat) (kb kc:Nat->Nat),Own wr B g S kb kc S.length->(g<wr.heap.size/\(∀ o,wr.frozen? ⟨g,o,none⟩=false)/\(∃ v0 v1 v2 v3 v4 v5 v6 v7,wr.cell? ⟨g,k*8,none⟩=some v0/\wr.cell? ⟨g,k*8+1,none⟩=some v1/\wr.cell? ⟨g,k*8+2,none⟩=some v2/\wr.cell? ⟨g,k*8+3,none⟩=some v3/\wr.cell? ⟨g,k*8+4,none⟩=some v4/\wr.cell? ⟨g,k*8+5,none⟩=some v5/\wr.cell? ⟨g,k*8+6,none⟩=some v6/\wr.cell? ⟨g,k*8+7,none⟩=some v7))):=fun wr B g kb kc h=>by
  obtain⟨_,F,I,g9,_⟩:=h;exact⟨I.lt,I.frozen,_,_,_,_,_,_,_,_,I.cell (by omega),I.cell (by omega),I.cell (by omega),I.cell (by omega),I.cell (by omega),I.cell (by omega),I.cell (by omega),I.cell (by omega)⟩
 obtain⟨t1,t2,t3⟩:=hT;rw[hr] at t1;rw[b9] at t3;subst t1 t3;have t4:(nd S k).ks.length=0:=by rw[t2];rfl
 have h3:(k:Int)<(S.length:Int):=by omega
 have h4:decide ((k:Int)<0)=false:=yE (by omega);unfold zcV at N8 |-;clear hS d2 d3 dc I hB hr b9 t2 hK;generalize hx:nd S k=x at *;clear hx;obtain⟨xu,xn,xt,xm,xp,g5,xh,xc⟩:=x;dsimp only at *;generalize g5.length=L at *;subst t4;generalize hn:S.length=n at *;clear hn
 go_enter Tryz.func167,Tryz.ntmps167
 go_wp2_with (go_at_call 14;refine(D1.out _ (HS.out.below (zas _ _ _ _))).mono ?_;rintro e w1 ⟨kg,rfl,M,g4⟩;clear g4;simp only[yr] at M;obtain⟨l0,l1,l2,l3,z3⟩:=zbT M;have b3:=M.size;simp only[yr] at b3;have q0:w.heap.size<w1.heap.size:=(by omega);have q1:w.heap.size+1<w1.heap.size:=(by omega);have q2:w.heap.size+1+1<w1.heap.size:=(by omega))
 refine(D2.out _ _).mono ?_;rintro e w2 ⟨rfl,a6⟩;simp only[yr] at a6;obtain⟨Z,n0,n1,n2,n3,n4,n5,n6,n7⟩:=zeD M b3 a6;have e8:=a6.size;simp only[yr] at e8;clear l0 l1 l2 l3 z3;obtain⟨l0,l1,l2,l3,z3⟩:=zbT Z;have a8:Hid (Below w.heap.size w w2):=(zas _ _ _ _).trans (Z.mono (by omega));have b8:Hid _:=M;have c8:Hid _:=a6;have q3:w1.heap.size<w2.heap.size:=by omega
 clear M a6 Z
 go_wp2_with fail
 refine(D3.out _ (HS.out.below a8.out)).mono ?_;rintro e w3 ⟨rfl,b0⟩;have h6:=b0.size;have E:Hid (Below w.heap.size w w3):=a8.out.trans (b0.mono (by have:=a8.out.size;omega));have a7:=c8.out.trans (b0.mono e8);clear l0 l1 l2 l3 z3 n0 n1 n2 n3 n4 n5 n6 n7 b0 c8;obtain⟨b6,n0,n1,n2,n3,n4,n5,n6,n7⟩:=zeD b8.out b3 a7;obtain⟨l0,l1,l2,l3,z3⟩:=zbT b6;have r1:w1.heap.size<w3.heap.size:=by omega
 have r2:w.heap.size<w3.heap.size:=by omega
 have r3:w.heap.size+1<w3.heap.size:=by omega
 have r4:w.heap.size+1+1<w3.heap.size:=by omega
 have b4:Hid _:=a7;clear b6 a7
 go_wp2_with fail
 refine(DC.out _ (HS.out.below E.out)).mono ?_;rintro e O ⟨g,kb,kc,rfl,b1,a9⟩;have hg:w3.heap.size<=g:=a9.1;have e9:w1.heap.size+1<=w3.heap.size:=by omega
 have b7:=b4.out.trans (b1.mono e9);have h7:=b1.size;have U:Hid (Below w.heap.size w O):=E.out.trans (b1.mono (by have:=E.out.size;omega));clear l0 l1 l2 l3 z3 n0 n1 n2 n3 n4 n5 n6 n7 b4;obtain⟨a5,n0,n1,n2,n3,n4,n5,n6,n7⟩:=zeD b8.out b3 b7;obtain⟨l0,l1,l2,l3,z3⟩:=zbT a5;obtain⟨g7,e0,v0,v1,v2,v3,v4,v5,v6,v7,d0,d1,d2,d3,d4,d5,d6,d7⟩:=OC.out _ _ _ _ _ a9;have g6:w1.heap.size<g:=by omega
 have c9:Hid (Own O w3.heap.size g S kb kc n):=a9;have T:Hid _:=a5;clear a5 b7 a9 b1 hg
 go_wp2_with fail
 have t1:w1.heap.size<O.heap.size:=by omega
 obtain⟨D,J⟩:∃ D,D=O.alloc (Obj.cells #[Value.slice (some ⟨g,0,none⟩) n n] 43):=⟨_,rfl⟩;rw[<- J];have k8:D.cell? ⟨O.heap.size,0,none⟩=some (.slice (some ⟨g,0,none⟩) n n):=by rw[J];go_simp
 have k9:D.cell? ⟨w1.heap.size,1,none⟩=some (.int .i64 xn):=by rw[J];go_simp
 have g0:D.heap.size=O.heap.size+1:=by rw[J];simp
 have b2:Below O.heap.size O D:=by rw[J];exact(yk _ _).alloc (yj _) _
 have d9:=T.out.trans (b2.mono (by have:=T.out.size;simp at this;omega));have b5:Hid (Below w.heap.size w D):=U.out.trans (b2.mono U.out.size);have d8:Hid (Own D w3.heap.size g S kb kc n):=Own.below c9.out b2;clear l0 l1 l2 l3 z3 n0 n1 n2 n3 n4 n5 n6 n7 d0 d1 d2 d3 d4 d5 d6 d7 e0 c9 T J b2;obtain⟨l0,l1,l2,l3,z3⟩:=zbT d9;obtain⟨_,e0,i1,i2,i3,i4,i5,i6,i7,i8,d0,d1,d2,d3,d4,d5,d6,d7⟩:=OC.out _ _ _ _ _ d8.out;have u1:O.heap.size<D.heap.size:=by omega
 have u2:w1.heap.size<D.heap.size:=by omega
 have u3:w.heap.size+1<D.heap.size:=by omega
 have u4:w.heap.size+1+1<D.heap.size:=by omega
 have u5:g<D.heap.size:=by omega
 have u6:w.heap.size+1+1<g:=by omega
 have g8:Hid (D.heap.size=O.heap.size+1):=g0;clear d9 g0;have h8:=World.new_ne D _ k8;have h9:=World.new_ne D _ k9;have i0:=World.new_ne D _ l1;have e1:¬ g=O.heap.size:=by omega
 have e2:¬ O.heap.size=g:=by omega
 have e3:¬ g=w.heap.size+1:=by omega
 have e4:¬ w.heap.size+1=g:=by omega
 have e5:¬ g=w1.heap.size:=by omega
 have e6:¬ w1.heap.size=g:=by omega
 clear U E a8 b8 HS D1 D2 D3 DC OC
 go_region_held3 (fun c7=>c7.cell? ⟨O.heap.size,0,none⟩=some (.slice (some ⟨g,0,none⟩) n n)/\c7.cell? ⟨w.heap.size+1,0,none⟩=some (.int .i64 k)/\c7.cell? ⟨w1.heap.size,1,none⟩=some (.int .i64 xn)) (go_keep) (first|(go_at_call 93;refine(zhU _ _).mono ?_;rintro e w' ⟨rfl,rfl⟩))
 all_goals (try go_wp2)
 all_goals
  refine yv (v:=.tuple #[.agg #[.slice (some ⟨g,0,none⟩) n n],.int .i64 0]) (by simp only[results,Tryz.results167];go_simp) rfl ⟨g,rfl,?_,by omega,fun w3 c6=>?_⟩
  ·first
    | exact((((((((((b5.out.setCell (by simp;omega) _).setCell (by simp;omega) _).setCell (by simp;omega) _).setCell (by simp;omega) _).setCell (by simp;omega) _).setCell (by simp;omega) _).setCell (by simp;omega) _).setCell (by simp;omega) _).setCell (by simp;omega) _).alloc (by simp;omega) _).drew
    | exact((((((((((b5.out.setCell (by simp;omega) _).setCell (by simp;omega) _).setCell (by simp;omega) _).setCell (by simp;omega) _).setCell (by simp;omega) _).setCell (by simp;omega) _).setCell (by simp;omega) _).setCell (by simp;omega) _).alloc (by simp;omega) _).setCell (by simp;omega) _).drew
  ·refine N8.out D w3 _ g kb kc d8.out (fun b hb e7=>(c6 b hb).trans ?_)
   first
    |(rw[heap_drew,((yk _ _).alloc (yj _) _).block b (by simpa using e7),ys _ _ _ _ (by show b≠w.heap.size+1+1;omega)])
    |(rw[heap_drew,ys _ _ _ _ (by show b≠w.heap.size+1+1;omega),((yk _ _).alloc (yj _) _).block b (by simpa using e7)])
def zjU(w:World)(a:Option Addr)(C:List (List Cl)):Prop :=
 ∀ i,i<C.length->∃ b o ga gc,a=some ⟨b,o,none⟩/\w.cell? ⟨b,o+i,none⟩=some (.slice ga (gr C i).length gc)/\zaF w ga (gr C i)
theorem zjU.below{w w' : World}{a:Option Addr}{C:List (List Cl)}(h:zjU w a C)(D:Below w.heap.size w w'):zjU w' a C:=fun i hi=>by
 obtain⟨b,o,ga,gc,e,h1,E⟩:=h i hi;exact⟨b,o,ga,gc,e,zab h1 D,E.below D⟩
theorem zvK(w:World):zjU w none []:=fun i hi=>absurd hi (yw _)
def zyO(C:List (List Cl)):Prop:=∀ i,i<C.length->(gr C i).length<=9223372036854775807/\zlb (gr C i)
def zyT(w:World)(a:Option Addr)(c:Nat)(C:List (List Cl)):Prop:=((a=none->c=0)/\C.length<=c/\c<=9223372036854775807)/\zjU w a C
theorem zyT.below{w w' : World}{a:Option Addr}{c:Nat}{C:List (List Cl)}(h:zyT w a c C)(D:Below w.heap.size w w'):zyT w' a c C:=⟨h.1,h.2.below D⟩
def zyV(w:World)(b o:Nat)(x:Pt):Prop :=
 w.cell? ⟨b,o,none⟩=some (.int .i64 x.o)/\w.cell? ⟨b,o+1,none⟩=some (.int .i64 x.t)/\w.cell? ⟨b,o+2,none⟩=some (.int .i64 x.m)/\∃ D E,w.cell? ⟨b,o+3,none⟩=some (.slice D x.cm.length E)/\zyT w D E x.cm/\w.cell? ⟨b,o+4,none⟩=some (.bool x.s)
theorem zyV.below{w w' : World}{b o:Nat}{x:Pt}(h:zyV w b o x)(D:Below w.heap.size w w'):zyV w' b o x:=by
 obtain⟨c0,c1,c2,E,F,c3,hg,c4⟩:=h;exact⟨zab c0 D,zab c1 D,zab c2 D,E,F,zab c3 D,hg.below D,zab c4 D⟩
def zdr(w:World)(a:Option Addr)(L:List Pt):Prop :=
 ∀ i,i<L.length->∃ b o,a=some ⟨b,o,none⟩/\zyV w b (o+i*5) (pt L i)
theorem zdr.below{w w' : World}{a:Option Addr}{L:List Pt}(h:zdr w a L)(D:Below w.heap.size w w'):zdr w' a L:=fun i hi=>by
 obtain⟨b,o,e,hn⟩:=h i hi;exact⟨b,o,e,hn.below D⟩
theorem zwF(w:World):zdr w none []:=fun i hi=>absurd hi (yw _)
def zrF(L:List Pt):Prop:=∀ i,i<L.length->(pt L i).cm.length<=9223372036854775807/\zyO (pt L i).cm
theorem zoc{C:List (List Cl)}{j:Nat}(h:j<C.length):zbp (C.drop j)=if zaz (gr C j)=0 then zbp (C.drop (j+1)) else zaz (gr C j):=by
 rw[List.drop_eq_getElem_cons h,zbp,zhA h]
theorem zqx(C:List (List Cl)):zbp (C.drop C.length)=0:=by
 rw[List.drop_length];rfl
def zpY(X:Nat->Prop)(w:World)(a:Option Addr)(G:List Cl):Prop:=∀ w', zar X w w' -> zaF w' a G
theorem zpY.off{X:Nat->Prop}{w w' : World}{a:Option Addr}{G:List Cl}(h:zpY X w a G)(F:zar X w w'):zpY X w' a G:=fun D E=>h D (F.trans E)
end Go.Proofs.YtcbcpomacdngmaaGreat
