/-
  x
-/
import Derived.Test.YtcbcpomacdngmaaGreatM28
namespace Go.Proofs.YtcbcpomacdngmaaGreat
set_option maxRecDepth 100000
set_option maxHeartbeats 4000000
set_option linter.unusedVariables false
open Go.RowKit Go.ChangeShapes Go.WideShapes
theorem zqg(W:World)(D:List Value)(t:Nat):∀ j u,D[j]?=some u->(W.alloc (.cells D.toArray t)).cell? ((⟨W.heap.size,0,none⟩:Addr).add j)=some u:=fun j u E=>by
 rw[Addr.add_lit,yz];exact zad W D.toArray t j (by simpa using E)
theorem zku{w w' : World}{b o:Nat}(h:w'.heap[b]?=w.heap[b]?):w'.cell? ⟨b,o,none⟩=w.cell? ⟨b,o,none⟩:=by simp[World.cell?,h]
theorem zmH{w w' : World}{b o:Nat}(h:w'.heap[b]?=w.heap[b]?):w'.frozen? ⟨b,o,none⟩=w.frozen? ⟨b,o,none⟩:=yC (w:=w) h
theorem zkQ(x:Pt):∀ u ∈ zcS x (.slice none 0 0),u.oneCell' = true:=fun u D=>by
 unfold zcS at D;simp at D;rcases D with rfl|rfl|rfl|rfl|rfl <;> rfl
theorem ztX(x y:Pt):∀ u ∈ zcS x (.slice none 0 0)++zcS y (.slice none 0 0),u.oneCell' = true:=fun u D=>by
 rcases List.mem_append.1 D with h|h
 ·exact zkQ _ u h
 ·exact zkQ _ u h
theorem ztN:zuY:=fun X a c L Fr o t w hX hN hB a5 hL=>by
 have DC:Hid _:=zhI a c L Fr w hN hB a5 hL.at;have DO:Hid (∀ W,_):=fun W=>zfT Fr o t W;by_cases h1:zbf L Fr=0
 ·rw[h1] at DC;have R:=zcH.1 h1;have a6:=R.few;have hF:=zdw R;by_cases I:zcu Fr o t=0
  ·rw[I] at DO
   have F:zfq L Fr o t=if 10<L.length then 1 else 0:=by
    unfold zcu at I;unfold zfq;rw[ya (yI h1)];by_cases e1:0<=o/\o<Fr
    ·rw[ya (yI e1)] at I |-;by_cases e2:0<=t/\t<=1000
     ·rw[ya (yI e2)]
     ·rw[yb e2] at I;cases I
    ·rw[yb e1] at I;cases I
   have c8:IntKind.i64.wrap ((L.length:Int)+2)=(L.length:Int)+2:=(by rw[yH];omega);have b7:IntKind.i64.wrap ((L.length:Int)+1)=(L.length:Int)+1:=(by rw[yH];omega);by_cases b2:10<L.length
   ·rw[yb b2] at F;have er:znA L Fr o t=[]:=(by unfold znA;rw[F];rfl);have en:zjk L Fr o t=0:=(by unfold zjk;rw[F];rfl);rw[er,en,F];have hd:decide ((12:Int)<(L.length:Int)+2)=true:=yF (by omega);clear hL hB a5 hF R h1 I F er en;generalize L.length=n at *
    go_enter Tryz.func142,Tryz.ntmps142
    go_wp2_with fail
    refine ye DC.out ?_;rintro e w1 ⟨rfl,U⟩;have D:Hid (Below w.heap.size w w1):=U;clear U DC
    go_wp2_with fail
    refine ye (DO.out _) ?_;rintro e w9 ⟨rfl,O⟩;have J:=O.symm;clear O;subst J
    go_wp2_with fail
    exact yv (v:=.tuple #[.slice none 0 0,.int .i64 0,.int .i64 1]) (by simp[results,Tryz.results142,go_sem]) rfl ⟨none,0,rfl,D.out,zdb,zbz X _⟩
   ·rw[ya b2] at F;have er:znA L Fr o t=zct L o t:=(by unfold znA;rw[yb F]);have en:zjk L Fr o t=(L.length:Int):=(by unfold zjk;rw[yb F]);rw[er,en,F];have hd:decide ((12:Int)<(L.length:Int)+2)=false:=yE (by omega);obtain⟨i0,c7,c9,d4,d5⟩:=info_parts zvV;have DP:Hid (∀ W,Below w.heap.size w W->_):=fun W hW=>zdX a c L W a6 hF (hL.at.below hW)
    have a9:Hid (∀ (B:Nat) (W1 w3:World) (K:Nat->Value) (lo hi:Nat->Nat) (v2:Value),w.heap.size<=B->CpI B L K lo hi L.length W1->zar (fun x=>x=B) W1 w3->w3.ownsRow B 121 5 v2 (L.length+2) (zcc L K++(zcS ⟨o,t,(L.length:Int)+1,[],false⟩ (.slice none 0 0)++zcS ⟨o,t,(L.length:Int),[],false⟩ (.slice none 0 0)))->∃ va vc,v2=.slice va (L.length+2) vc/\SlA va (L.length+2) vc/\zbN X w3 va (zct L o t)):=fun B W1 w3 K lo hi v2 b5 h ho Z=>by
     rw[<- List.append_assoc,zjo,zjo] at Z;have el:(zct L o t).length=L.length+2:=(by unfold zct;simp);have eo:L++[(⟨o,t,(L.length:Int)+1,[],false⟩:Pt)] ++ [⟨o,t,(L.length:Int),[],false⟩]=zct L o t:=(by unfold zct;simp);rw[eo] at Z;rw[<- el] at Z |-
     obtain⟨va,vc,e,hs,hp⟩:=zue b5 Z (fun i b6=>by
      rw[el] at b6;by_cases e:i<L.length
      ·have e1:pt (zct L o t) i=pt L i:=(by unfold zct;exact zlP e);rw[e1,List.length_append,List.length_singleton,ya (by omega),ya (by omega)];exact h.grs b5 hF ho e (fun b U=>Or.inl (by have:b=B:=U;have:=(h.at' i e).1;omega))
      ·have hc:(pt (zct L o t) i).cm=[]:=by
        rw[zft (by rw[el];exact b6)];unfold zct;rw[List.getElem_append_right (by omega)];have:i-L.length=0\/i-L.length=1:=(by omega);rcases this with h0|h0
        ·simp[h0]
        ·simp[h0]
       rw[hc]
       have hk:(if i=(L++[(⟨o,t,(L.length:Int)+1,[],false⟩:Pt)]).length then Value.slice none 0 0 else if i=L.length then Value.slice none 0 0 else K i)=.slice none 0 0:=by
        rw[List.length_append,List.length_singleton];by_cases e1:i=L.length
        ·simp[e1]
        ·have:i=L.length+1:=(by omega);simp[this]
       rw[hk];exact fun w' _=>zrH.nil w')
     exact⟨va,vc,e,hs,zhc hX hp⟩
    have b8:Hid (∀ K,(zcc L K).length=L.length*5):=fun K=>zbM _ _;have EL:Hid ((zct L o t).length=L.length+2):=(by show _=_;unfold zct;simp);clear hL hB a5 hF R h1 I F er en hN;generalize zct L o t=M at *;have b1:Hid (∀ (B:Nat) (W1:World) (K:Nat->Value) (lo hi:Nat->Nat),CpI B L K lo hi L.length W1->W1.ownsRow B 121 5 (.slice (some ⟨B,0,none⟩) L.length L.length) L.length (zcc L K)):=fun B W1 K lo hi h=>h.row;obtain⟨n,hn⟩:∃ z,L.length=z:=⟨_,rfl⟩;rw[hn] at a6 b2 c8 b7 hd DC DP a9 EL b1;rw[hn];clear hn;have b9:n+2<=maxLen:=(by unfold maxLen;omega);have c6:(n+2)*56<=140737488355328:=by omega
    go_enter Tryz.func142,Tryz.ntmps142
    go_wp2_with fail
    refine ye DC.out ?_;rintro e w1 ⟨rfl,U⟩;have D:Hid (Below w.heap.size w w1):=U;clear U DC
    go_wp2_with fail
    refine ye (DO.out _) ?_;rintro e w9 ⟨rfl,O⟩;have J:=O.symm;clear O;subst J
    go_wp2_with fail
    refine ye (DP.out _ D.out) ?_;rintro e w2 ⟨K,lo,hi,rfl,a7,hc⟩;have b3:Hid (Below w1.heap.size w1 w2):=a7;have b0:Hid (w2.ownsRow w1.heap.size 121 5 (.slice (some ⟨w1.heap.size,0,none⟩) n n) n (zcc L K)):=b1.out _ _ _ _ _ hc;have FF:Hid (∀ (w3:World) (v2:Value),_->_->_):=fun w3 v2 h1 I=>a9.out _ w2 w3 K lo hi v2 D.out.size hc h1 I;have s2:w1.heap.size<w2.heap.size:=(World.ownsRow.lt b0.out _ rfl).2;clear a7 hc DP a9 b1 b8;generalize zcc L K=cs at *
    go_wp2_with (at_builtin;refine wpList_append_own _ rfl _ _ 26 rfl w1.heap.size 121 i0 (.agg #[.int .i64 0,.int .i64 0,.int .i64 0,.slice none 0 0,.bool false]) 5 56 Tryz.underlying26 c7 c9 d4 d5 rfl (by decide) (.slice (some ⟨w1.heap.size,0,none⟩) n n) n cs rfl (World.ownsRow.alloc b0.out _) ⟨w2.heap.size,0,none⟩ 2 2 (zcS ⟨o,t,(n:Int)+1,[],false⟩ (.slice none 0 0)++zcS ⟨o,t,(n:Int),[],false⟩ (.slice none 0 0)) rfl rfl ?c1 ?c2 b9 c6 ?c5 ?_)
    case c1=>first|exact zqg w2 [.int .i64 o,.int .i64 t,.int .i64 ((n:Int)+1),.slice none 0 0,.bool false,.int .i64 o,.int .i64 t,.int .i64 (n:Int),.slice none 0 0,.bool false] _|exact fun j u h=>h
    case c2=>exact ztX _ _
    case c5=>first|omega|(simp;omega)
    intro v3 w3 a8 T _;have o3:zar (fun x=>x=w1.heap.size) w2 w3:=(zar.of_below (zaa w2 _)).trans (zar.grown T (fun b U=>by cases U;rfl));obtain⟨va,vc,rfl,hs,hp⟩:=FF.out w3 v3 o3 a8;have b4:Hid (Below w.heap.size w w3):=(D.out.trans ((b3.out.trans ((zaa w2 _).mono b3.out.size)).mono D.out.size)).grown T (by simp;have:=D.out.size;omega) (fun kk hk=>by cases hk;exact D.out.size);have HS:Hid _:=hs;have HP:Hid _:=hp;clear a8 T o3 hs hp FF b0
    go_wp2_with fail
    exact yv (v:=.tuple #[.slice va (n+2) vc,.int .i64 (n:Int),.int .i64 0]) (by simp[results,Tryz.results142,go_sem]) rfl (by first|exact⟨va,vc,by rw[EL.out],b4.out,(by rw[EL.out];exact HS.out),HP.out⟩|exact⟨va,⟨vc,by rw[EL.out]⟩,b4.out,(by rw[EL.out];exact HS.out),HP.out⟩)
  ·have F:zfq L Fr o t=zcu Fr o t:=by
    unfold zcu at I;unfold zfq zcu;rw[ya (yI h1)];by_cases e1:0<=o/\o<Fr
    ·rw[ya (yI e1)] at I |-;by_cases e2:0<=t/\t<=1000
     ·rw[ya (yI e2)] at I;exact absurd rfl I
     ·rw[yb e2,ya (yI e1),yb e2]
    ·rw[yb e1,yb e1]
   have er:znA L Fr o t=[]:=(by unfold znA;rw[F,ya I]);have en:zjk L Fr o t=0:=(by unfold zjk;rw[F,ya I]);rw[er,en,F];have y1:decide (zcu Fr o t=0)=false:=yE I;have y2:(zcu Fr o t == 0)=false:=(by simp[I]);clear hL hB a5 hF R h1 F er en;generalize zcu Fr o t=E at *;generalize L.length=n at *
   go_enter Tryz.func142,Tryz.ntmps142
   go_wp2_with fail
   refine ye DC.out ?_;rintro e w1 ⟨rfl,U⟩;have D:Hid (Below w.heap.size w w1):=U;clear U DC
   go_wp2_with fail
   refine ye (DO.out _) ?_;rintro e w9 ⟨rfl,O⟩;have J:=O.symm;clear O;subst J
   go_wp2_with fail
   exact yv (v:=.tuple #[.slice none 0 0,.int .i64 0,.int .i64 E]) (by simp[results,Tryz.results142,go_sem]) rfl ⟨none,0,rfl,D.out,zdb,zbz X _⟩
 ·have F:zfq L Fr o t=zbf L Fr:=by unfold zfq;rw[yb h1]
  have er:znA L Fr o t=[]:=by unfold znA;rw[F,ya h1]
  have en:zjk L Fr o t=0:=by unfold zjk;rw[F,ya h1]
  rw[er,en,F];have y1:decide (zbf L Fr=0)=false:=yE h1;have y2:(zbf L Fr == 0)=false:=by simp[h1]
  clear hL hB a5 F er en DO;generalize zbf L Fr=E at *;generalize L.length=n at *
  go_enter Tryz.func142,Tryz.ntmps142
  go_wp2_with fail
  refine ye DC.out ?_;rintro e w1 ⟨rfl,U⟩;have D:Hid (Below w.heap.size w w1):=U;clear U DC
  go_wp2_with fail
  exact yv (v:=.tuple #[.slice none 0 0,.int .i64 0,.int .i64 E]) (by simp[results,Tryz.results142,go_sem]) rfl ⟨none,0,rfl,D.out,zdb,zbz X _⟩
theorem zuD(F D:Nat)(h:D<=1000):∃ E,(∀ W,(Instr.slice 119 (.slice (some ⟨F,0,none⟩) (D+1) (D+1)) (some (.int .i64 1)) none none).run Tryz.prog W=.ok (.slice (some ⟨F,E,none⟩) D D) W)/\(D=0\/E=1):=by
 by_cases e:D=0
 ·subst e;exact⟨0,fun W=>by go_simp,Or.inl rfl⟩
 ·have h1:¬ ((D:Int)+1=1):=by omega
  have I:(1:Int)<=(D:Int)+1:=by omega
  exact⟨1,fun W=>(by first|(go_simp;done)|(go_simp;intro h;omega)),Or.inr rfl⟩
theorem zuh:zva:=fun X a c L Fr k o t w hX hN hB Z hL=>by
 have DH:Hid (∀ o1:Obj,_):=fun o1=>zcf a c L Fr k o t (w.alloc o1) hN hB Z (hL.at.below (zaa _ _));unfold zhO zug;by_cases hH:zaU L Fr k o t=0
 ·rw[hH] at DH;obtain⟨R,q,rfl,hq,_⟩:=zcm hH;have a9:=R.few;have hF:=zdw R;have d9:(q:Int)<(L.length:Int):=by omega
  obtain⟨b,oo,ea,_,_,_,ca,cc,c3,_,_⟩:=hL.at q hq;subst ea;have e3:b<w.heap.size:=yd _ _ c3;by_cases h0:(pt L q).cm.length=0
  ·have eP:zfu L Fr q o t=8:=(by unfold zfu;rw[hH,yi,yb h0];rfl);rw[eP];rw[h0] at c3;clear hL hB Z hF R hH eP h0;generalize L.length=n at *
   go_enter Tryz.func146,Tryz.ntmps146
   go_wp2_with fail
   refine ye (DH.out _) ?_;rintro e w1 ⟨rfl,F⟩;have O:Hid (Below w.heap.size w w1):=(zaa _ _).trans (F.mono (by simp));have r1:w1.cell? ⟨w.heap.size,0,none⟩=some (.slice none 0 0):=zab (zad w #[.slice none 0 0] 47 0 rfl) F;have f1:w1.frozen? ⟨w.heap.size,0,none⟩=false:=(F.frozen (by simp)).trans (by go_simp);have s1:w.heap.size<w1.heap.size:=yd _ _ r1;replace c3:=zab c3 O.out;have e4:¬ b=w.heap.size:=(by omega);have e1:¬ w.heap.size=b:=(by omega);clear F DH
   go_wp2_with fail
   have T:Hid (Below w.heap.size w (w1.setCell ⟨w.heap.size,0,none⟩ (.slice none 0 0))):=O.out.setCell (by simp) _;exact yv (v:=.tuple #[.slice none 0 0,.agg #[.slice none 0 0],.int .i64 8]) (by simp[results,Tryz.results146,go_sem,r1]) rfl (by first|exact⟨none,0,none,0,rfl,T.out,zdb,zbz X _,fun w' _ i hi=>absurd hi (yw _)⟩|exact⟨none,0,none,⟨0,rfl⟩,T.out,zdb,zbz X _,fun w' _ i hi=>absurd hi (yw _)⟩|exact⟨none,0,⟨none,0,rfl⟩,T.out,zdb,zbz X _,fun w' _ i hi=>absurd hi (yw _)⟩)
  ·have eP:zfu L Fr q o t=0:=(by unfold zfu;rw[hH,yi,ya h0];rfl);rw[eP,yb rfl,yb rfl,yi];obtain⟨I,a7⟩:∃ I,(pt L q).cm.length=I+1:=⟨(pt L q).cm.length-1,by omega⟩;have c9:I<=16:=(by have:=(zbm.1 (R.ok q hq)).2.2.2.2.1.1;omega);rw[a7] at c3;have DP:Hid (∀ W,Below w.heap.size w W->_):=fun W hW=>zdX (some ⟨b,oo,none⟩) c L W a9 hF (hL.at.below hW)
   have b1:Hid (∀ (B:Nat) (U W3:World) (K:Nat->Value) (lo hi:Nat->Nat) (D o' : Nat) (ga:Option Addr) (gc:Nat) (J:Nat->Value),w.heap.size<=B->CpI B L K lo hi L.length U->lo q<=D->D<hi q->U.rowIs D 47 (I+1) J->(∀ i,i<I+1->∃ ga gc,J i=.slice ga (gr (pt L q).cm i).length gc/\St (fun x=>x<=D\/hi q<=x) (fun w=>zaF w ga (gr (pt L q).cm i)) U)->J 0=.slice ga (gr (pt L q).cm 0).length gc->(I=0\/o' = 1)->zar (fun x=>x<=B) (U.setCell ⟨B,q*5+3,none⟩ (.slice (some ⟨D,o', none⟩) I I)) W3->W3.heap[B]?=(U.setCell ⟨B,q*5+3,none⟩ (.slice (some ⟨D,o', none⟩) I I)).heap[B]?->SlA (some ⟨B,0,none⟩) L.length L.length/\zbN X W3 (some ⟨B,0,none⟩) (zhK L q)/\zpY X W3 ga (gr (pt L q).cm 0)):=fun B U W3 K lo hi D o' ga gc J c7 h F a5 b0 b7 c8 a8 b8 c6=>by
    have d7:=(h.at' q hq).1;have ho:zar (fun x=>x<=B) U W3:=(zar.set (X:=fun x=>x<=B) U _ (yj B)).trans b8;have a1:=zhR h.row (k:=q) (f:=3) (u:=.slice (some ⟨D,o', none⟩) I I) (v:=.slice (some ⟨D,o', none⟩) I I) (x:={ pt L q with cm:=(pt L q).cm.drop 1 }) hq (by omega) rfl;have a2:=zaJ a1 (w' := W3) (fun kk hk=>by cases hk;exact c6);have hd:((pt L q).cm.drop 1).length=I:=by simp[a7]
    have hx:St (fun x=>x<w.heap.size) (fun w=>zrH w (.slice (some ⟨D,o', none⟩) I I) ((pt L q).cm.drop 1)) W3:=fun w' e0=>by
     have h2:zar (fun x=>x<=B) U w' := ho.trans (e0.mono (fun x (hx:x<w.heap.size)=>(by show x<=B;omega)));have b3:=b0.of_block (h2.block D b0.lt (by show ¬ D<=B;omega));refine⟨some ⟨D,o', none⟩,I,by rw[hd],⟨(fun e=>by cases e),by rw[hd];exact yj _,by omega⟩,fun i d4=>?_⟩;rw[hd] at d4;obtain⟨b5,b6,e,hs⟩:=b7 (i+1) (by omega);have d8:o' = 1:=by rcases a8 with h|h;omega;exact h
     subst d8;refine⟨D,1,b5,b6,rfl,?_,?_⟩
     ·rw[znZ _ (by omega),Nat.add_comm 1 i,b3.cell (by omega),e]
     ·rw[znZ _ (by omega)];exact(hs.off (h2.mono (fun x (hx:x<=B)=>(by show x<=D\/hi q<=x;omega)))).at
    have h1:=h.put (Y:=fun x=>x<=B) (B0:=w.heap.size) c7 hF hq a2 (fun i hi=>by simp only[ya hi]) ho (fun b hb=>Or.inl hb) (by simp only[if_true];exact hx);refine⟨h1.1,?_,?_⟩
    ·unfold zhK;rw[yi];exact zhc hX h1.2
    ·obtain⟨b5,b6,e,hs⟩:=b7 0 (by omega);rw[c8] at e;simp only[Value.slice.injEq] at e;obtain⟨rfl,_,rfl⟩:=e;exact(hs.off (ho.mono (fun x (hx:x<=B)=>(by show x<=D\/hi q<=x;omega)))).less (fun x hx=>(by show x<=D\/hi q<=x;have:=hX x hx;omega))
   have OC:Hid (∀ (B:Nat) (U:World) (K:Nat->Value) (lo hi:Nat->Nat),CpI B L K lo hi L.length U->∃ D J ga gc,U.cell? ⟨B,q*5+3,none⟩=some (.slice (some ⟨D,0,none⟩) (I+1) (I+1))/\(∀ o,U.frozen? ⟨B,o,none⟩=false)/\B<D/\lo q<=D/\D<hi q/\U.cell? ⟨D,0,none⟩=some (.slice ga (gr (pt L q).cm 0).length gc)/\J 0=.slice ga (gr (pt L q).cm 0).length gc/\Hid (U.rowIs D 47 (I+1) J/\(∀ i,i<I+1->∃ ga gc,J i=.slice ga (gr (pt L q).cm i).length gc/\St (fun x=>x<=D\/hi q<=x) (fun w=>zaF w ga (gr (pt L q).cm i)) U))):=fun B U K lo hi h=>by
    obtain⟨D,J,h1,h2,h3,h4,h5⟩:=h.gs q hq;have d7:=(h.at' q hq).1;rw[a7] at h3 h4 h5;obtain⟨ga,gc,e,_⟩:=h5 0 (by omega);refine⟨D,J,ga,gc,?_,fun o=>h.row.frozenAt o,by omega,h1,h2,?_,e,⟨h4,h5⟩⟩
    ·exact(h.cell hq (show 3<5 by omega)).trans (by rw[h3];rfl)
    ·rw[h4.cell (by omega),e]
   have ML:Hid ((zhK L q).length=L.length):=(by show _=_;unfold zhK;simp);clear hL hB Z hF R hH eP h0 a7 hN;generalize zhK L q=M at *;generalize gr (pt L q).cm 0=G0 at *;obtain⟨n,hn⟩:∃ z,L.length=z:=⟨_,rfl⟩;rw[hn] at hq d9 a9 DH DP b1 OC ML;rw[hn];clear hn
   go_enter Tryz.func146,Tryz.ntmps146
   go_wp2_with fail
   refine ye (DH.out _) ?_;rintro e w1 ⟨rfl,F⟩;have O:Hid (Below w.heap.size w w1):=(zaa _ _).trans (F.mono (by simp));have r1:w1.cell? ⟨w.heap.size,0,none⟩=some (.slice none 0 0):=zab (zad w #[.slice none 0 0] 47 0 rfl) F;have f1:w1.frozen? ⟨w.heap.size,0,none⟩=false:=(F.frozen (by simp)).trans (by go_simp);have s1:w.heap.size<w1.heap.size:=yd _ _ r1;replace c3:=zab c3 O.out;have k1:¬ ((I:Int)+1=0):=(by omega);have k2:decide ((I:Int)+1=0)=false:=yE k1;have k3:((I:Int)+1 == 0)=false:=(by simp;omega);clear F DH
   go_wp2_with fail
   refine ye (DP.out _ O.out) ?_;rintro e w2 ⟨K,lo,hi,rfl,a5,hc⟩;obtain⟨D,J,ga,gc,x3,fz,e2,d5,d6,xq,hJ,HR⟩:=OC.out _ _ _ _ _ hc;obtain⟨o', Z,a8⟩:=zuD D I (by omega);have FF:Hid (∀ W3,_->_->_):=fun W3 h1 h2=>b1.out _ w2 W3 K lo hi D o' ga gc J O.out.size hc d5 d6 HR.out.1 HR.out.2 hJ a8 h1 h2;have T:Hid (Below w1.heap.size w1 w2):=a5;replace r1:=zab r1 a5;have f2:w2.frozen? ⟨w.heap.size,0,none⟩=false:=(a5.frozen (show (⟨w.heap.size,0,none⟩:Addr).block<w1.heap.size from s1)).trans f1;have s2:w1.heap.size<w2.heap.size:=yd _ _ x3;have s3:D<w2.heap.size:=yd _ _ xq;have s4:w.heap.size<w2.heap.size:=yd _ _ r1;have n1:¬ D=w1.heap.size:=(by omega);have n2:¬ w1.heap.size=D:=(by omega);have n3:¬ w.heap.size=w1.heap.size:=(by omega);have n4:¬ w1.heap.size=w.heap.size:=(by omega);have n5:¬ w.heap.size=D:=(by omega);have n6:¬ D=w.heap.size:=(by omega);clear a5 hc DP b1 OC hJ HR a8 f1 c3;obtain⟨gl,b2⟩:∃ z,G0.length=z:=⟨_,rfl⟩;have b4:Hid (G0.length=gl):=b2;rw[b2] at xq;clear b2
   go_wp2_with fail
   obtain⟨Y,hY⟩:∃ Y,w2.setCell ⟨w1.heap.size,q*5+3,none⟩ (.slice (some ⟨D,o', none⟩) I I)=Y:=⟨_,rfl⟩;have yq:Y.cell? ⟨D,0,none⟩=some (.slice ga gl gc):=(by rw[<- hY];exact(zku (ys _ _ _ _ (by show D≠w1.heap.size;omega))).trans xq);have y1:Y.cell? ⟨w.heap.size,0,none⟩=some (.slice none 0 0):=(by rw[<- hY];exact(zku (ys _ _ _ _ (by show w.heap.size≠w1.heap.size;omega))).trans r1);have yf:Y.frozen? ⟨w.heap.size,0,none⟩=false:=(by rw[<- hY];exact(zmH (ys _ _ _ _ (by show w.heap.size≠w1.heap.size;omega))).trans f2);have BY:Hid (Below w.heap.size w Y):=(by rw[<- hY];exact(O.out.trans (T.out.mono O.out.size)).setCell (show w.heap.size<=w1.heap.size from O.out.size) _);rw[hY] at FF |-;have e5:w.heap.size<Y.heap.size:=yd _ _ y1;have e6:D<Y.heap.size:=yd _ _ yq;clear hY x3 fz xq r1 f2 Z
   go_region
   have o9:zar (fun x=>x<=w1.heap.size) Y (Y.setCell ⟨w.heap.size,0,none⟩ (.slice ga gl gc)):=zar.set (X:=fun x=>x<=w1.heap.size) Y _ (Nat.le_of_lt s1);have a6:Hid _:=FF.out _ o9 (ys _ _ _ _ (by show w1.heap.size≠w.heap.size;omega));have r9:((Y.setCell ⟨w.heap.size,0,none⟩ (.slice ga gl gc)).drew).cell? ⟨w.heap.size,0,none⟩=some (.slice ga gl gc):=(by go_simp);have P9:Hid (zbN X (Y.setCell ⟨w.heap.size,0,none⟩ (.slice ga gl gc)).drew (some ⟨w1.heap.size,0,none⟩) M):=a6.out.2.1.off ⟨yj _,fun _ _ _=>rfl⟩;have G9:Hid (zpY X (Y.setCell ⟨w.heap.size,0,none⟩ (.slice ga gl gc)).drew ga G0):=a6.out.2.2.off ⟨yj _,fun _ _ _=>rfl⟩;have S9:Hid _:=a6.out.1;have B9:Hid (Below w.heap.size w (Y.setCell ⟨w.heap.size,0,none⟩ (.slice ga gl gc)).drew):=(BY.out.setCell (by simp) _).drew;clear FF a6 o9;obtain⟨w9,b9⟩:∃ w9,(Y.setCell ⟨w.heap.size,0,none⟩ (.slice ga gl gc)).drew=w9:=⟨_,rfl⟩;rw[b9] at r9 P9 G9 B9 |-;clear b9
   go_wp2_with fail
   exact yv (v:=.tuple #[.slice (some ⟨w1.heap.size,0,none⟩) n n,.agg #[.slice ga gl gc],.int .i64 0]) (by simp[results,Tryz.results146,go_sem,r9]) rfl (by first|exact⟨_,n,ga,gc,by rw[ML.out,b4.out],B9.out,(by rw[ML.out];exact S9.out),P9.out,G9.out⟩|exact⟨_,⟨n,ga,⟨gc,by rw[ML.out,b4.out]⟩,B9.out,(by rw[ML.out];exact S9.out),P9.out,G9.out⟩⟩)
 ·have eP:zfu L Fr k o t=zaU L Fr k o t:=by unfold zfu;rw[yb hH]
  rw[eP,ya hH,ya hH];have y1:decide (zaU L Fr k o t=0)=false:=yE hH;have y2:(zaU L Fr k o t == 0)=false:=by simp[hH]
  clear hL hB Z eP;generalize zaU L Fr k o t=E at *;generalize L.length=n at *
  go_enter Tryz.func146,Tryz.ntmps146
  go_wp2_with fail
  refine ye (DH.out _) ?_;rintro e w1 ⟨rfl,F⟩;have O:Hid (Below w.heap.size w w1):=(zaa _ _).trans (F.mono (by simp));have r1:w1.cell? ⟨w.heap.size,0,none⟩=some (.slice none 0 0):=zab (zad w #[.slice none 0 0] 47 0 rfl) F;have f1:w1.frozen? ⟨w.heap.size,0,none⟩=false:=(F.frozen (by simp)).trans (by go_simp);have s1:w.heap.size<w1.heap.size:=yd _ _ r1;clear F DH
  go_wp2_with fail
  have T:Hid (Below w.heap.size w (w1.setCell ⟨w.heap.size,0,none⟩ (.slice none 0 0))):=O.out.setCell (by simp) _;exact yv (v:=.tuple #[.slice none 0 0,.agg #[.slice none 0 0],.int .i64 E]) (by simp[results,Tryz.results146,go_sem,r1]) rfl (by first|exact⟨none,0,none,0,rfl,T.out,zdb,zbz X _,fun w' _ i hi=>absurd hi (yw _)⟩|exact⟨none,0,none,⟨0,rfl⟩,T.out,zdb,zbz X _,fun w' _ i hi=>absurd hi (yw _)⟩|exact⟨none,0,⟨none,0,rfl⟩,T.out,zdb,zbz X _,fun w' _ i hi=>absurd hi (yw _)⟩)
theorem zoF{w:World}{B g n:Nat}{F:Nat->Value}(h:w.rowIs g 47 n F)(M:n<=1000)(I:B<=g):w.ownsRow B 47 1 (.slice (some ⟨g,0,none⟩) n n) n (grow n F):=by
 obtain⟨D,hc,hs,J⟩:=h;refine⟨by rw[zpj,Nat.mul_one],Or.inr ⟨g,n,D,rfl,I,hc,yj _,by unfold maxLen;omega,by omega,?_⟩⟩;rw[Nat.mul_one];refine List.ext_getElem? fun j=>?_;rw[List.getElem?_take];by_cases E:j<n
 ·rw[yb E,Array.getElem?_toList,J j (by omega),zsW E]
 ·rw[ya E,List.getElem?_eq_none (by rw[zpj];omega)]
theorem zlL{B:Nat}{G:List Cl}{K:Nat->Value}{v:Value}{w:World}(h:zhX B G K v w):∃ a c,v=.slice a G.length c/\St (fun x=>x<B\/w.heap.size<=x) (fun w=>zaF w a G) w:=by
 obtain⟨a,c,e,_⟩:=h.cls;refine⟨a,c,e,fun w' F=>?_⟩;have E:=h.kept (w' := w') (fun j M hl _=>F.block j hl (by show ¬ (j<B\/w.heap.size<=j);omega));obtain⟨I,J,D,hc⟩:=E.cls;rw[e] at D;cases D;exact hc
theorem zwG{X:Nat->Prop}{B0 B:Nat}{L:List Pt}{K:Nat->Value}{lo hi:Nat->Nat}{W1 E:World}{q F vc:Nat}{J:Nat->Value}{I:Value}{va:Option Addr}{G:List Cl}(hX:∀ b,X b->b<B0)(h0:B0<=B)(hF:zxe L)(hq:q<L.length)(h:CpI B L K lo hi L.length W1)(h1:lo q<=F)(h2:F<hi q)
  (a7:∀ i,i<(pt L q).cm.length->∃ ga gc,J i=.slice ga (gr (pt L q).cm i).length gc/\St (fun x=>x<=F\/hi q<=x) (fun w=>zaF w ga (gr (pt L q).cm i)) W1) (ho:zar (fun x=>x=F) W1 E)
  (M:E.ownsRow (lo q) 47 1 I ((pt L q).cm.length+1) (grow (pt L q).cm.length J++[.slice va G.length vc])) (hg:St (fun x=>x<B0\/x=B) (fun w=>zaF w va G) E) :
  SlA (some ⟨B,0,none⟩) L.length L.length/\zbN X (E.setCell ⟨B,q*5+3,none⟩ I) (some ⟨B,0,none⟩) (L.set q { pt L q with cm:=(pt L q).cm++[G] }):=by
 have a9:=(h.at' q hq).1;have a6:=zaJ h.row (w' := E) (fun O Z=>by cases Z;exact ho.block B (h.row.lt B rfl).2 (by show ¬ B=F;omega));have a1:=zhR a6 (k:=q) (f:=3) (u:=I) (v:=I) (x:={ pt L q with cm:=(pt L q).cm++[G] }) hq (by omega) rfl;have oS:zar (fun x=>x=B) E (E.setCell ⟨B,q*5+3,none⟩ I):=zar.set (X:=fun x=>x=B) E _ rfl;have o2:zar (fun x=>x=F\/x=B) W1 (E.setCell ⟨B,q*5+3,none⟩ I):=(ho.mono (fun _ h=>Or.inl h)).trans (oS.mono (fun _ h=>Or.inr h));have D:=zaJ M (w' := E.setCell ⟨B,q*5+3,none⟩ I) (fun O Z=>ys _ _ _ _ (by show O≠B;have:=(M.lt O Z).1;omega))
 have U:St (fun x=>x<B0) (fun w=>zrH w I ((pt L q).cm++[G])) (E.setCell ⟨B,q*5+3,none⟩ I):=fun w' T=>by
  have a5:=zaJ D (w' := w') (fun O Z=>T.block O (D.lt O Z).2 (by show ¬ O<B0;have:=(D.lt O Z).1;omega));have el:((pt L q).cm++[G]).length=(pt L q).cm.length+1:=by simp
  rw[zsX,<- el] at a5;refine zyj a5 (fun i a8=>?_);rw[el] at a8;by_cases e:i=(pt L q).cm.length
  ·simp only[yb e];subst e;rw[zoa];exact⟨va,vc,rfl,hg w' ((oS.mono (fun _ h=>Or.inr h)).trans (T.mono (fun _ h=>Or.inl h)))⟩
  ·simp only[ya e];rw[zob (by omega)];obtain⟨ga,gc,e2,hs⟩:=a7 i (by omega);refine⟨ga,gc,e2,hs w' ((o2.mono (fun x U=>?_)).trans (T.mono (fun x U=>?_)))⟩
   ·show x<=F\/hi q<=x;rcases U with U|U
    ·exact Or.inl (by omega)
    ·exact Or.inl (by omega)
   ·show x<=F\/hi q<=x;have:x<B0:=U;exact Or.inl (by omega)
 have h3:=h.put (Y:=fun x=>x=F\/x=B) h0 hF hq a1 (fun i hi=>by simp only[ya hi]) o2 (fun b hb=>by
  rcases hb with hb|hb
  ·exact Or.inr (by omega)
  ·exact Or.inl (by omega)) (by simp only[if_true];exact U)
 exact⟨h3.1,zhc hX h3.2⟩
theorem zui:zvb:=fun X a c L Fr k o t ga gc G w hX hN hB b1 hL g4 b5 hG=>by
 have DH:Hid (∀ o1:Obj,_):=fun o1=>zcf a c L Fr k o t (w.alloc o1) hN hB b1 (hL.at.below (zaa _ _));have DG:Hid (∀ W,Below w.heap.size w W->_):=fun W hW=>zsO ga gc G W g4 b5 (hG.below hW);unfold zhP;by_cases hH:zaU L Fr k o t=0
 ·rw[hH] at DH;obtain⟨R,kk,rfl,hk,_⟩:=zcm hH;obtain⟨q,hq,a9,j0,_⟩:=R.mate hk;have c6:=R.few;have hF:=zdw R;have g9:(kk:Int)<(L.length:Int):=by omega
  have h8:(q:Int)<(L.length:Int):=by omega
  have eM:zkj L kk=pt L q:=by unfold zkj;rw[yi,hq,yi]
  have eP:zhL L Fr kk o t G=if zaz G≠0 then zaz G else if (pt L q).s=true then 5 else if (pt L q).cm.length=16 then 1 else 0:=by unfold zhL;rw[hH,eM];rfl
  have eL:ziv L kk G=L.set q { pt L q with cm:=(pt L q).cm++[zbw G] }:=by unfold ziv;rw[eM,yi,hq,yi]
  obtain⟨b,oo,ea,_,_,c2,_⟩:=hL.at kk hk;obtain⟨b', j4,e8,_,_,_,ca,cc,d3,_,d4⟩:=hL.at q a9;subst ea;cases e8;rw[hq] at c2;have i9:b<w.heap.size:=yd _ _ c2;rw[eP];by_cases hE:zaz G=0
  ·rw[ya (yI hE)];rw[hE] at DG;have eR:zzc G=zbw G:=yb hE;rw[eR] at DG
   cases hs:(pt L q).s with
   | true =>
    rw[yb rfl,ya (show ¬ (5:Int)=0 by decide)];rw[hs] at d4;clear hL hB b1 hF R hH eP eL eM hE eR hs hG b5;generalize G.length=gl at *;generalize (pt L q).cm.length=cl at *;generalize L.length=n at *;generalize zbw G=cF at *
    go_enter Tryz.func145,Tryz.ntmps145
    go_wp2_with fail
    refine ye (DH.out _) ?_;rintro e w1 ⟨rfl,F⟩;have I:Hid (Below w.heap.size w w1):=(zaa _ _).trans (F.mono (by simp));have r1:w1.cell? ⟨w.heap.size,0,none⟩=some (.slice ga gl gc):=zab (zad w #[.slice ga gl gc] 47 0 rfl) F;have s1:w.heap.size<w1.heap.size:=yd _ _ r1;clear F DH
    go_wp2_with fail
    refine ye (DG.out _ I.out) ?_;rintro e w2 ⟨v2,rfl,O,Kc,T⟩;obtain⟨va,vc,rfl,a6⟩:=zlL T;have a7:Hid _:=a6;have D:Hid (Below w.heap.size w w2):=I.out.trans (O.mono I.out.size);have e2:=zab c2 D.out;have e3:=zab d3 D.out;have e4:=zab d4 D.out;have c9:b<w2.heap.size:=yd _ _ e2;obtain⟨vl,U⟩:∃ z,cF.length=z:=⟨_,rfl⟩;have b3:Hid (cF.length=vl):=U;rw[U];clear U O T a6 DG r1
    go_wp2_with fail
    exact yv (v:=.tuple #[.slice none 0 0,.int .i64 5]) (by simp[results,Tryz.results145,go_sem]) rfl ⟨none,0,rfl,D.out.alloc D.out.size _,zdb,zbz X _⟩
   | false =>
    rw[ya (show ¬ (false=true) by decide)];rw[hs] at d4;by_cases b4:(pt L q).cm.length=16
    ·rw[yb b4,ya (show ¬ (1:Int)=0 by decide)];rw[b4] at d3;clear hL hB b1 hF R hH eP eL eM hE eR hs hG b5 b4;generalize G.length=gl at *;generalize L.length=n at *;generalize zbw G=cF at *
     go_enter Tryz.func145,Tryz.ntmps145
     go_wp2_with fail
     refine ye (DH.out _) ?_;rintro e w1 ⟨rfl,F⟩;have I:Hid (Below w.heap.size w w1):=(zaa _ _).trans (F.mono (by simp));have r1:w1.cell? ⟨w.heap.size,0,none⟩=some (.slice ga gl gc):=zab (zad w #[.slice ga gl gc] 47 0 rfl) F;have s1:w.heap.size<w1.heap.size:=yd _ _ r1;clear F DH
     go_wp2_with fail
     refine ye (DG.out _ I.out) ?_;rintro e w2 ⟨v2,rfl,O,Kc,T⟩;obtain⟨va,vc,rfl,a6⟩:=zlL T;have a7:Hid _:=a6;have D:Hid (Below w.heap.size w w2):=I.out.trans (O.mono I.out.size);have e2:=zab c2 D.out;have e3:=zab d3 D.out;have e4:=zab d4 D.out;have c9:b<w2.heap.size:=yd _ _ e2;obtain⟨vl,U⟩:∃ z,cF.length=z:=⟨_,rfl⟩;have b3:Hid (cF.length=vl):=U;rw[U];clear U O T a6 DG r1
     go_wp2_with fail
     exact yv (v:=.tuple #[.slice none 0 0,.int .i64 1]) (by simp[results,Tryz.results145,go_sem]) rfl ⟨none,0,rfl,D.out.alloc D.out.size _,zdb,zbz X _⟩
    ·rw[ya b4,yb rfl];obtain⟨i0,g8,i1,i2,i3⟩:=info_parts ztf;have g7:(pt L q).cm.length<=16:=(zbm.1 (R.ok q a9)).2.2.2.2.1.1;have i7:decide (((pt L q).cm.length:Int)=16)=false:=yE (by omega);have i8:(((pt L q).cm.length:Int) == 16)=false:=(by simp;omega);have DP:Hid (∀ W,Below w.heap.size w W->_):=fun W hW=>zdX (some ⟨b,oo,none⟩) c L W c6 hF (hL.at.below hW);have ML:Hid ((ziv L kk G).length=L.length):=(by show _=_;rw[eL];simp);have F:(pt L q).cm.length+1<=maxLen:=(by unfold maxLen;omega);have g6:((pt L q).cm.length+1)*24<=140737488355328:=by omega
     have OC:Hid (∀ (B:Nat) (W1:World) (K:Nat->Value) (lo hi:Nat->Nat),w.heap.size<=B->CpI B L K lo hi L.length W1->∃ bq cs,W1.cell? ⟨B,q*5+3,none⟩=some (.slice (some ⟨bq,0,none⟩) (pt L q).cm.length (pt L q).cm.length)/\(∀ o,W1.frozen? ⟨B,o,none⟩=false)/\B<lo q/\lo q<=bq/\lo q<=W1.heap.size/\W1.ownsRow (lo q) 47 1 (.slice (some ⟨bq,0,none⟩) (pt L q).cm.length (pt L q).cm.length) (pt L q).cm.length cs/\∀ (w9:World) (v9:Value) (va:Option Addr) (vc:Nat),zar (fun x=>x=bq) W1 w9->w9.ownsRow (lo q) 47 1 v9 ((pt L q).cm.length+1) (cs++[.slice va (zbw G).length vc])->St (fun x=>x<w.heap.size\/x=B) (fun w=>zaF w va (zbw G)) w9->SlA (some ⟨B,0,none⟩) L.length L.length/\zbN X (w9.setCell ⟨B,q*5+3,none⟩ v9) (some ⟨B,0,none⟩) (ziv L kk G)):=fun B W1 K lo hi g0 h=>by
      obtain⟨bq,J,h1,h2,h3,h4,h5⟩:=h.gs q a9;have h6:=(h.at' q a9).1;refine⟨bq,grow (pt L q).cm.length J,(h.cell a9 (show 3<5 by omega)).trans (by rw[h3];rfl),fun o=>h.row.frozenAt o,h6,h1,by have:=h4.lt;omega,zoF h4 (by omega) h1,fun w9 v9 va vc ho e5 hg=>?_⟩;rw[eL];exact zwG hX g0 hF a9 h h1 h2 h5 ho e5 hg
     clear hL hB b1 hF R hH eP eL eM hE eR hs hG b5 b4 hN;generalize ziv L kk G=M at *;generalize (pt L q).cm.length=cl at *;generalize zbw G=cF at *;generalize G.length=gl at *;obtain⟨n,hn⟩:∃ z,L.length=z:=⟨_,rfl⟩;rw[hn] at hk g9 a9 h8 c6 DH DP OC ML;rw[hn];clear hn
     go_enter Tryz.func145,Tryz.ntmps145
     go_wp2_with fail
     refine ye (DH.out _) ?_;rintro e w1 ⟨rfl,F⟩;have I:Hid (Below w.heap.size w w1):=(zaa _ _).trans (F.mono (by simp));have r1:w1.cell? ⟨w.heap.size,0,none⟩=some (.slice ga gl gc):=zab (zad w #[.slice ga gl gc] 47 0 rfl) F;have s1:w.heap.size<w1.heap.size:=yd _ _ r1;clear F DH
     go_wp2_with fail
     refine ye (DG.out _ I.out) ?_;rintro e w2 ⟨v2,rfl,O,Kc,T⟩;obtain⟨va,vc,rfl,a6⟩:=zlL T;have a7:Hid _:=a6;have D:Hid (Below w.heap.size w w2):=I.out.trans (O.mono I.out.size);have e2:=zab c2 D.out;have e3:=zab d3 D.out;have e4:=zab d4 D.out;have c9:b<w2.heap.size:=yd _ _ e2;obtain⟨vl,U⟩:∃ z,cF.length=z:=⟨_,rfl⟩;have b3:Hid (cF.length=vl):=U;rw[U];clear U O T a6 DG r1
     go_wp2_with fail
     obtain⟨Z,hZ⟩:∃ Z,w2.alloc (.cells #[.slice va vl vc] 47)=Z:=⟨_,rfl⟩;have d5:Z.cell? ⟨w2.heap.size,0,none⟩=some (.slice va vl vc):=(by rw[<- hZ];exact zad w2 _ _ 0 rfl);have BZ:Hid (Below w2.heap.size w2 Z):=(by rw[<- hZ];exact zaa _ _);have b2:Hid (Below w.heap.size w Z):=D.out.trans (BZ.out.mono D.out.size);have sZ:w2.heap.size<Z.heap.size:=yd _ _ d5;rw[hZ];clear hZ;refine ye (DP.out _ b2.out) ?_;rintro e w3 ⟨K,lo,hi,rfl,b6,hc⟩;obtain⟨bq,cs,x3,fz,d9,e9,e1,a8,b0⟩:=OC.out _ _ _ _ _ b2.out.size hc;obtain⟨lq,h7⟩:∃ lq,lo q=lq:=⟨_,rfl⟩;rw[h7] at d9 e9 e1 a8 b0;obtain⟨B,b9⟩:∃ B,Z.heap.size=B:=⟨_,rfl⟩;rw[b9] at x3 fz d9 b0;obtain⟨sb,c8⟩:∃ sb,w2.heap.size=sb:=⟨_,rfl⟩;have c7:Hid (Below w.heap.size w w3):=b2.out.trans (b6.mono b2.out.size);have xs:w3.cell? ⟨sb,0,none⟩=some (.slice va vl vc):=(by rw[<- c8];exact zab d5 b6);have d7:Hid (w3.ownsRow lq 47 1 (.slice (some ⟨bq,0,none⟩) cl cl) cl cs):=a8;have sB:B<w3.heap.size:=yd _ _ x3;have j3:w.heap.size<=B:=(by rw[<- b9];exact b2.out.size);have j1:sb<B:=(by omega);have sq:bq<w3.heap.size:=(World.ownsRow.lt d7.out bq rfl).2
     have FF:Hid (∀ (w9:World) (v9:Value),zar (fun x=>x=bq) w3 w9->w9.ownsRow lq 47 1 v9 (cl+1) (cs++[.slice va vl vc])->SlA (some ⟨B,0,none⟩) n n/\zbN X (w9.setCell ⟨B,q*5+3,none⟩ v9) (some ⟨B,0,none⟩) M):=fun w9 v9 h1 h2=>by
      refine b0 w9 v9 va vc h1 (by rw[b3.out];exact h2) ?_;have o1:zar (fun x=>x<w1.heap.size\/w2.heap.size<=x) w2 w9:=((zar.of_below BZ.out).trans (zar.mk (yG (yj _) b6.size) (fun b hb _=>b6.block b (by omega)))).trans (h1.mono (fun x (hx:x=bq)=>Or.inr (by omega)))
      exact St.less (St.off a7.out o1) (fun x hx=>by
       have j2:=I.out.size;rcases hx with hx|hx
       ·exact Or.inl (by omega)
       ·exact Or.inr (by omega))
     rw[b9,c8];clear b9 c8 b6 hc a8 b0 DP OC a7 b3 d5
     go_wp2_with fail
     refine wp_region_noPanic ?_;refine zeR (S:=fun e6=>e6.cell? ⟨B,q*5+3,none⟩=some (.slice (some ⟨bq,0,none⟩) cl cl)/\e6.cell? ⟨sb,0,none⟩=some (.slice va vl vc)) 12 (by kernel_rfl) (by(try dsimp only);go_keep) (fun hHeld=>?_);refine zaf (i:=0) ?_;simp[Act.put];refine zaf (i:=1) ?_;simp[Act.put];refine zaf (i:=2) ?_;simp[Act.put];refine zaf (i:=3) ?_;simp[Act.put];refine zaf (i:=4) ?_;simp[Act.put];refine zaf (i:=5) ?_;simp[Act.put];refine zaf (i:=6) ?_;simp[Act.put];refine zaf (i:=7) ?_;simp[Act.put];refine zbD (i:=8) (by kernel_rfl) rfl (fun K hK=>?_);go_simp;refine hK.out _ _ ?_ (fun hHeld=>?_)
     ·exact⟨zab x3 ((yk w3.heap.size w3).drew.alloc (yj _) (.cells #[.slice va vl vc] 47)),zab xs ((yk w3.heap.size w3).drew.alloc (yj _) (.cells #[.slice va vl vc] 47))⟩
     clear hK K hHeld
     try simp[Act.put]
     refine zbD (i:=9) (by kernel_rfl) rfl (fun K hK=>?_);refine zjH rfl (.tmp 61) (.tmp 63) 119 rfl lq 47 i0 (.agg #[.slice none 0 0]) 1 24 Tryz.underlying119 g8 i1 i2 i3 rfl (by decide) (.slice (some ⟨bq,0,none⟩) cl cl) cl cs rfl (World.ownsRow.alloc (World.ownsRow.drew d7.out) _) (some ⟨w3.heap.size,0,none⟩) 1 1 [.slice va vl vc] (fun h=>by cases h) rfl rfl (fun ad e j u hj=>by cases e;exact zAz (zad w3.drew _ _ 0 rfl) j u hj) (by intro u hu;simp at hu;subst hu;rfl) F g6 (((yk w3.heap.size w3).drew.alloc (yj _) (.cells #[.slice va vl vc] 47)) |> fun h=>yG e1 h.size) ?_;intro v9 w9 b7 a5;have t3:w9.cell? ⟨B,q*5+3,none⟩=some (.slice (some ⟨bq,0,none⟩) cl cl):=a5.cell (a:=⟨B,q*5+3,none⟩) (zab x3 ((yk w3.heap.size w3).drew.alloc (yj _) (.cells #[.slice va vl vc] 47))) (by intro e;have e2:B=bq:=Option.some.inj e;omega);have t0:w9.cell? ⟨sb,0,none⟩=some (.slice va vl vc):=a5.cell (a:=⟨sb,0,none⟩) (zab xs ((yk w3.heap.size w3).drew.alloc (yj _) (.cells #[.slice va vl vc] 47))) (by intro e;have e2:sb=bq:=Option.some.inj e;omega);have f9:w9.frozen? ⟨B,q*5+3,none⟩=false:=(yC (a5.block B (by show B<(w3.drew.alloc _).heap.size;simp;omega) (by intro e;have e2:B=bq:=Option.some.inj e;omega))).trans (((yk w3.heap.size w3).drew.alloc (yj _) (.cells #[.slice va vl vc] 47)).frozen (show (⟨B,q*5+3,none⟩:Addr).block<w3.heap.size from sB) |>.trans (fz _))
     have o9:zar (fun x=>x=bq) w3 w9:=(zar.of_below ((yk w3.heap.size w3).drew.alloc (yj _) (.cells #[.slice va vl vc] 47))).trans (zar.grown a5 (fun b hb=>by cases hb;rfl));have e7:Hid (Below w.heap.size w w9):=(c7.out.trans (((yk w3.heap.size w3).drew.alloc (yj _) (.cells #[.slice va vl vc] 47)).mono c7.out.size)).grown a5 (by show w.heap.size<=(w3.drew.alloc _).heap.size;simp;have:=c7.out.size;omega) (fun kk hk=>by cases hk;show w.heap.size<=bq;omega);have d6:Hid (w9.ownsRow lq 47 1 v9 (cl+1) (cs++[.slice va vl vc])):=b7;have b8:Hid _:=FF.out w9 v9 o9 b7;refine hK.out _ _ ?_ (fun hHeld=>?_)
     ·exact⟨t3,t0⟩
     obtain⟨i4,i5,h9⟩:∃ a c,v9=.slice a (cl+1) c:=by
      rcases d6.out.2 with ⟨e,e0⟩ |⟨g5,d8,i6,e,_⟩
      ·exact⟨none,0,by rw[e,e0]⟩
      ·exact⟨_,d8,e⟩
     subst h9;clear hK K hHeld b7 a5 d6 o9 FF
     try simp[Act.put]
     refine zbD (i:=10) (by kernel_rfl) rfl (fun K hK=>?_);go_simp;refine hK.out _ _ ?_ (fun hHeld=>?_)
     ·(try dsimp only)
      exact⟨t3,t0⟩
     clear hK K
     try simp[Act.put]
     refine zaf (i:=11) ?_;simp[Act.put];refine zeQ (by kernel_rfl) rfl (fun K hK=>?_);go_simp;refine hK.out _ _ ?_;clear hK K
     try simp[Act.put]
     refine zeP (by kernel_rfl) ?_ _;refine NoPanic.normal ?_;have B9:Hid (Below w.heap.size w (w9.setCell ⟨B,q*5+3,none⟩ (.slice i4 (cl+1) i5))):=e7.out.setCell (by show w.heap.size<=B;omega) _;clear t3 t0 f9
     go_wp2_with fail
     exact yv (v:=.tuple #[.slice (some ⟨B,0,none⟩) n n,.int .i64 0]) (by simp[results,Tryz.results145,go_sem]) rfl (by first|exact⟨_,n,by rw[ML.out],B9.out,(by rw[ML.out];exact b8.out.1),b8.out.2⟩|exact⟨_,⟨n,by rw[ML.out]⟩,B9.out,(by rw[ML.out];exact b8.out.1),b8.out.2⟩)
  ·rw[yb hE,ya hE];have y1:decide (zaz G=0)=false:=yE hE;have y2:(zaz G == 0)=false:=(by simp[hE]);clear hL hB b1 hF R hH eP eL eM hG b5;generalize zaz G=E at *;generalize G.length=gl at *;generalize (pt L q).cm.length=cl at *;generalize (pt L q).s=j5 at *;generalize L.length=n at *;generalize zzc G=cF at *
   go_enter Tryz.func145,Tryz.ntmps145
   go_wp2_with fail
   refine ye (DH.out _) ?_;rintro e w1 ⟨rfl,F⟩;have I:Hid (Below w.heap.size w w1):=(zaa _ _).trans (F.mono (by simp));have r1:w1.cell? ⟨w.heap.size,0,none⟩=some (.slice ga gl gc):=zab (zad w #[.slice ga gl gc] 47 0 rfl) F;have s1:w.heap.size<w1.heap.size:=yd _ _ r1;clear F DH
   go_wp2_with fail
   refine ye (DG.out _ I.out) ?_;rintro e w2 ⟨v2,rfl,O,Kc,T⟩;obtain⟨va,vc,rfl,a6⟩:=zlL T;have a7:Hid _:=a6;have D:Hid (Below w.heap.size w w2):=I.out.trans (O.mono I.out.size);have e2:=zab c2 D.out;have e3:=zab d3 D.out;have e4:=zab d4 D.out;have c9:b<w2.heap.size:=yd _ _ e2;obtain⟨vl,U⟩:∃ z,cF.length=z:=⟨_,rfl⟩;have b3:Hid (cF.length=vl):=U;rw[U];clear U O T a6 DG r1
   go_wp2_with fail
   exact yv (v:=.tuple #[.slice none 0 0,.int .i64 E]) (by simp[results,Tryz.results145,go_sem]) rfl ⟨none,0,rfl,D.out.alloc D.out.size _,zdb,zbz X _⟩
 ·have eP:zhL L Fr k o t G=zaU L Fr k o t:=by unfold zhL;rw[yb hH]
  rw[eP,ya hH];have y1:decide (zaU L Fr k o t=0)=false:=yE hH;have y2:(zaU L Fr k o t == 0)=false:=by simp[hH]
  clear hL hB b1 eP DG;generalize zaU L Fr k o t=E at *;generalize L.length=n at *;generalize G.length=gl at *
  go_enter Tryz.func145,Tryz.ntmps145
  go_wp2_with fail
  refine ye (DH.out _) ?_;rintro e w1 ⟨rfl,F⟩;have I:Hid (Below w.heap.size w w1):=(zaa _ _).trans (F.mono (by simp));clear F DH
  go_wp2_with fail
  exact yv (v:=.tuple #[.slice none 0 0,.int .i64 E]) (by simp[results,Tryz.results145,go_sem]) rfl ⟨none,0,rfl,I.out,zdb,zbz X _⟩
end Go.Proofs.YtcbcpomacdngmaaGreat
