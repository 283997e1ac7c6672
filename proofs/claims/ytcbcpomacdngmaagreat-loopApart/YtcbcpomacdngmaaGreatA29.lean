/-
  x
-/
import Derived.Test.YtcbcpomacdngmaaGreatA28
namespace Go.Proofs.YtcbcpomacdngmaaGreat
set_option maxRecDepth 100000
set_option maxHeartbeats 4000000
set_option linter.unusedVariables false
open Go.RowKit Go.ChangeShapes Go.WideShapes Tryz
variable{w w':World}{b o:Nat}
theorem Rv(W:Wd)(D:List Value)(t:Nat):∀ j u,D[j]?=some u->(W.alloc (.cells D.toArray t)).cell? ((⟨W.heap.size,0,none⟩:Addr).add j)=some u:=fun j u E=>by
 rw[Addr.add_lit,yD];exact aK W D.toArray t j (by simpa using E)
theorem XF(h:w'.heap[b]?=w.heap[b]?):w'.cell? ⟨b,o,none⟩=w.cell? ⟨b,o,none⟩:=by simp[World.cell?,h]
theorem Rw(h:w'.heap[b]?=w.heap[b]?):w'.frozen? ⟨b,o,none⟩=w.frozen? ⟨b,o,none⟩:=yF (w:=w) h
theorem XG(x:Pt):∀ u ∈ eO x (.slice none 0 0),u.oneCell' = true:=fun u D=>by
 unfold eO at D;simp at D;rcases D with rfl|rfl|rfl|rfl|rfl <;> rfl
theorem Rx(x y:Pt):∀ u ∈ eO x (.slice none 0 0)++eO y (.slice none 0 0),u.oneCell' = true:=fun u D=>by
 rcases List.mem_append.1 D with h|h
 ·exact XG _ u h
 ·exact XG _ u h
theorem Ry:Mv:=fun X a c L Fr o t w hX hN hB a5 hL=>by
 have DC:Hid _:=NC a c L Fr w hN hB a5 hL.at;have DO:Hid (∀ W,_):=fun W=>XD Fr o t W;by_cases h1:dK L Fr=0
 ·rw[h1] at DC;have R:=qK.1 h1;have a6:=R.few;have hF:=sN R;by_cases I:iI Fr o t=0
  ·rw[I] at DO
   have F:fU L Fr o t=if 10<L.length then 1 else 0:=by
    unfold iI at I;unfold fU;rw[yd (yL h1)];by_cases Z:0<=o/\o<Fr
    ·rw[yd (yL Z)] at I |-;by_cases e2:0<=t/\t<=1000
     ·rw[yd (yL e2)]
     ·rw[ye e2] at I;cases I
    ·rw[ye Z] at I;cases I
   have c8:IntKind.i64.wrap ((L.length:Int)+2)=(L.length:Int)+2:=(by rw[yK];omega);have b7:IntKind.i64.wrap ((L.length:Int)+1)=(L.length:Int)+1:=(by rw[yK];omega);by_cases b2:10<L.length
   ·rw[ye b2] at F;have er:jB L Fr o t=[]:=(by unfold jB;rw[F];rfl);have en:mX L Fr o t=0:=(by unfold mX;rw[F];rfl);rw[er,en,F];have hd:decide ((12:Int)<(L.length:Int)+2)=true:=yI oaa;clear hL hB a5 hF R h1 I F er en;generalize L.length=n at *
    go_enter func142,ntmps142
    go_wp2_with fail
    refine yj DC.out ?_;rintro e w1 ⟨rfl,hb⟩;have D:Hid (Bl w w1):=hb;clear hb DC
    go_wp2_with fail
    refine yj (DO _) ?_;rintro e w9 ⟨rfl,O⟩;have J:=O.symm;clear O;subst J
    go_wp2_with fail
    exact yz (v:=.tuple #[.slice none 0 0,.int .i64 0,.int .i64 1]) (by simp[results,results142,go_sem]) rfl ⟨none,0,rfl,D.out,jG,jF X _⟩
   ·rw[yd b2] at F;have er:jB L Fr o t=bJ L o t:=(by unfold jB;rw[ye F]);have en:mX L Fr o t=(L.length:Int):=(by unfold mX;rw[ye F]);rw[er,en,F];have hd:decide ((12:Int)<(L.length:Int)+2)=false:=yH oaa;obtain⟨i0,c7,c9,d4,d5⟩:=info_parts Mo;have DP:Hid (∀ W,Bl w W->_):=fun W hW=>zJ a c L W a6 hF (hL.at.below hW)
    have a9:Hid (∀ (B:Nat) (W1 w3:Wd) (K:Nat->Value) (lo hi:Nat->Nat) (v2:Value),w.heap.size<=B->CpI B L K lo hi L.length W1->aC (fun x=>x=B) W1 w3->w3.ownsRow B 121 5 v2 (L.length+2) (gN L K++(eO ⟨o,t,(L.length:Int)+1,[],false⟩ (.slice none 0 0)++eO ⟨o,t,(L.length:Int),[],false⟩ (.slice none 0 0)))->∃ va vc,v2=.slice va (L.length+2) vc/\SlA va (L.length+2) vc/\bU X w3 va (bJ L o t)):=fun B W1 w3 K lo hi v2 b5 h ho U=>by
     rw[<- List.append_assoc,VK,VK] at U;have el:(bJ L o t).length=L.length+2:=(by unfold bJ;simp);have eo:L++[(⟨o,t,(L.length:Int)+1,[],false⟩:Pt)] ++ [⟨o,t,(L.length:Int),[],false⟩]=bJ L o t:=(by unfold bJ;simp);rw[eo] at U;rw[<- el] at U |-
     obtain⟨va,vc,e,hs,hp⟩:=XE b5 U (fun i b6=>by
      rw[el] at b6;by_cases e:i<L.length
      ·have Z:pt (bJ L o t) i=pt L i:=(by unfold bJ;exact uW e);rw[Z,List.length_append,List.length_singleton,yd oaa,yd oaa];exact h.grs b5 hF ho e (fun b hb=>Or.inl (by have:b=B:=hb;have:=(h.at' i e).1;omega))
      ·have hc:(pt (bJ L o t) i).cm=[]:=by
        rw[mG (by rw[el];exact b6)];unfold bJ;rw[List.getElem_append_right oaa];have:i-L.length=0\/i-L.length=1:=oaa;rcases this with h0|h0
        ·simp[h0]
        ·simp[h0]
       rw[hc]
       have hk:(if i=(L++[(⟨o,t,(L.length:Int)+1,[],false⟩:Pt)]).length then Value.slice none 0 0 else if i=L.length then Value.slice none 0 0 else K i)=.slice none 0 0:=by
        rw[List.length_append,List.length_singleton];by_cases Z:i=L.length
        ·simp[Z]
        ·have:i=L.length+1:=oaa;simp[this]
       rw[hk];exact fun w' _=>mM.nil w')
     exact⟨va,vc,e,hs,zL hX hp⟩
    have b8:Hid (∀ K,(gN L K).length=L.length*5):=fun K=>nZ _ _;have EL:Hid ((bJ L o t).length=L.length+2):=(by show _=_;unfold bJ;simp);clear hL hB a5 hF R h1 I F er en hN;generalize bJ L o t=M at *;have b1:Hid (∀ (B:Nat) (W1:Wd) (K:Nat->Value) (lo hi:Nat->Nat),CpI B L K lo hi L.length W1->W1.ownsRow B 121 5 (.slice (some ⟨B,0,none⟩) L.length L.length) L.length (gN L K)):=fun B W1 K lo hi h=>h.row;obtain⟨n,hn⟩:∃ z,L.length=z:=⟨_,rfl⟩;rw[hn] at a6 b2 c8 b7 hd DC DP a9 EL b1;rw[hn];clear hn;have b9:n+2<=maxLen:=oai;have c6:(n+2)*56<=140737488355328:=oaa
    go_enter func142,ntmps142
    go_wp2_with fail
    refine yj DC.out ?_;rintro e w1 ⟨rfl,hb⟩;have D:Hid (Bl w w1):=hb;clear hb DC
    go_wp2_with fail
    refine yj (DO _) ?_;rintro e w9 ⟨rfl,O⟩;have J:=O.symm;clear O;subst J
    go_wp2_with fail
    refine yj (DP _ D.out) ?_;rintro e w2 ⟨K,lo,hi,rfl,a7,hc⟩;have b3:Hid (Bl w1 w2):=a7;have b0:Hid (w2.ownsRow w1.heap.size 121 5 (.slice (some ⟨w1.heap.size,0,none⟩) n n) n (gN L K)):=b1.out _ _ _ _ _ hc;have FF:Hid (∀ (w3:Wd) (v2:Value),_->_->_):=fun w3 v2 h1 I=>a9.out _ w2 w3 K lo hi v2 D.size hc h1 I;have s2:w1.heap.size<w2.heap.size:=(World.ownsRow.lt b0.out _ rfl).2;clear a7 hc DP a9 b1 b8;generalize gN L K=cs at *
    go_wp2_with (at_builtin;refine wpList_append_own _ rfl _ _ 26 rfl w1.heap.size 121 i0 (.agg #[.int .i64 0,.int .i64 0,.int .i64 0,.slice none 0 0,.bool false]) 5 56 underlying26 c7 c9 d4 d5 rfl oae (.slice (some ⟨w1.heap.size,0,none⟩) n n) n cs rfl (World.ownsRow.alloc b0.out _) ⟨w2.heap.size,0,none⟩ 2 2 (eO ⟨o,t,(n:Int)+1,[],false⟩ (.slice none 0 0)++eO ⟨o,t,(n:Int),[],false⟩ (.slice none 0 0)) rfl rfl ?c1 ?c2 b9 c6 ?c5 ?_)
    case c1=>first|exact Rv w2 [.int .i64 o,.int .i64 t,.int .i64 ((n:Int)+1),.slice none 0 0,.bool false,.int .i64 o,.int .i64 t,.int .i64 (n:Int),.slice none 0 0,.bool false] _|exact fun j u h=>h
    case c2=>exact Rx _ _
    case c5=>first|omega|(simp;omega)
    intro v3 w3 a8 T _;have o3:aC (fun x=>x=w1.heap.size) w2 w3:=(aC.of_below (aB w2 _)).trans (aC.grown T (fun b hb=>by cases hb;rfl));obtain⟨va,vc,rfl,hs,hp⟩:=FF.out w3 v3 o3 a8;have b4:Hid (Bl w w3):=(D.trans ((b3.trans ((aB w2 _).mono b3.size)).mono D.size)).grown T (by simp;have:=D.size;omega) (fun kk hk=>by cases hk;exact D.size);have HS:Hid _:=hs;have HP:Hid _:=hp;clear a8 T o3 hs hp FF b0
    go_wp2_with fail
    exact yz (v:=.tuple #[.slice va (n+2) vc,.int .i64 (n:Int),.int .i64 0]) (by simp[results,results142,go_sem]) rfl (by first|exact⟨va,vc,by rw[EL.out],b4.out,(by rw[EL.out];exact HS.out),HP.out⟩|exact⟨va,⟨vc,by rw[EL.out]⟩,b4.out,(by rw[EL.out];exact HS.out),HP.out⟩)
  ·have F:fU L Fr o t=iI Fr o t:=by
    unfold iI at I;unfold fU iI;rw[yd (yL h1)];by_cases Z:0<=o/\o<Fr
    ·rw[yd (yL Z)] at I |-;by_cases e2:0<=t/\t<=1000
     ·rw[yd (yL e2)] at I;exact absurd rfl I
     ·rw[ye e2,yd (yL Z),ye e2]
    ·rw[ye Z,ye Z]
   have er:jB L Fr o t=[]:=(by unfold jB;rw[F,yd I]);have en:mX L Fr o t=0:=(by unfold mX;rw[F,yd I]);rw[er,en,F];have y1:decide (iI Fr o t=0)=false:=yH I;have y2:(iI Fr o t == 0)=false:=(by simp[I]);clear hL hB a5 hF R h1 F er en;generalize iI Fr o t=E at *;generalize L.length=n at *
   go_enter func142,ntmps142
   go_wp2_with fail
   refine yj DC.out ?_;rintro e w1 ⟨rfl,hb⟩;have D:Hid (Bl w w1):=hb;clear hb DC
   go_wp2_with fail
   refine yj (DO _) ?_;rintro e w9 ⟨rfl,O⟩;have J:=O.symm;clear O;subst J
   go_wp2_with fail
   exact yz (v:=.tuple #[.slice none 0 0,.int .i64 0,.int .i64 E]) (by simp[results,results142,go_sem]) rfl ⟨none,0,rfl,D.out,jG,jF X _⟩
 ·have F:fU L Fr o t=dK L Fr:=by unfold fU;rw[ye h1]
  have er:jB L Fr o t=[]:=by unfold jB;rw[F,yd h1]
  have en:mX L Fr o t=0:=by unfold mX;rw[F,yd h1]
  rw[er,en,F];have y1:decide (dK L Fr=0)=false:=yH h1;have y2:(dK L Fr == 0)=false:=by simp[h1]
  clear hL hB a5 F er en DO;generalize dK L Fr=E at *;generalize L.length=n at *
  go_enter func142,ntmps142
  go_wp2_with fail
  refine yj DC.out ?_;rintro e w1 ⟨rfl,hb⟩;have D:Hid (Bl w w1):=hb;clear hb DC
  go_wp2_with fail
  exact yz (v:=.tuple #[.slice none 0 0,.int .i64 0,.int .i64 E]) (by simp[results,results142,go_sem]) rfl ⟨none,0,rfl,D.out,jG,jF X _⟩
theorem Rz(F D:Nat)(h:D<=1000):∃ E,(∀ W,(Instr.slice 119 (.slice (some ⟨F,0,none⟩) (D+1) (D+1)) (some (.int .i64 1)) none none).run prog W=.ok (.slice (some ⟨F,E,none⟩) D D) W)/\(D=0\/E=1):=by
 by_cases e:D=0
 ·subst e;exact⟨0,fun W=>oaf,Or.inl rfl⟩
 ·have h1:¬ ((D:Int)+1=1):=oaa
  have I:(1:Int)<=(D:Int)+1:=oaa
  exact⟨1,fun W=>(by first|(go_simp;done)|(go_simp;intro h;omega)),Or.inr rfl⟩
theorem Sa:Na:=fun X a c L Fr k o t w hX hN hB Z hL=>by
 have DH:Hid (∀ o1:Obj,_):=fun o1=>FX a c L Fr k o t (w.alloc o1) hN hB Z (hL.at.below (aB _ _));unfold uZ xV;by_cases hH:aX L Fr k o t=0
 ·rw[hH] at DH;obtain⟨R,q,rfl,hq,_⟩:=lF hH;have a9:=R.few;have hF:=sN R;have d9:(q:Int)<(L.length:Int):=oaa
  obtain⟨b,oo,ea,_,_,_,ca,cc,c3,_,_⟩:=hL.at q hq;subst ea;have e3:b<w.heap.size:=yi _ _ c3;by_cases h0:(pt L q).cm.length=0
  ·have eP:gK L Fr q o t=8:=(by unfold gK;rw[hH,yk,ye h0];rfl);rw[eP];rw[h0] at c3;clear hL hB Z hF R hH eP h0;generalize L.length=n at *
   go_enter func146,ntmps146
   go_wp2_with fail
   refine yj (DH _) ?_;rintro e w1 ⟨rfl,F⟩;have O:Hid (Bl w w1):=(aB _ _).trans (F.mono oac);have r1:w1.cell? ⟨w.heap.size,0,none⟩=some (.slice none 0 0):=aA (aK w #[.slice none 0 0] 47 0 rfl) F;have f1:w1.frozen? ⟨w.heap.size,0,none⟩=false:=(F.frozen oac).trans oaf;have s1:w.heap.size<w1.heap.size:=yi _ _ r1;replace c3:=aA c3 O;have e4:¬ b=w.heap.size:=oaa;have e1:¬ w.heap.size=b:=oaa;clear F DH
   go_wp2_with fail
   have T:Hid (Bl w (w1.setCell ⟨w.heap.size,0,none⟩ (.slice none 0 0))):=O.setCell oac _;exact yz (v:=.tuple #[.slice none 0 0,.agg #[.slice none 0 0],.int .i64 8]) (by simp[results,results146,go_sem,r1]) rfl (by first|exact⟨none,0,none,0,rfl,T.out,jG,jF X _,fun w' _ i hi=>absurd hi (yB _)⟩|exact⟨none,0,none,⟨0,rfl⟩,T.out,jG,jF X _,fun w' _ i hi=>absurd hi (yB _)⟩|exact⟨none,0,⟨none,0,rfl⟩,T.out,jG,jF X _,fun w' _ i hi=>absurd hi (yB _)⟩)
  ·have eP:gK L Fr q o t=0:=(by unfold gK;rw[hH,yk,yd h0];rfl);rw[eP,ye rfl,ye rfl,yk];obtain⟨I,a7⟩:∃ I,(pt L q).cm.length=I+1:=⟨(pt L q).cm.length-1,oaa⟩;have c9:I<=16:=(by have:=(kH.1 (R.ok q hq)).2.2.2.2.1.1;omega);rw[a7] at c3;have DP:Hid (∀ W,Bl w W->_):=fun W hW=>zJ (some ⟨b,oo,none⟩) c L W a9 hF (hL.at.below hW)
   have b1:Hid (∀ (B:Nat) (U W3:Wd) (K:Nat->Value) (lo hi:Nat->Nat) (D o' : Nat) (ga:OA) (gc:Nat) (J:Nat->Value),w.heap.size<=B->CpI B L K lo hi L.length U->lo q<=D->D<hi q->U.rowIs D 47 (I+1) J->(∀ i,i<I+1->∃ ga gc,J i=.slice ga (gr (pt L q).cm i).length gc/\St (fun x=>x<=D\/hi q<=x) (fun w=>aO w ga (gr (pt L q).cm i)) U)->J 0=.slice ga (gr (pt L q).cm 0).length gc->(I=0\/o' = 1)->aC (fun x=>x<=B) (U.setCell ⟨B,q*5+3,none⟩ (.slice (some ⟨D,o', none⟩) I I)) W3->W3.heap[B]?=(U.setCell ⟨B,q*5+3,none⟩ (.slice (some ⟨D,o', none⟩) I I)).heap[B]?->SlA (some ⟨B,0,none⟩) L.length L.length/\bU X W3 (some ⟨B,0,none⟩) (jQ L q)/\vN X W3 ga (gr (pt L q).cm 0)):=fun B U W3 K lo hi D o' ga gc J c7 h F a5 b0 b7 c8 a8 b8 c6=>by
    have d7:=(h.at' q hq).1;have ho:aC (fun x=>x<=B) U W3:=(aC.set (X:=fun x=>x<=B) U _ (yr B)).trans b8;have a1:=vS h.row (k:=q) (f:=3) (u:=.slice (some ⟨D,o', none⟩) I I) (v:=.slice (some ⟨D,o', none⟩) I I) (x:={ pt L q with cm:=(pt L q).cm.drop 1 }) hq oaa rfl;have a2:=fG a1 (w' := W3) (fun kk hk=>by cases hk;exact c6);have hd:((pt L q).cm.drop 1).length=I:=by simp[a7]
    have hx:St (fun x=>x<w.heap.size) (fun w=>mM w (.slice (some ⟨D,o', none⟩) I I) ((pt L q).cm.drop 1)) W3:=fun w' e0=>by
     have h2:aC (fun x=>x<=B) U w' := ho.trans (e0.mono (fun x (hx:x<w.heap.size)=>(by show x<=B;omega)));have b3:=b0.of_block (h2.block D b0.lt (by show ¬ D<=B;omega));refine⟨some ⟨D,o', none⟩,I,by rw[hd],⟨(fun e=>by cases e),by rw[hd];exact yr _,oaa⟩,fun i d4=>?_⟩;rw[hd] at d4;obtain⟨b5,b6,e,hs⟩:=b7 (i+1) oaa;have d8:o' = 1:=by rcases a8 with h|h;omega;exact h
     subst d8;refine⟨D,1,b5,b6,rfl,?_,?_⟩
     ·rw[KE _ oaa,Nat.add_comm 1 i,b3.cell oaa,e]
     ·rw[KE _ oaa];exact(hs.off (h2.mono (fun x (hx:x<=B)=>(by show x<=D\/hi q<=x;omega)))).at
    have h1:=h.put (Y:=fun x=>x<=B) (B0:=w.heap.size) c7 hF hq a2 (fun i hi=>by simp only[yd hi]) ho (fun b hb=>Or.inl hb) (by simp only[if_true];exact hx);refine⟨h1.1,?_,?_⟩
    ·unfold jQ;rw[yk];exact zL hX h1.2
    ·obtain⟨b5,b6,e,hs⟩:=b7 0 oaa;rw[c8] at e;simp only[Value.slice.injEq] at e;obtain⟨rfl,_,rfl⟩:=e;exact(hs.off (ho.mono (fun x (hx:x<=B)=>(by show x<=D\/hi q<=x;omega)))).less (fun x hx=>(by show x<=D\/hi q<=x;have:=hX x hx;omega))
   have OC:Hid (∀ (B:Nat) (U:Wd) (K:Nat->Value) (lo hi:Nat->Nat),CpI B L K lo hi L.length U->∃ D J ga gc,U.cell? ⟨B,q*5+3,none⟩=some (.slice (some ⟨D,0,none⟩) (I+1) (I+1))/\(∀ o,U.frozen? ⟨B,o,none⟩=false)/\B<D/\lo q<=D/\D<hi q/\U.cell? ⟨D,0,none⟩=some (.slice ga (gr (pt L q).cm 0).length gc)/\J 0=.slice ga (gr (pt L q).cm 0).length gc/\Hid (U.rowIs D 47 (I+1) J/\(∀ i,i<I+1->∃ ga gc,J i=.slice ga (gr (pt L q).cm i).length gc/\St (fun x=>x<=D\/hi q<=x) (fun w=>aO w ga (gr (pt L q).cm i)) U))):=fun B U K lo hi h=>by
    obtain⟨D,J,h1,h2,h3,h4,h5⟩:=h.gs q hq;have d7:=(h.at' q hq).1;rw[a7] at h3 h4 h5;obtain⟨ga,gc,e,_⟩:=h5 0 oaa;refine⟨D,J,ga,gc,?_,fun o=>h.row.frozenAt o,oaa,h1,h2,?_,e,⟨h4,h5⟩⟩
    ·exact(h.cell hq (show 3<5 by omega)).trans (by rw[h3];rfl)
    ·rw[h4.cell oaa,e]
   have ML:Hid ((jQ L q).length=L.length):=(by show _=_;unfold jQ;simp);clear hL hB Z hF R hH eP h0 a7 hN;generalize jQ L q=M at *;generalize gr (pt L q).cm 0=G0 at *;obtain⟨n,hn⟩:∃ z,L.length=z:=⟨_,rfl⟩;rw[hn] at hq d9 a9 DH DP b1 OC ML;rw[hn];clear hn
   go_enter func146,ntmps146
   go_wp2_with fail
   refine yj (DH _) ?_;rintro e w1 ⟨rfl,F⟩;have O:Hid (Bl w w1):=(aB _ _).trans (F.mono oac);have r1:w1.cell? ⟨w.heap.size,0,none⟩=some (.slice none 0 0):=aA (aK w #[.slice none 0 0] 47 0 rfl) F;have f1:w1.frozen? ⟨w.heap.size,0,none⟩=false:=(F.frozen oac).trans oaf;have s1:w.heap.size<w1.heap.size:=yi _ _ r1;replace c3:=aA c3 O;have k1:¬ ((I:Int)+1=0):=oaa;have k2:decide ((I:Int)+1=0)=false:=yH k1;have k3:((I:Int)+1 == 0)=false:=oab;clear F DH
   go_wp2_with fail
   refine yj (DP _ O.out) ?_;rintro e w2 ⟨K,lo,hi,rfl,a5,hc⟩;obtain⟨D,J,ga,gc,x3,fz,e2,d5,d6,xq,hJ,HR⟩:=OC.out _ _ _ _ _ hc;obtain⟨o', Z,a8⟩:=Rz D I oaa;have FF:Hid (∀ W3,_->_->_):=fun W3 h1 h2=>b1.out _ w2 W3 K lo hi D o' ga gc J O.size hc d5 d6 HR.out.1 HR.out.2 hJ a8 h1 h2;have T:Hid (Bl w1 w2):=a5;replace r1:=aA r1 a5;have f2:w2.frozen? ⟨w.heap.size,0,none⟩=false:=(a5.frozen (show (⟨w.heap.size,0,none⟩:Addr).block<w1.heap.size from s1)).trans f1;have s2:w1.heap.size<w2.heap.size:=yi _ _ x3;have s3:D<w2.heap.size:=yi _ _ xq;have s4:w.heap.size<w2.heap.size:=yi _ _ r1;have n1:¬ D=w1.heap.size:=oaa;have n2:¬ w1.heap.size=D:=oaa;have n3:¬ w.heap.size=w1.heap.size:=oaa;have n4:¬ w1.heap.size=w.heap.size:=oaa;have n5:¬ w.heap.size=D:=oaa;have n6:¬ D=w.heap.size:=oaa;clear a5 hc DP b1 OC hJ HR a8 f1 c3;obtain⟨gl,b2⟩:∃ z,G0.length=z:=⟨_,rfl⟩;have b4:Hid (G0.length=gl):=b2;rw[b2] at xq;clear b2
   go_wp2_with fail
   obtain⟨Y,hY⟩:∃ Y,w2.setCell ⟨w1.heap.size,q*5+3,none⟩ (.slice (some ⟨D,o', none⟩) I I)=Y:=⟨_,rfl⟩;have yq:Y.cell? ⟨D,0,none⟩=some (.slice ga gl gc):=(by rw[<- hY];exact(XF (yx _ _ _ _ (by show D≠w1.heap.size;omega))).trans xq);have y1:Y.cell? ⟨w.heap.size,0,none⟩=some (.slice none 0 0):=(by rw[<- hY];exact(XF (yx _ _ _ _ (by show w.heap.size≠w1.heap.size;omega))).trans r1);have yf:Y.frozen? ⟨w.heap.size,0,none⟩=false:=(by rw[<- hY];exact(Rw (yx _ _ _ _ (by show w.heap.size≠w1.heap.size;omega))).trans f2);have BY:Hid (Bl w Y):=(by rw[<- hY];exact(O.trans (T.mono O.size)).setCell (show w.heap.size<=w1.heap.size from O.size) _);rw[hY] at FF |-;have e5:w.heap.size<Y.heap.size:=yi _ _ y1;have e6:D<Y.heap.size:=yi _ _ yq;clear hY x3 fz xq r1 f2 Z
   go_region
   have o9:aC (fun x=>x<=w1.heap.size) Y (Y.setCell ⟨w.heap.size,0,none⟩ (.slice ga gl gc)):=aC.set (X:=fun x=>x<=w1.heap.size) Y _ (Nat.le_of_lt s1);have a6:Hid _:=FF.out _ o9 (yx _ _ _ _ (by show w1.heap.size≠w.heap.size;omega));have r9:((Y.setCell ⟨w.heap.size,0,none⟩ (.slice ga gl gc)).drew).cell? ⟨w.heap.size,0,none⟩=some (.slice ga gl gc):=oaf;have P9:Hid (bU X (Y.setCell ⟨w.heap.size,0,none⟩ (.slice ga gl gc)).drew (some ⟨w1.heap.size,0,none⟩) M):=a6.out.2.1.off ⟨yr _,fun _ _ _=>rfl⟩;have G9:Hid (vN X (Y.setCell ⟨w.heap.size,0,none⟩ (.slice ga gl gc)).drew ga G0):=a6.out.2.2.off ⟨yr _,fun _ _ _=>rfl⟩;have S9:Hid _:=a6.out.1;have B9:Hid (Bl w (Y.setCell ⟨w.heap.size,0,none⟩ (.slice ga gl gc)).drew):=(BY.setCell oac _).drew;clear FF a6 o9;obtain⟨w9,b9⟩:∃ w9,(Y.setCell ⟨w.heap.size,0,none⟩ (.slice ga gl gc)).drew=w9:=⟨_,rfl⟩;rw[b9] at r9 P9 G9 B9 |-;clear b9
   go_wp2_with fail
   exact yz (v:=.tuple #[.slice (some ⟨w1.heap.size,0,none⟩) n n,.agg #[.slice ga gl gc],.int .i64 0]) (by simp[results,results146,go_sem,r9]) rfl (by first|exact⟨_,n,ga,gc,by rw[ML.out,b4.out],B9.out,(by rw[ML.out];exact S9.out),P9.out,G9.out⟩|exact⟨_,⟨n,ga,⟨gc,by rw[ML.out,b4.out]⟩,B9.out,(by rw[ML.out];exact S9.out),P9.out,G9.out⟩⟩)
 ·have eP:gK L Fr k o t=aX L Fr k o t:=by unfold gK;rw[ye hH]
  rw[eP,yd hH,yd hH];have y1:decide (aX L Fr k o t=0)=false:=yH hH;have y2:(aX L Fr k o t == 0)=false:=by simp[hH]
  clear hL hB Z eP;generalize aX L Fr k o t=E at *;generalize L.length=n at *
  go_enter func146,ntmps146
  go_wp2_with fail
  refine yj (DH _) ?_;rintro e w1 ⟨rfl,F⟩;have O:Hid (Bl w w1):=(aB _ _).trans (F.mono oac);have r1:w1.cell? ⟨w.heap.size,0,none⟩=some (.slice none 0 0):=aA (aK w #[.slice none 0 0] 47 0 rfl) F;have f1:w1.frozen? ⟨w.heap.size,0,none⟩=false:=(F.frozen oac).trans oaf;have s1:w.heap.size<w1.heap.size:=yi _ _ r1;clear F DH
  go_wp2_with fail
  have T:Hid (Bl w (w1.setCell ⟨w.heap.size,0,none⟩ (.slice none 0 0))):=O.setCell oac _;exact yz (v:=.tuple #[.slice none 0 0,.agg #[.slice none 0 0],.int .i64 E]) (by simp[results,results146,go_sem,r1]) rfl (by first|exact⟨none,0,none,0,rfl,T.out,jG,jF X _,fun w' _ i hi=>absurd hi (yB _)⟩|exact⟨none,0,none,⟨0,rfl⟩,T.out,jG,jF X _,fun w' _ i hi=>absurd hi (yB _)⟩|exact⟨none,0,⟨none,0,rfl⟩,T.out,jG,jF X _,fun w' _ i hi=>absurd hi (yB _)⟩)
