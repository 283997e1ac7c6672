/-
  x
-/
import Derived.Test.YtcbcpomacdngmaaGreatS26
namespace Go.Proofs.YtcbcpomacdngmaaGreat
set_option maxRecDepth 100000
set_option maxHeartbeats 4000000
set_option linter.unusedVariables false
open Go.RowKit Go.ChangeShapes Go.WideShapes
theorem zqt(W:World)(D:List Value)(t:Nat):∀ j u,D[j]?=some u->(W.alloc (.cells D.toArray t)).cell? ((⟨W.heap.size,0,none⟩:Addr).add j)=some u:=fun j u E=>by
 rw[Addr.add_lit,yB];exact zad W D.toArray t j (by simpa using E)
theorem zky{w w' : World}{b o:Nat}(h:w'.heap[b]?=w.heap[b]?):w'.cell? ⟨b,o,none⟩=w.cell? ⟨b,o,none⟩:=by simp[World.cell?,h]
theorem zmM{w w' : World}{b o:Nat}(h:w'.heap[b]?=w.heap[b]?):w'.frozen? ⟨b,o,none⟩=w.frozen? ⟨b,o,none⟩:=yD (w:=w) h
theorem zkU(x:Pt):∀ u ∈ zcQ x (.slice none 0 0),u.oneCell' = true:=fun u D=>by
 unfold zcQ at D;simp at D;rcases D with rfl|rfl|rfl|rfl|rfl <;> rfl
theorem zun(x y:Pt):∀ u ∈ zcQ x (.slice none 0 0)++zcQ y (.slice none 0 0),u.oneCell' = true:=fun u D=>by
 rcases List.mem_append.1 D with h|h
 ·exact zkU _ u h
 ·exact zkU _ u h
theorem ztZ:zvn:=fun X a c L Fr o t w hX hN hB a6 hL=>by
 have DC:Hid _:=zhL a c L Fr w hN hB a6 hL.at;have DO:Hid (∀ W,_):=fun W=>zgb Fr o t W;by_cases h1:zba L Fr=0
 ·rw[h1] at DC;have R:=zcI.1 h1;have a7:=R.few;have hF:=zdt R;by_cases I:zcx Fr o t=0
  ·rw[I] at DO
   have F:zfw L Fr o t=if 10<L.length then 1 else 0:=by
    unfold zcx at I;unfold zfw;rw[ya (yJ h1)];by_cases e1:0<=o/\o<Fr
    ·rw[ya (yJ e1)] at I |-;by_cases e2:0<=t/\t<=1000
     ·rw[ya (yJ e2)]
     ·rw[yb e2] at I;cases I
    ·rw[yb e1] at I;cases I
   have c9:IntKind.i64.wrap ((L.length:Int)+2)=(L.length:Int)+2:=(by rw[yI];omega);have b8:IntKind.i64.wrap ((L.length:Int)+1)=(L.length:Int)+1:=(by rw[yI];omega);by_cases b3:10<L.length
   ·rw[yb b3] at F;have er:znH L Fr o t=[]:=(by unfold znH;rw[F];rfl);have en:zju L Fr o t=0:=(by unfold zju;rw[F];rfl);rw[er,en,F];have hd:decide ((12:Int)<(L.length:Int)+2)=true:=yG (by omega);clear hL hB a6 hF R h1 I F er en;generalize L.length=n at *
    go_enter Tryz.func142,Tryz.ntmps142
    go_wp2_with fail
    refine ye DC.out ?_;rintro e Z ⟨rfl,U⟩;have D:Hid (Below w.heap.size w Z):=U;clear U DC
    go_wp2_with fail
    refine ye (DO.out _) ?_;rintro e w9 ⟨rfl,O⟩;have J:=O.symm;clear O;subst J
    go_wp2_with fail
    exact yw (v:=.tuple #[.slice none 0 0,.int .i64 0,.int .i64 1]) (by simp[results,Tryz.results142,go_sem]) rfl ⟨none,0,rfl,D.out,zdc,zbv X _⟩
   ·rw[ya b3] at F;have er:znH L Fr o t=zcw L o t:=(by unfold znH;rw[yb F]);have en:zju L Fr o t=(L.length:Int):=(by unfold zju;rw[yb F]);rw[er,en,F];have hd:decide ((12:Int)<(L.length:Int)+2)=false:=yF (by omega);obtain⟨i0,c8,d4,d5,d6⟩:=info_parts zwm;have DP:Hid (∀ W,Below w.heap.size w W->_):=fun W hW=>zdX a c L W a7 hF (hL.at.below hW)
    have b0:Hid (∀ (B:Nat) (W1 w3:World) (K:Nat->Value) (lo hi:Nat->Nat) (v2:Value),w.heap.size<=B->CpI B L K lo hi L.length W1->zaq (fun x=>x=B) W1 w3->w3.ownsRow B 121 5 v2 (L.length+2) (zcb L K++(zcQ ⟨o,t,(L.length:Int)+1,[],false⟩ (.slice none 0 0)++zcQ ⟨o,t,(L.length:Int),[],false⟩ (.slice none 0 0)))->∃ va vc,v2=.slice va (L.length+2) vc/\SlA va (L.length+2) vc/\zbK X w3 va (zcw L o t)):=fun B W1 w3 K lo hi v2 b6 h ho a5=>by
     rw[<- List.append_assoc,zjy,zjy] at a5;have el:(zcw L o t).length=L.length+2:=(by unfold zcw;simp);have eo:L++[(⟨o,t,(L.length:Int)+1,[],false⟩:Pt)] ++ [⟨o,t,(L.length:Int),[],false⟩]=zcw L o t:=(by unfold zcw;simp);rw[eo] at a5;rw[<- el] at a5 |-
     obtain⟨va,vc,e,hs,hp⟩:=zus b6 a5 (fun i b7=>by
      rw[el] at b7;by_cases e:i<L.length
      ·have e1:pt (zcw L o t) i=pt L i:=(by unfold zcw;exact zlR e);rw[e1,List.length_append,List.length_singleton,ya (by omega),ya (by omega)];exact h.grs b6 hF ho e (fun b U=>Or.inl (by have:b=B:=U;have:=(h.at' i e).1;omega))
      ·have hc:(pt (zcw L o t) i).cm=[]:=by
        rw[zdO (by rw[el];exact b7)];unfold zcw;rw[List.getElem_append_right (by omega)];have:i-L.length=0\/i-L.length=1:=(by omega);rcases this with h0|h0
        ·simp[h0]
        ·simp[h0]
       rw[hc]
       have hk:(if i=(L++[(⟨o,t,(L.length:Int)+1,[],false⟩:Pt)]).length then Value.slice none 0 0 else if i=L.length then Value.slice none 0 0 else K i)=.slice none 0 0:=by
        rw[List.length_append,List.length_singleton];by_cases e1:i=L.length
        ·simp[e1]
        ·have:i=L.length+1:=(by omega);simp[this]
       rw[hk];exact fun w' _=>zrV.nil w')
     exact⟨va,vc,e,hs,zhd hX hp⟩
    have b9:Hid (∀ K,(zcb L K).length=L.length*5):=fun K=>zbI _ _;have EL:Hid ((zcw L o t).length=L.length+2):=(by show _=_;unfold zcw;simp);clear hL hB a6 hF R h1 I F er en hN;generalize zcw L o t=M at *;have b2:Hid (∀ (B:Nat) (W1:World) (K:Nat->Value) (lo hi:Nat->Nat),CpI B L K lo hi L.length W1->W1.ownsRow B 121 5 (.slice (some ⟨B,0,none⟩) L.length L.length) L.length (zcb L K)):=fun B W1 K lo hi h=>h.row;obtain⟨n,hn⟩:∃ z,L.length=z:=⟨_,rfl⟩;rw[hn] at a7 b3 c9 b8 hd DC DP b0 EL b2;rw[hn];clear hn;have c6:n+2<=maxLen:=(by unfold maxLen;omega);have c7:(n+2)*56<=140737488355328:=by omega
    go_enter Tryz.func142,Tryz.ntmps142
    go_wp2_with fail
    refine ye DC.out ?_;rintro e Z ⟨rfl,U⟩;have D:Hid (Below w.heap.size w Z):=U;clear U DC
    go_wp2_with fail
    refine ye (DO.out _) ?_;rintro e w9 ⟨rfl,O⟩;have J:=O.symm;clear O;subst J
    go_wp2_with fail
    refine ye (DP.out _ D.out) ?_;rintro e w2 ⟨K,lo,hi,rfl,a8,hc⟩;have b4:Hid (Below Z.heap.size Z w2):=a8;have b1:Hid (w2.ownsRow Z.heap.size 121 5 (.slice (some ⟨Z.heap.size,0,none⟩) n n) n (zcb L K)):=b2.out _ _ _ _ _ hc;have FF:Hid (∀ (w3:World) (v2:Value),_->_->_):=fun w3 v2 h1 I=>b0.out _ w2 w3 K lo hi v2 D.out.size hc h1 I;have s2:Z.heap.size<w2.heap.size:=(World.ownsRow.lt b1.out _ rfl).2;clear a8 hc DP b0 b2 b9;generalize zcb L K=cs at *
    go_wp2_with (at_builtin;refine wpList_append_own _ rfl _ _ 26 rfl Z.heap.size 121 i0 (.agg #[.int .i64 0,.int .i64 0,.int .i64 0,.slice none 0 0,.bool false]) 5 56 Tryz.underlying26 c8 d4 d5 d6 rfl (by decide) (.slice (some ⟨Z.heap.size,0,none⟩) n n) n cs rfl (World.ownsRow.alloc b1.out _) ⟨w2.heap.size,0,none⟩ 2 2 (zcQ ⟨o,t,(n:Int)+1,[],false⟩ (.slice none 0 0)++zcQ ⟨o,t,(n:Int),[],false⟩ (.slice none 0 0)) rfl rfl ?c1 ?c2 c6 c7 ?c5 ?_)
    case c1=>first|exact zqt w2 [.int .i64 o,.int .i64 t,.int .i64 ((n:Int)+1),.slice none 0 0,.bool false,.int .i64 o,.int .i64 t,.int .i64 (n:Int),.slice none 0 0,.bool false] _|exact fun j u h=>h
    case c2=>exact zun _ _
    case c5=>first|omega|(simp;omega)
    intro v3 w3 a9 T _;have o3:zaq (fun x=>x=Z.heap.size) w2 w3:=(zaq.of_below (zaa w2 _)).trans (zaq.grown T (fun b U=>by cases U;rfl));obtain⟨va,vc,rfl,hs,hp⟩:=FF.out w3 v3 o3 a9;have b5:Hid (Below w.heap.size w w3):=(D.out.trans ((b4.out.trans ((zaa w2 _).mono b4.out.size)).mono D.out.size)).grown T (by simp;have:=D.out.size;omega) (fun kk hk=>by cases hk;exact D.out.size);have HS:Hid _:=hs;have HP:Hid _:=hp;clear a9 T o3 hs hp FF b1
    go_wp2_with fail
    exact yw (v:=.tuple #[.slice va (n+2) vc,.int .i64 (n:Int),.int .i64 0]) (by simp[results,Tryz.results142,go_sem]) rfl (by first|exact⟨va,vc,by rw[EL.out],b5.out,(by rw[EL.out];exact HS.out),HP.out⟩|exact⟨va,⟨vc,by rw[EL.out]⟩,b5.out,(by rw[EL.out];exact HS.out),HP.out⟩)
  ·have F:zfw L Fr o t=zcx Fr o t:=by
    unfold zcx at I;unfold zfw zcx;rw[ya (yJ h1)];by_cases e1:0<=o/\o<Fr
    ·rw[ya (yJ e1)] at I |-;by_cases e2:0<=t/\t<=1000
     ·rw[ya (yJ e2)] at I;exact absurd rfl I
     ·rw[yb e2,ya (yJ e1),yb e2]
    ·rw[yb e1,yb e1]
   have er:znH L Fr o t=[]:=(by unfold znH;rw[F,ya I]);have en:zju L Fr o t=0:=(by unfold zju;rw[F,ya I]);rw[er,en,F];have y1:decide (zcx Fr o t=0)=false:=yF I;have y2:(zcx Fr o t == 0)=false:=(by simp[I]);clear hL hB a6 hF R h1 F er en;generalize zcx Fr o t=E at *;generalize L.length=n at *
   go_enter Tryz.func142,Tryz.ntmps142
   go_wp2_with fail
   refine ye DC.out ?_;rintro e Z ⟨rfl,U⟩;have D:Hid (Below w.heap.size w Z):=U;clear U DC
   go_wp2_with fail
   refine ye (DO.out _) ?_;rintro e w9 ⟨rfl,O⟩;have J:=O.symm;clear O;subst J
   go_wp2_with fail
   exact yw (v:=.tuple #[.slice none 0 0,.int .i64 0,.int .i64 E]) (by simp[results,Tryz.results142,go_sem]) rfl ⟨none,0,rfl,D.out,zdc,zbv X _⟩
 ·have F:zfw L Fr o t=zba L Fr:=by unfold zfw;rw[yb h1]
  have er:znH L Fr o t=[]:=by unfold znH;rw[F,ya h1]
  have en:zju L Fr o t=0:=by unfold zju;rw[F,ya h1]
  rw[er,en,F];have y1:decide (zba L Fr=0)=false:=yF h1;have y2:(zba L Fr == 0)=false:=by simp[h1]
  clear hL hB a6 F er en DO;generalize zba L Fr=E at *;generalize L.length=n at *
  go_enter Tryz.func142,Tryz.ntmps142
  go_wp2_with fail
  refine ye DC.out ?_;rintro e Z ⟨rfl,U⟩;have D:Hid (Below w.heap.size w Z):=U;clear U DC
  go_wp2_with fail
  exact yw (v:=.tuple #[.slice none 0 0,.int .i64 0,.int .i64 E]) (by simp[results,Tryz.results142,go_sem]) rfl ⟨none,0,rfl,D.out,zdc,zbv X _⟩
theorem zuS(F D:Nat)(h:D<=1000):∃ E,(∀ W,(Instr.slice 119 (.slice (some ⟨F,0,none⟩) (D+1) (D+1)) (some (.int .i64 1)) none none).run Tryz.prog W=.ok (.slice (some ⟨F,E,none⟩) D D) W)/\(D=0\/E=1):=by
 by_cases e:D=0
 ·subst e;exact⟨0,fun W=>by go_simp,Or.inl rfl⟩
 ·have h1:¬ ((D:Int)+1=1):=by omega
  have I:(1:Int)<=(D:Int)+1:=by omega
  exact⟨1,fun W=>(by first|(go_simp;done)|(go_simp;intro h;omega)),Or.inr rfl⟩
theorem zuv:zvq:=fun X a c L Fr k o t w hX hN hB a5 hL=>by
 have DH:Hid (∀ o1:Obj,_):=fun o1=>zce a c L Fr k o t (w.alloc o1) hN hB a5 (hL.at.below (zaa _ _));unfold zhS zuu;by_cases hH:zaU L Fr k o t=0
 ·rw[hH] at DH;obtain⟨R,q,rfl,hq,_⟩:=zco hH;have b0:=R.few;have hF:=zdt R;have e0:(q:Int)<(L.length:Int):=by omega
  obtain⟨b,oo,ea,_,_,_,ca,cc,c3,_,_⟩:=hL.at q hq;subst ea;have e4:b<w.heap.size:=yd _ _ c3;by_cases h0:(pt L q).cm.length=0
  ·have eP:zfy L Fr q o t=8:=(by unfold zfy;rw[hH,yi,yb h0];rfl);rw[eP];rw[h0] at c3;clear hL hB a5 hF R hH eP h0;generalize L.length=n at *
   go_enter Tryz.func146,Tryz.ntmps146
   go_wp2_with fail
   refine ye (DH.out _) ?_;rintro e F ⟨rfl,I⟩;have T:Hid (Below w.heap.size w F):=(zaa _ _).trans (I.mono (by simp));have r1:F.cell? ⟨w.heap.size,0,none⟩=some (.slice none 0 0):=zab (zad w #[.slice none 0 0] 47 0 rfl) I;have f1:F.frozen? ⟨w.heap.size,0,none⟩=false:=(I.frozen (by simp)).trans (by go_simp);have s1:w.heap.size<F.heap.size:=yd _ _ r1;replace c3:=zab c3 T.out;have e5:¬ b=w.heap.size:=(by omega);have e2:¬ w.heap.size=b:=(by omega);clear I DH
   go_wp2_with fail
   have U:Hid (Below w.heap.size w (F.setCell ⟨w.heap.size,0,none⟩ (.slice none 0 0))):=T.out.setCell (by simp) _;exact yw (v:=.tuple #[.slice none 0 0,.agg #[.slice none 0 0],.int .i64 8]) (by simp[results,Tryz.results146,go_sem,r1]) rfl (by first|exact⟨none,0,none,0,rfl,U.out,zdc,zbv X _,fun w' _ i hi=>absurd hi (yx _)⟩|exact⟨none,0,none,⟨0,rfl⟩,U.out,zdc,zbv X _,fun w' _ i hi=>absurd hi (yx _)⟩|exact⟨none,0,⟨none,0,rfl⟩,U.out,zdc,zbv X _,fun w' _ i hi=>absurd hi (yx _)⟩)
  ·have eP:zfy L Fr q o t=0:=(by unfold zfy;rw[hH,yi,ya h0];rfl);rw[eP,yb rfl,yb rfl,yi];obtain⟨O,a8⟩:∃ O,(pt L q).cm.length=O+1:=⟨(pt L q).cm.length-1,by omega⟩;have d4:O<=16:=(by have:=(zbj.1 (R.ok q hq)).2.2.2.2.1.1;omega);rw[a8] at c3;have DP:Hid (∀ W,Below w.heap.size w W->_):=fun W hW=>zdX (some ⟨b,oo,none⟩) c L W b0 hF (hL.at.below hW)
   have b2:Hid (∀ (B:Nat) (Z W3:World) (K:Nat->Value) (lo hi:Nat->Nat) (D o' : Nat) (ga:Option Addr) (gc:Nat) (J:Nat->Value),w.heap.size<=B->CpI B L K lo hi L.length Z->lo q<=D->D<hi q->Z.rowIs D 47 (O+1) J->(∀ i,i<O+1->∃ ga gc,J i=.slice ga (gr (pt L q).cm i).length gc/\St (fun x=>x<=D\/hi q<=x) (fun w=>zaI w ga (gr (pt L q).cm i)) Z)->J 0=.slice ga (gr (pt L q).cm 0).length gc->(O=0\/o' = 1)->zaq (fun x=>x<=B) (Z.setCell ⟨B,q*5+3,none⟩ (.slice (some ⟨D,o', none⟩) O O)) W3->W3.heap[B]?=(Z.setCell ⟨B,q*5+3,none⟩ (.slice (some ⟨D,o', none⟩) O O)).heap[B]?->SlA (some ⟨B,0,none⟩) L.length L.length/\zbK X W3 (some ⟨B,0,none⟩) (zhO L q)/\zqm X W3 ga (gr (pt L q).cm 0)):=fun B Z W3 K lo hi D o' ga gc J c8 h I a6 b1 b8 c9 a9 b9 c7=>by
    have d8:=(h.at' q hq).1;have ho:zaq (fun x=>x<=B) Z W3:=(zaq.set (X:=fun x=>x<=B) Z _ (yj B)).trans b9;have a1:=zhV h.row (k:=q) (f:=3) (u:=.slice (some ⟨D,o', none⟩) O O) (v:=.slice (some ⟨D,o', none⟩) O O) (x:={ pt L q with cm:=(pt L q).cm.drop 1 }) hq (by omega) rfl;have a2:=zaK a1 (w' := W3) (fun kk hk=>by cases hk;exact c7);have hd:((pt L q).cm.drop 1).length=O:=by simp[a8]
    have hx:St (fun x=>x<w.heap.size) (fun w=>zrV w (.slice (some ⟨D,o', none⟩) O O) ((pt L q).cm.drop 1)) W3:=fun w' e1=>by
     have h2:zaq (fun x=>x<=B) Z w' := ho.trans (e1.mono (fun x (hx:x<w.heap.size)=>(by show x<=B;omega)));have b4:=b1.of_block (h2.block D b1.lt (by show ¬ D<=B;omega));refine⟨some ⟨D,o', none⟩,O,by rw[hd],⟨(fun e=>by cases e),by rw[hd];exact yj _,by omega⟩,fun i d5=>?_⟩;rw[hd] at d5;obtain⟨b6,b7,e,hs⟩:=b8 (i+1) (by omega);have d9:o' = 1:=by rcases a9 with h|h;omega;exact h
     subst d9;refine⟨D,1,b6,b7,rfl,?_,?_⟩
     ·rw[zok _ (by omega),Nat.add_comm 1 i,b4.cell (by omega),e]
     ·rw[zok _ (by omega)];exact(hs.off (h2.mono (fun x (hx:x<=B)=>(by show x<=D\/hi q<=x;omega)))).at
    have h1:=h.put (Y:=fun x=>x<=B) (B0:=w.heap.size) c8 hF hq a2 (fun i hi=>by simp only[ya hi]) ho (fun b hb=>Or.inl hb) (by simp only[if_true];exact hx);refine⟨h1.1,?_,?_⟩
    ·unfold zhO;rw[yi];exact zhd hX h1.2
    ·obtain⟨b6,b7,e,hs⟩:=b8 0 (by omega);rw[c9] at e;simp only[Value.slice.injEq] at e;obtain⟨rfl,_,rfl⟩:=e;exact(hs.off (ho.mono (fun x (hx:x<=B)=>(by show x<=D\/hi q<=x;omega)))).less (fun x hx=>(by show x<=D\/hi q<=x;have:=hX x hx;omega))
   have OC:Hid (∀ (B:Nat) (Z:World) (K:Nat->Value) (lo hi:Nat->Nat),CpI B L K lo hi L.length Z->∃ D J ga gc,Z.cell? ⟨B,q*5+3,none⟩=some (.slice (some ⟨D,0,none⟩) (O+1) (O+1))/\(∀ o,Z.frozen? ⟨B,o,none⟩=false)/\B<D/\lo q<=D/\D<hi q/\Z.cell? ⟨D,0,none⟩=some (.slice ga (gr (pt L q).cm 0).length gc)/\J 0=.slice ga (gr (pt L q).cm 0).length gc/\Hid (Z.rowIs D 47 (O+1) J/\(∀ i,i<O+1->∃ ga gc,J i=.slice ga (gr (pt L q).cm i).length gc/\St (fun x=>x<=D\/hi q<=x) (fun w=>zaI w ga (gr (pt L q).cm i)) Z))):=fun B Z K lo hi h=>by
    obtain⟨D,J,h1,h2,h3,h4,h5⟩:=h.gs q hq;have d8:=(h.at' q hq).1;rw[a8] at h3 h4 h5;obtain⟨ga,gc,e,_⟩:=h5 0 (by omega);refine⟨D,J,ga,gc,?_,fun o=>h.row.frozenAt o,by omega,h1,h2,?_,e,⟨h4,h5⟩⟩
    ·exact(h.cell hq (show 3<5 by omega)).trans (by rw[h3];rfl)
    ·rw[h4.cell (by omega),e]
   have ML:Hid ((zhO L q).length=L.length):=(by show _=_;unfold zhO;simp);clear hL hB a5 hF R hH eP h0 a8 hN;generalize zhO L q=M at *;generalize gr (pt L q).cm 0=G0 at *;obtain⟨n,hn⟩:∃ z,L.length=z:=⟨_,rfl⟩;rw[hn] at hq e0 b0 DH DP b2 OC ML;rw[hn];clear hn
   go_enter Tryz.func146,Tryz.ntmps146
   go_wp2_with fail
   refine ye (DH.out _) ?_;rintro e F ⟨rfl,I⟩;have T:Hid (Below w.heap.size w F):=(zaa _ _).trans (I.mono (by simp));have r1:F.cell? ⟨w.heap.size,0,none⟩=some (.slice none 0 0):=zab (zad w #[.slice none 0 0] 47 0 rfl) I;have f1:F.frozen? ⟨w.heap.size,0,none⟩=false:=(I.frozen (by simp)).trans (by go_simp);have s1:w.heap.size<F.heap.size:=yd _ _ r1;replace c3:=zab c3 T.out;have k1:¬ ((O:Int)+1=0):=(by omega);have k2:decide ((O:Int)+1=0)=false:=yF k1;have k3:((O:Int)+1 == 0)=false:=(by simp;omega);clear I DH
   go_wp2_with fail
   refine ye (DP.out _ T.out) ?_;rintro e w2 ⟨K,lo,hi,rfl,a6,hc⟩;obtain⟨D,J,ga,gc,x3,fz,e3,d6,d7,xq,hJ,HR⟩:=OC.out _ _ _ _ _ hc;obtain⟨o', a5,a9⟩:=zuS D O (by omega);have FF:Hid (∀ W3,_->_->_):=fun W3 h1 h2=>b2.out _ w2 W3 K lo hi D o' ga gc J T.out.size hc d6 d7 HR.out.1 HR.out.2 hJ a9 h1 h2;have U:Hid (Below F.heap.size F w2):=a6;replace r1:=zab r1 a6;have f2:w2.frozen? ⟨w.heap.size,0,none⟩=false:=(a6.frozen (show (⟨w.heap.size,0,none⟩:Addr).block<F.heap.size from s1)).trans f1;have s2:F.heap.size<w2.heap.size:=yd _ _ x3;have s3:D<w2.heap.size:=yd _ _ xq;have s4:w.heap.size<w2.heap.size:=yd _ _ r1;have n1:¬ D=F.heap.size:=(by omega);have n2:¬ F.heap.size=D:=(by omega);have n3:¬ w.heap.size=F.heap.size:=(by omega);have n4:¬ F.heap.size=w.heap.size:=(by omega);have n5:¬ w.heap.size=D:=(by omega);have n6:¬ D=w.heap.size:=(by omega);clear a6 hc DP b2 OC hJ HR a9 f1 c3;obtain⟨gl,b3⟩:∃ z,G0.length=z:=⟨_,rfl⟩;have b5:Hid (G0.length=gl):=b3;rw[b3] at xq;clear b3
   go_wp2_with fail
   obtain⟨Y,hY⟩:∃ Y,w2.setCell ⟨F.heap.size,q*5+3,none⟩ (.slice (some ⟨D,o', none⟩) O O)=Y:=⟨_,rfl⟩;have yq:Y.cell? ⟨D,0,none⟩=some (.slice ga gl gc):=(by rw[<- hY];exact(zky (yv _ _ _ _ (by show D≠F.heap.size;omega))).trans xq);have y1:Y.cell? ⟨w.heap.size,0,none⟩=some (.slice none 0 0):=(by rw[<- hY];exact(zky (yv _ _ _ _ (by show w.heap.size≠F.heap.size;omega))).trans r1);have yf:Y.frozen? ⟨w.heap.size,0,none⟩=false:=(by rw[<- hY];exact(zmM (yv _ _ _ _ (by show w.heap.size≠F.heap.size;omega))).trans f2);have BY:Hid (Below w.heap.size w Y):=(by rw[<- hY];exact(T.out.trans (U.out.mono T.out.size)).setCell (show w.heap.size<=F.heap.size from T.out.size) _);rw[hY] at FF |-;have e6:w.heap.size<Y.heap.size:=yd _ _ y1;have e7:D<Y.heap.size:=yd _ _ yq;clear hY x3 fz xq r1 f2 a5
   go_region
   have o9:zaq (fun x=>x<=F.heap.size) Y (Y.setCell ⟨w.heap.size,0,none⟩ (.slice ga gl gc)):=zaq.set (X:=fun x=>x<=F.heap.size) Y _ (Nat.le_of_lt s1);have a7:Hid _:=FF.out _ o9 (yv _ _ _ _ (by show F.heap.size≠w.heap.size;omega));have r9:((Y.setCell ⟨w.heap.size,0,none⟩ (.slice ga gl gc)).drew).cell? ⟨w.heap.size,0,none⟩=some (.slice ga gl gc):=(by go_simp);have P9:Hid (zbK X (Y.setCell ⟨w.heap.size,0,none⟩ (.slice ga gl gc)).drew (some ⟨F.heap.size,0,none⟩) M):=a7.out.2.1.off ⟨yj _,fun _ _ _=>rfl⟩;have G9:Hid (zqm X (Y.setCell ⟨w.heap.size,0,none⟩ (.slice ga gl gc)).drew ga G0):=a7.out.2.2.off ⟨yj _,fun _ _ _=>rfl⟩;have S9:Hid _:=a7.out.1;have B9:Hid (Below w.heap.size w (Y.setCell ⟨w.heap.size,0,none⟩ (.slice ga gl gc)).drew):=(BY.out.setCell (by simp) _).drew;clear FF a7 o9;obtain⟨w9,c6⟩:∃ w9,(Y.setCell ⟨w.heap.size,0,none⟩ (.slice ga gl gc)).drew=w9:=⟨_,rfl⟩;rw[c6] at r9 P9 G9 B9 |-;clear c6
   go_wp2_with fail
   exact yw (v:=.tuple #[.slice (some ⟨F.heap.size,0,none⟩) n n,.agg #[.slice ga gl gc],.int .i64 0]) (by simp[results,Tryz.results146,go_sem,r9]) rfl (by first|exact⟨_,n,ga,gc,by rw[ML.out,b5.out],B9.out,(by rw[ML.out];exact S9.out),P9.out,G9.out⟩|exact⟨_,⟨n,ga,⟨gc,by rw[ML.out,b5.out]⟩,B9.out,(by rw[ML.out];exact S9.out),P9.out,G9.out⟩⟩)
 ·have eP:zfy L Fr k o t=zaU L Fr k o t:=by unfold zfy;rw[yb hH]
  rw[eP,ya hH,ya hH];have y1:decide (zaU L Fr k o t=0)=false:=yF hH;have y2:(zaU L Fr k o t == 0)=false:=by simp[hH]
  clear hL hB a5 eP;generalize zaU L Fr k o t=E at *;generalize L.length=n at *
  go_enter Tryz.func146,Tryz.ntmps146
  go_wp2_with fail
  refine ye (DH.out _) ?_;rintro e F ⟨rfl,I⟩;have T:Hid (Below w.heap.size w F):=(zaa _ _).trans (I.mono (by simp));have r1:F.cell? ⟨w.heap.size,0,none⟩=some (.slice none 0 0):=zab (zad w #[.slice none 0 0] 47 0 rfl) I;have f1:F.frozen? ⟨w.heap.size,0,none⟩=false:=(I.frozen (by simp)).trans (by go_simp);have s1:w.heap.size<F.heap.size:=yd _ _ r1;clear I DH
  go_wp2_with fail
  have U:Hid (Below w.heap.size w (F.setCell ⟨w.heap.size,0,none⟩ (.slice none 0 0))):=T.out.setCell (by simp) _;exact yw (v:=.tuple #[.slice none 0 0,.agg #[.slice none 0 0],.int .i64 E]) (by simp[results,Tryz.results146,go_sem,r1]) rfl (by first|exact⟨none,0,none,0,rfl,U.out,zdc,zbv X _,fun w' _ i hi=>absurd hi (yx _)⟩|exact⟨none,0,none,⟨0,rfl⟩,U.out,zdc,zbv X _,fun w' _ i hi=>absurd hi (yx _)⟩|exact⟨none,0,⟨none,0,rfl⟩,U.out,zdc,zbv X _,fun w' _ i hi=>absurd hi (yx _)⟩)
end Go.Proofs.YtcbcpomacdngmaaGreat
