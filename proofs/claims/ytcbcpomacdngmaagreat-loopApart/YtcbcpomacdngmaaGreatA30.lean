/-
  x
-/
import Derived.Test.YtcbcpomacdngmaaGreatA27
import Derived.Test.YtcbcpomacdngmaaGreatA29
namespace Go.Proofs.YtcbcpomacdngmaaGreat
set_option maxRecDepth 100000
set_option maxHeartbeats 4000000
set_option linter.unusedVariables false
open Go.RowKit Go.ChangeShapes Go.WideShapes Tryz
variable{w:Wd}{B g n:Nat}{G:List Cl}{K:Nat->Value}{w':World}
theorem Qo(F I J M T sn pn ln:Nat)(E O:Int)(a0 a1 a2 a3 a4 sa qa la:OA)(c0 c1 c2 c3 c4 sc qc lc:Nat)(w:Wd)(hE:E≠0)(Z:Hid (∀ V:World,yO 9 #[] V fun e w' => e=.returned (.bool true)/\Below V.heap.size V w'))
  (DK:Hid (∀ V,Bl w V->yO 10 #[.agg #[.slice a0 F c0,.slice a1 I c1,.slice a2 J c2,.slice a3 M c3,.slice a4 T c4]] V fun e w' => e=.returned (.int .i64 E)/\Below V.heap.size V w')) :
  yO 8 #[.agg #[.slice a0 F c0,.slice a1 I c1,.slice a2 J c2,.slice a3 M c3,.slice a4 T c4],.slice sa sn sc,.slice qa pn qc,.int .i64 O,.slice la ln lc] w fun e w' => e=.returned (.bool true)/\Below w.heap.size w w' := by
 have a5:(E == 0)=false:=by simp[hE]
 have a6:(E != 0)=true:=by simp[hE]
 go_enter func8,ntmps8
 go_wp2_with fail
 refine yj (Z _) ?_;rintro e w1 ⟨rfl,hb⟩;have K1:Hid (w1.heap[w.heap.size]?=some (.cells #[.slice a0 F c0,.slice a1 I c1,.slice a2 J c2,.slice a3 M c3,.slice a4 T c4] 28 (0,0))):=aH (aH (yN w _) (aB _ _)) hb;have D:Hid (Bl w w1):=(aM w _ _).trans (hb.mono oab);clear hb;obtain⟨p0,p1,p2,p3,p4,pf,pl⟩:=dS K1.out
 go_wp2_with fail
 refine yj (DK _ D.out) ?_;rintro e w2 ⟨rfl,hb⟩;have U:Hid (Bl w w2):=D.trans (hb.mono D.size);clear p0 p1 p2 p3 p4 pf pl hb K1
 go_wp2_with fail
 refine yj (Z _) ?_;rintro e w3 ⟨rfl,hb⟩;have B3:Hid (Bl w w3):=U.trans (hb.mono U.size);clear hb
 go_wp2
 go_ret;exact⟨rfl,B3.out⟩
theorem Qp(hN:CW)(hK:zB)(hR:EJ)(hT:zC)(J:MM)(A:WA)(W:Wl)(sa:OA)(sc:Nat)(S:List Rl)(qa:OA)(qc:Nat)(P:List (List Ac))(O:Int)(D:OA)(E:Nat)(L:List (Int × Bool))(w:Wd)(hB:kS W)(U:WlC A W)(hW:gP w A W)(hS:kR w sa S)(M:∀ i,i<S.length->iG (rl S i))(hP:lQ w qa P)(I:∀ i,i<P.length->(pg P i).length<=9223372036854775807)(F:SlA D L.length E)(hL:mO w D L) :
  yO 8 #[wlV A W,.slice sa S.length sc,.slice qa P.length qc,.int .i64 O,.slice D L.length E] w fun e w' => e=.returned (.bool true)/\Below w.heap.size w w' := by
 obtain⟨a0,a1,a2,a3,a4,c0,c1,c2,c3,c4⟩:=A;have T:Hid (∀ V:World,yO 9 #[] V fun e w' => e=.returned (.bool true)/\Below V.heap.size V w'):=fun V=>Nz hN hR V;by_cases Z:fZ W=0
 ·have H:=pI.1 Z;show yO _ #[.agg #[.slice a0 W.fs.length c0,.slice a1 W.rs.length c1,.slice a2 W.ps.length c2,.slice a3 W.qs.length c3,.slice a4 W.pt.length c4],_,_,_,_] w _;rw[H.lr,H.lp,H.lq];exact Qn hK hT J W S P L _ _ _ _ _ O a0 a1 a2 a3 a4 sa qa D c0 c1 c2 c3 c4 sc qc E w T H.fs.few H rfl rfl hW U rfl ⟨hS,M⟩ rfl ⟨hP,I⟩ rfl ⟨F,hL⟩
 ·exact Qo _ _ _ _ _ _ _ _ (fZ W) O a0 a1 a2 a3 a4 sa qa D c0 c1 c2 c3 c4 sc qc E w Z T (fun V hV=>MK hK hB rfl U (hW.below hV))
theorem Sb{F:Nat->Value}(h:w.rowIs g 47 n F)(M:n<=1000)(I:B<=g):w.ownsRow B 47 1 (.slice (some ⟨g,0,none⟩) n n) n (grow n F):=by
 obtain⟨D,hc,hs,J⟩:=h;refine⟨by rw[WT,Nat.mul_one],Or.inr ⟨g,n,D,rfl,I,hc,yr _,oai,oaa,?_⟩⟩;rw[Nat.mul_one];refine List.ext_getElem? fun j=>?_;rw[List.getElem?_take];by_cases E:j<n
 ·rw[ye E,Array.getElem?_toList,J j oaa,WU E]
 ·rw[yd E,List.getElem?_eq_none (by rw[WT];omega)]
theorem FY{v:Value}(h:eH B G K v w):∃ a c,v=.slice a G.length c/\St (fun x=>x<B\/w.heap.size<=x) (fun w=>aO w a G) w:=by
 obtain⟨a,c,e,_⟩:=h.cls;refine⟨a,c,e,fun w' F=>?_⟩;have E:=h.kept (w' := w') (fun j M hl _=>F.block j hl (by show ¬ (j<B\/w.heap.size<=j);omega));obtain⟨I,J,D,hc⟩:=E.cls;rw[e] at D;cases D;exact hc
theorem Sc{X:Nat->Prop}{B0:Nat}{L:List Pt}{lo hi:Nat->Nat}{W1 E:Wd}{q F vc:Nat}{J:Nat->Value}{I:Value}{va:OA}(hX:∀ b,X b->b<B0)(h0:B0<=B)(hF:qU L)(hq:q<L.length)(h:CpI B L K lo hi L.length W1)(h1:lo q<=F)(h2:F<hi q)
  (a7:∀ i,i<(pt L q).cm.length->∃ ga gc,J i=.slice ga (gr (pt L q).cm i).length gc/\St (fun x=>x<=F\/hi q<=x) (fun w=>aO w ga (gr (pt L q).cm i)) W1) (ho:aC (fun x=>x=F) W1 E)
  (M:E.ownsRow (lo q) 47 1 I ((pt L q).cm.length+1) (grow (pt L q).cm.length J++[.slice va G.length vc])) (hg:St (fun x=>x<B0\/x=B) (fun w=>aO w va G) E) :
  SlA (some ⟨B,0,none⟩) L.length L.length/\bU X (E.setCell ⟨B,q*5+3,none⟩ I) (some ⟨B,0,none⟩) (L.set q { pt L q with cm:=(pt L q).cm++[G] }):=by
 have a9:=(h.at' q hq).1;have a6:=fG h.row (w' := E) (fun O Z=>by cases Z;exact ho.block B (h.row.lt B rfl).2 (by show ¬ B=F;omega));have a1:=vS a6 (k:=q) (f:=3) (u:=I) (v:=I) (x:={ pt L q with cm:=(pt L q).cm++[G] }) hq oaa rfl;have oS:aC (fun x=>x=B) E (E.setCell ⟨B,q*5+3,none⟩ I):=aC.set (X:=fun x=>x=B) E _ rfl;have o2:aC (fun x=>x=F\/x=B) W1 (E.setCell ⟨B,q*5+3,none⟩ I):=(ho.mono (fun _ h=>Or.inl h)).trans (oS.mono (fun _ h=>Or.inr h));have D:=fG M (w' := E.setCell ⟨B,q*5+3,none⟩ I) (fun O Z=>yx _ _ _ _ (by show O≠B;have:=(M.lt O Z).1;omega))
 have U:St (fun x=>x<B0) (fun w=>mM w I ((pt L q).cm++[G])) (E.setCell ⟨B,q*5+3,none⟩ I):=fun w' T=>by
  have a5:=fG D (w' := w') (fun O Z=>T.block O (D.lt O Z).2 (by show ¬ O<B0;have:=(D.lt O Z).1;omega));have el:((pt L q).cm++[G]).length=(pt L q).cm.length+1:=oac
  rw[Qz,<- el] at a5;refine Ra a5 (fun i a8=>?_);rw[el] at a8;by_cases e:i=(pt L q).cm.length
  ·simp only[ye e];subst e;rw[KD];exact⟨va,vc,rfl,hg w' ((oS.mono (fun _ h=>Or.inr h)).trans (T.mono (fun _ h=>Or.inl h)))⟩
  ·simp only[yd e];rw[KC oaa];obtain⟨ga,gc,e2,hs⟩:=a7 i oaa;refine⟨ga,gc,e2,hs w' ((o2.mono (fun x U=>?_)).trans (T.mono (fun x U=>?_)))⟩
   ·show x<=F\/hi q<=x;rcases U with U|U
    ·exact Or.inl oaa
    ·exact Or.inl oaa
   ·show x<=F\/hi q<=x;have:x<B0:=U;exact Or.inl oaa
 have h3:=h.put (Y:=fun x=>x=F\/x=B) h0 hF hq a1 (fun i hi=>by simp only[yd hi]) o2 (fun b hb=>by
  rcases hb with hb|hb
  ·exact Or.inr oaa
  ·exact Or.inl oaa) (by simp only[if_true];exact U)
 exact⟨h3.1,zL hX h3.2⟩
theorem Sd:Mx:=fun X a c L Fr k o t ga gc G w hX hN hB b1 hL g4 b5 hG=>by
 have DH:Hid (∀ o1:Obj,_):=fun o1=>FX a c L Fr k o t (w.alloc o1) hN hB b1 (hL.at.below (aB _ _));have DG:Hid (∀ W,Bl w W->_):=fun W hW=>Jp ga gc G W g4 b5 (hG.below hW);unfold uY;by_cases hH:aX L Fr k o t=0
 ·rw[hH] at DH;obtain⟨R,kk,rfl,hk,_⟩:=lF hH;obtain⟨q,hq,a9,j0,_⟩:=R.mate hk;have c6:=R.few;have hF:=sN R;have g9:(kk:Int)<(L.length:Int):=oaa
  have h8:(q:Int)<(L.length:Int):=oaa
  have eM:kK L kk=pt L q:=by unfold kK;rw[yk,hq,yk]
  have eP:iU L Fr kk o t G=if bF G≠0 then bF G else if (pt L q).s=true then 5 else if (pt L q).cm.length=16 then 1 else 0:=by unfold iU;rw[hH,eM];rfl
  have eL:lD L kk G=L.set q { pt L q with cm:=(pt L q).cm++[bL G] }:=by unfold lD;rw[eM,yk,hq,yk]
  obtain⟨b,oo,ea,_,_,c2,_⟩:=hL.at kk hk;obtain⟨b', j4,e8,_,_,_,ca,cc,d3,_,d4⟩:=hL.at q a9;subst ea;cases e8;rw[hq] at c2;have i9:b<w.heap.size:=yi _ _ c2;rw[eP];by_cases hE:bF G=0
  ·rw[yd (yL hE)];rw[hE] at DG;have eR:uV G=bL G:=ye hE;rw[eR] at DG
   cases hs:(pt L q).s with
   | true =>
    rw[ye rfl,yd (show ¬ (5:Int)=0 by decide)];rw[hs] at d4;clear hL hB b1 hF R hH eP eL eM hE eR hs hG b5;generalize G.length=gl at *;generalize (pt L q).cm.length=cl at *;generalize L.length=n at *;generalize bL G=cF at *
    go_enter func145,ntmps145
    go_wp2_with fail
    refine yj (DH _) ?_;rintro e w1 ⟨rfl,F⟩;have I:Hid (Bl w w1):=(aB _ _).trans (F.mono oac);have r1:w1.cell? ⟨w.heap.size,0,none⟩=some (.slice ga gl gc):=aA (aK w #[.slice ga gl gc] 47 0 rfl) F;have s1:w.heap.size<w1.heap.size:=yi _ _ r1;clear F DH
    go_wp2_with fail
    refine yj (DG _ I.out) ?_;rintro e w2 ⟨v2,rfl,O,Kc,T⟩;obtain⟨va,vc,rfl,a6⟩:=FY T;have a7:Hid _:=a6;have D:Hid (Bl w w2):=I.trans (O.mono I.size);have e2:=aA c2 D;have e3:=aA d3 D;have e4:=aA d4 D;have c9:b<w2.heap.size:=yi _ _ e2;obtain⟨vl,U⟩:∃ z,cF.length=z:=⟨_,rfl⟩;have b3:Hid (cF.length=vl):=U;rw[U];clear U O T a6 DG r1
    go_wp2_with fail
    exact yz (v:=.tuple #[.slice none 0 0,.int .i64 5]) (by simp[results,results145,go_sem]) rfl ⟨none,0,rfl,D.alloc D.size _,jG,jF X _⟩
   | false =>
    rw[yd (show ¬ (false=true) by decide)];rw[hs] at d4;by_cases b4:(pt L q).cm.length=16
    ·rw[ye b4,yd (show ¬ (1:Int)=0 by decide)];rw[b4] at d3;clear hL hB b1 hF R hH eP eL eM hE eR hs hG b5 b4;generalize G.length=gl at *;generalize L.length=n at *;generalize bL G=cF at *
     go_enter func145,ntmps145
     go_wp2_with fail
     refine yj (DH _) ?_;rintro e w1 ⟨rfl,F⟩;have I:Hid (Bl w w1):=(aB _ _).trans (F.mono oac);have r1:w1.cell? ⟨w.heap.size,0,none⟩=some (.slice ga gl gc):=aA (aK w #[.slice ga gl gc] 47 0 rfl) F;have s1:w.heap.size<w1.heap.size:=yi _ _ r1;clear F DH
     go_wp2_with fail
     refine yj (DG _ I.out) ?_;rintro e w2 ⟨v2,rfl,O,Kc,T⟩;obtain⟨va,vc,rfl,a6⟩:=FY T;have a7:Hid _:=a6;have D:Hid (Bl w w2):=I.trans (O.mono I.size);have e2:=aA c2 D;have e3:=aA d3 D;have e4:=aA d4 D;have c9:b<w2.heap.size:=yi _ _ e2;obtain⟨vl,U⟩:∃ z,cF.length=z:=⟨_,rfl⟩;have b3:Hid (cF.length=vl):=U;rw[U];clear U O T a6 DG r1
     go_wp2_with fail
     exact yz (v:=.tuple #[.slice none 0 0,.int .i64 1]) (by simp[results,results145,go_sem]) rfl ⟨none,0,rfl,D.alloc D.size _,jG,jF X _⟩
    ·rw[yd b4,ye rfl];obtain⟨i0,g8,i1,i2,i3⟩:=info_parts Qy;have g7:(pt L q).cm.length<=16:=(kH.1 (R.ok q a9)).2.2.2.2.1.1;have i7:decide (((pt L q).cm.length:Int)=16)=false:=yH oaa;have i8:(((pt L q).cm.length:Int) == 16)=false:=oab;have DP:Hid (∀ W,Bl w W->_):=fun W hW=>zJ (some ⟨b,oo,none⟩) c L W c6 hF (hL.at.below hW);have ML:Hid ((lD L kk G).length=L.length):=(by show _=_;rw[eL];simp);have F:(pt L q).cm.length+1<=maxLen:=oai;have g6:((pt L q).cm.length+1)*24<=140737488355328:=oaa
     have OC:Hid (∀ (B:Nat) (W1:Wd) (K:Nat->Value) (lo hi:Nat->Nat),w.heap.size<=B->CpI B L K lo hi L.length W1->∃ bq cs,W1.cell? ⟨B,q*5+3,none⟩=some (.slice (some ⟨bq,0,none⟩) (pt L q).cm.length (pt L q).cm.length)/\(∀ o,W1.frozen? ⟨B,o,none⟩=false)/\B<lo q/\lo q<=bq/\lo q<=W1.heap.size/\W1.ownsRow (lo q) 47 1 (.slice (some ⟨bq,0,none⟩) (pt L q).cm.length (pt L q).cm.length) (pt L q).cm.length cs/\∀ (w9:Wd) (v9:Value) (va:OA) (vc:Nat),aC (fun x=>x=bq) W1 w9->w9.ownsRow (lo q) 47 1 v9 ((pt L q).cm.length+1) (cs++[.slice va (bL G).length vc])->St (fun x=>x<w.heap.size\/x=B) (fun w=>aO w va (bL G)) w9->SlA (some ⟨B,0,none⟩) L.length L.length/\bU X (w9.setCell ⟨B,q*5+3,none⟩ v9) (some ⟨B,0,none⟩) (lD L kk G)):=fun B W1 K lo hi g0 h=>by
      obtain⟨bq,J,h1,h2,h3,h4,h5⟩:=h.gs q a9;have h6:=(h.at' q a9).1;refine⟨bq,grow (pt L q).cm.length J,(h.cell a9 (show 3<5 by omega)).trans (by rw[h3];rfl),fun o=>h.row.frozenAt o,h6,h1,by have:=h4.lt;omega,Sb h4 oaa h1,fun w9 v9 va vc ho e5 hg=>?_⟩;rw[eL];exact Sc hX g0 hF a9 h h1 h2 h5 ho e5 hg
     clear hL hB b1 hF R hH eP eL eM hE eR hs hG b5 b4 hN;generalize lD L kk G=M at *;generalize (pt L q).cm.length=cl at *;generalize bL G=cF at *;generalize G.length=gl at *;obtain⟨n,hn⟩:∃ z,L.length=z:=⟨_,rfl⟩;rw[hn] at hk g9 a9 h8 c6 DH DP OC ML;rw[hn];clear hn
     go_enter func145,ntmps145
     go_wp2_with fail
     refine yj (DH _) ?_;rintro e w1 ⟨rfl,F⟩;have I:Hid (Bl w w1):=(aB _ _).trans (F.mono oac);have r1:w1.cell? ⟨w.heap.size,0,none⟩=some (.slice ga gl gc):=aA (aK w #[.slice ga gl gc] 47 0 rfl) F;have s1:w.heap.size<w1.heap.size:=yi _ _ r1;clear F DH
     go_wp2_with fail
     refine yj (DG _ I.out) ?_;rintro e w2 ⟨v2,rfl,O,Kc,T⟩;obtain⟨va,vc,rfl,a6⟩:=FY T;have a7:Hid _:=a6;have D:Hid (Bl w w2):=I.trans (O.mono I.size);have e2:=aA c2 D;have e3:=aA d3 D;have e4:=aA d4 D;have c9:b<w2.heap.size:=yi _ _ e2;obtain⟨vl,U⟩:∃ z,cF.length=z:=⟨_,rfl⟩;have b3:Hid (cF.length=vl):=U;rw[U];clear U O T a6 DG r1
     go_wp2_with fail
     obtain⟨Z,hZ⟩:∃ Z,w2.alloc (.cells #[.slice va vl vc] 47)=Z:=⟨_,rfl⟩;have d5:Z.cell? ⟨w2.heap.size,0,none⟩=some (.slice va vl vc):=(by rw[<- hZ];exact aK w2 _ _ 0 rfl);have BZ:Hid (Bl w2 Z):=(by rw[<- hZ];exact aB _ _);have b2:Hid (Bl w Z):=D.trans (BZ.mono D.size);have sZ:w2.heap.size<Z.heap.size:=yi _ _ d5;rw[hZ];clear hZ;refine yj (DP _ b2.out) ?_;rintro e w3 ⟨K,lo,hi,rfl,b6,hc⟩;obtain⟨bq,cs,x3,fz,d9,e9,e1,a8,b0⟩:=OC.out _ _ _ _ _ b2.size hc;obtain⟨lq,h7⟩:∃ lq,lo q=lq:=⟨_,rfl⟩;rw[h7] at d9 e9 e1 a8 b0;obtain⟨B,b9⟩:∃ B,Z.heap.size=B:=⟨_,rfl⟩;rw[b9] at x3 fz d9 b0;obtain⟨sb,c8⟩:∃ sb,w2.heap.size=sb:=⟨_,rfl⟩;have c7:Hid (Bl w w3):=b2.trans (b6.mono b2.size);have xs:w3.cell? ⟨sb,0,none⟩=some (.slice va vl vc):=(by rw[<- c8];exact aA d5 b6);have d7:Hid (w3.ownsRow lq 47 1 (.slice (some ⟨bq,0,none⟩) cl cl) cl cs):=a8;have sB:B<w3.heap.size:=yi _ _ x3;have j3:w.heap.size<=B:=(by rw[<- b9];exact b2.size);have j1:sb<B:=oaa;have sq:bq<w3.heap.size:=(World.ownsRow.lt d7.out bq rfl).2
     have FF:Hid (∀ (w9:Wd) (v9:Value),aC (fun x=>x=bq) w3 w9->w9.ownsRow lq 47 1 v9 (cl+1) (cs++[.slice va vl vc])->SlA (some ⟨B,0,none⟩) n n/\bU X (w9.setCell ⟨B,q*5+3,none⟩ v9) (some ⟨B,0,none⟩) M):=fun w9 v9 h1 h2=>by
      refine b0 w9 v9 va vc h1 (by rw[b3.out];exact h2) ?_;have o1:aC (fun x=>x<w1.heap.size\/w2.heap.size<=x) w2 w9:=((aC.of_below BZ.out).trans (aC.mk (yJ (yr _) b6.size) (fun b hb _=>b6.block b oaa))).trans (h1.mono (fun x (hx:x=bq)=>Or.inr oaa))
      exact St.less (St.off a7 o1) (fun x hx=>by
       have j2:=I.size;rcases hx with hx|hx
       ·exact Or.inl oaa
       ·exact Or.inr oaa)
     rw[b9,c8];clear b9 c8 b6 hc a8 b0 DP OC a7 b3 d5
     go_wp2_with fail
     refine wp_region_noPanic ?_;refine FV (S:=fun e6=>e6.cell? ⟨B,q*5+3,none⟩=some (.slice (some ⟨bq,0,none⟩) cl cl)/\e6.cell? ⟨sb,0,none⟩=some (.slice va vl vc)) 12 oad (by(try dsimp only);go_keep) (fun hHeld=>?_);refine aY (i:=0) ?_;simp[Act.put];refine aY (i:=1) ?_;simp[Act.put];refine aY (i:=2) ?_;simp[Act.put];refine aY (i:=3) ?_;simp[Act.put];refine aY (i:=4) ?_;simp[Act.put];refine aY (i:=5) ?_;simp[Act.put];refine aY (i:=6) ?_;simp[Act.put];refine aY (i:=7) ?_;simp[Act.put];refine nJ (i:=8) oad rfl (fun K hK=>?_);go_simp;refine hK.out _ _ ?_ (fun hHeld=>?_)
     ·exact⟨aA x3 ((yv w3.heap.size w3).drew.alloc (yr _) (.cells #[.slice va vl vc] 47)),aA xs ((yv w3.heap.size w3).drew.alloc (yr _) (.cells #[.slice va vl vc] 47))⟩
     clear hK K hHeld
     try simp[Act.put]
     refine nJ (i:=9) oad rfl (fun K hK=>?_);refine Re rfl (.tmp 61) (.tmp 63) 119 rfl lq 47 i0 (.agg #[.slice none 0 0]) 1 24 underlying119 g8 i1 i2 i3 rfl oae (.slice (some ⟨bq,0,none⟩) cl cl) cl cs rfl (World.ownsRow.alloc (World.ownsRow.drew d7.out) _) (some ⟨w3.heap.size,0,none⟩) 1 1 [.slice va vl vc] (fun h=>oah) rfl rfl (fun ad e j u hj=>by cases e;exact Rb (aK w3.drew _ _ 0 rfl) j u hj) (by intro u hu;simp at hu;subst hu;rfl) F g6 (((yv w3.heap.size w3).drew.alloc (yr _) (.cells #[.slice va vl vc] 47)) |> fun h=>yJ e1 h.size) ?_;intro v9 w9 b7 a5;have t3:w9.cell? ⟨B,q*5+3,none⟩=some (.slice (some ⟨bq,0,none⟩) cl cl):=a5.cell (a:=⟨B,q*5+3,none⟩) (aA x3 ((yv w3.heap.size w3).drew.alloc (yr _) (.cells #[.slice va vl vc] 47))) (by intro e;have e2:B=bq:=Option.some.inj e;omega);have t0:w9.cell? ⟨sb,0,none⟩=some (.slice va vl vc):=a5.cell (a:=⟨sb,0,none⟩) (aA xs ((yv w3.heap.size w3).drew.alloc (yr _) (.cells #[.slice va vl vc] 47))) (by intro e;have e2:sb=bq:=Option.some.inj e;omega);have f9:w9.frozen? ⟨B,q*5+3,none⟩=false:=(yF (a5.block B (by show B<(w3.drew.alloc _).heap.size;simp;omega) (by intro e;have e2:B=bq:=Option.some.inj e;omega))).trans (((yv w3.heap.size w3).drew.alloc (yr _) (.cells #[.slice va vl vc] 47)).frozen (show (⟨B,q*5+3,none⟩:Addr).block<w3.heap.size from sB) |>.trans (fz _))
     have o9:aC (fun x=>x=bq) w3 w9:=(aC.of_below ((yv w3.heap.size w3).drew.alloc (yr _) (.cells #[.slice va vl vc] 47))).trans (aC.grown a5 (fun b hb=>by cases hb;rfl));have e7:Hid (Bl w w9):=(c7.trans (((yv w3.heap.size w3).drew.alloc (yr _) (.cells #[.slice va vl vc] 47)).mono c7.size)).grown a5 (by show w.heap.size<=(w3.drew.alloc _).heap.size;simp;have:=c7.size;omega) (fun kk hk=>by cases hk;show w.heap.size<=bq;omega);have d6:Hid (w9.ownsRow lq 47 1 v9 (cl+1) (cs++[.slice va vl vc])):=b7;have b8:Hid _:=FF.out w9 v9 o9 b7;refine hK.out _ _ ?_ (fun hHeld=>?_)
     ·exact⟨t3,t0⟩
     obtain⟨i4,i5,h9⟩:∃ a c,v9=.slice a (cl+1) c:=by
      rcases d6.out.2 with ⟨e,e0⟩ |⟨g5,d8,i6,e,_⟩
      ·exact⟨none,0,by rw[e,e0]⟩
      ·exact⟨_,d8,e⟩
     subst h9;clear hK K hHeld b7 a5 d6 o9 FF
     try simp[Act.put]
     refine nJ (i:=10) oad rfl (fun K hK=>?_);go_simp;refine hK.out _ _ ?_ (fun hHeld=>?_)
     ·(try dsimp only)
      exact⟨t3,t0⟩
     clear hK K
     try simp[Act.put]
     refine aY (i:=11) ?_;simp[Act.put];refine FP oad rfl (fun K hK=>?_);go_simp;refine hK.out _ _ ?_;clear hK K
     try simp[Act.put]
     refine FQ oad ?_ _;refine NoPanic.normal ?_;have B9:Hid (Bl w (w9.setCell ⟨B,q*5+3,none⟩ (.slice i4 (cl+1) i5))):=e7.setCell (by show w.heap.size<=B;omega) _;clear t3 t0 f9
     go_wp2_with fail
     exact yz (v:=.tuple #[.slice (some ⟨B,0,none⟩) n n,.int .i64 0]) (by simp[results,results145,go_sem]) rfl (by first|exact⟨_,n,by rw[ML.out],B9.out,(by rw[ML.out];exact b8.out.1),b8.out.2⟩|exact⟨_,⟨n,by rw[ML.out]⟩,B9.out,(by rw[ML.out];exact b8.out.1),b8.out.2⟩)
  ·rw[ye hE,yd hE];have y1:decide (bF G=0)=false:=yH hE;have y2:(bF G == 0)=false:=(by simp[hE]);clear hL hB b1 hF R hH eP eL eM hG b5;generalize bF G=E at *;generalize G.length=gl at *;generalize (pt L q).cm.length=cl at *;generalize (pt L q).s=j5 at *;generalize L.length=n at *;generalize uV G=cF at *
   go_enter func145,ntmps145
   go_wp2_with fail
   refine yj (DH _) ?_;rintro e w1 ⟨rfl,F⟩;have I:Hid (Bl w w1):=(aB _ _).trans (F.mono oac);have r1:w1.cell? ⟨w.heap.size,0,none⟩=some (.slice ga gl gc):=aA (aK w #[.slice ga gl gc] 47 0 rfl) F;have s1:w.heap.size<w1.heap.size:=yi _ _ r1;clear F DH
   go_wp2_with fail
   refine yj (DG _ I.out) ?_;rintro e w2 ⟨v2,rfl,O,Kc,T⟩;obtain⟨va,vc,rfl,a6⟩:=FY T;have a7:Hid _:=a6;have D:Hid (Bl w w2):=I.trans (O.mono I.size);have e2:=aA c2 D;have e3:=aA d3 D;have e4:=aA d4 D;have c9:b<w2.heap.size:=yi _ _ e2;obtain⟨vl,U⟩:∃ z,cF.length=z:=⟨_,rfl⟩;have b3:Hid (cF.length=vl):=U;rw[U];clear U O T a6 DG r1
   go_wp2_with fail
   exact yz (v:=.tuple #[.slice none 0 0,.int .i64 E]) (by simp[results,results145,go_sem]) rfl ⟨none,0,rfl,D.alloc D.size _,jG,jF X _⟩
 ·have eP:iU L Fr k o t G=aX L Fr k o t:=by unfold iU;rw[ye hH]
  rw[eP,yd hH];have y1:decide (aX L Fr k o t=0)=false:=yH hH;have y2:(aX L Fr k o t == 0)=false:=by simp[hH]
  clear hL hB b1 eP DG;generalize aX L Fr k o t=E at *;generalize L.length=n at *;generalize G.length=gl at *
  go_enter func145,ntmps145
  go_wp2_with fail
  refine yj (DH _) ?_;rintro e w1 ⟨rfl,F⟩;have I:Hid (Bl w w1):=(aB _ _).trans (F.mono oac);clear F DH
  go_wp2_with fail
  exact yz (v:=.tuple #[.slice none 0 0,.int .i64 E]) (by simp[results,results145,go_sem]) rfl ⟨none,0,rfl,I.out,jG,jF X _⟩
theorem Su:(prog.info? 61).map (fun i=>(i.zero,i.size,i.bytes))=some (some (.agg #[.int .i64 0,.int .i64 0]),2,16):=oad
theorem Sv(w:Wd):(Instr.makeSlice 44 (.int .i64 16) (.int .i64 16)).run prog w=.ok (.slice (some ⟨w.heap.size,0,none⟩) 16 16) (w.alloc (.cells (madeCells #[.int .i64 0,.int .i64 0] 32) 61)):=by
 obtain⟨i,hi,D,E,F⟩:=info_parts Su;have h:=run_make (P:=prog) w 44 61 i _ underlying44 hi D .i64 .i64 16 16 oaa oaa (by rw[F];omega) oaa;rw[E] at h;exact h
theorem XX(n i:Nat)(h:i<n):(List.replicate n ((0:Int),(0:Int))).getD i (0,0)=(0,0):=by
 rw[aJ _ _ (by rw[List.length_replicate];exact h),List.getElem_replicate]
theorem XY(n j:Nat)(h:j<n):(madeCells #[.int .i64 0,.int .i64 0] n)[j]?=some (.int .i64 0):=by
 have D:j % 2=0\/j % 2=1:=oaa
 rcases D with D|D <;> simp[madeCells,h,D]
theorem Sw(W:Wd):aZ (W.alloc (.cells (madeCells #[.int .i64 0,.int .i64 0] 32) 61)) (some ⟨W.heap.size,0,none⟩) (List.replicate 16 (0,0)):=fun i hi=>by
 rw[List.length_replicate] at hi;refine⟨W.heap.size,0,rfl,?_,?_⟩
 ·rw[XX 16 i hi];exact aK W _ _ _ (XY _ _ oaa)
 ·rw[XX 16 i hi];exact aK W _ _ _ (XY _ _ oaa)
theorem iJ{x:Int}(h:isH x):∃ p:Nat,x=p/\p<16:=⟨x.toNat,by have:=h.1;omega,by have:=h.2;have:=h.1;omega⟩
theorem vT{W:Wd}{t:Nat}{D v1 v2 E:Value}(hb:Below (w.heap.size+1) (w.alloc (.cells #[D,v1,v2,E] t)) W):W.heap[w.heap.size]?=some (.cells #[D,v1,v2,E] t (0,0)):=(hb.block _ (Nat.lt_succ_self _)).trans (mJ _ _ _ _ _ _)
theorem zN:Iw:=fun A R w hB hW=>by
 obtain⟨a0,a1,a2,a3,c0,c1,c2,c3⟩:=A;obtain⟨hN,a7,hH,hI,a6,hT⟩:=hB;obtain⟨w0,w1,w2,w3⟩:=hW;have F:Hid (∀ o1,_):=fun o1=>tV a0 c0 R.s (w.alloc o1) hN a7 (w0.below (aB _ _));have J:Hid (∀ W,Bl w W->_):=fun W hW=>CE a2 c2 R.i W hI a6 (w2.below hW);clear w0 w1 w2 w3 a7 a6;dsimp only[rlV];unfold bI;obtain⟨E0,h0⟩:∃ E,dG R.s=E:=⟨_,rfl⟩;obtain⟨E1,h1⟩:∃ E,bF R.i=E:=⟨_,rfl⟩;rw[h0] at F |-;rw[h1] at J |-;clear h0 h1;generalize R.s.length=n0 at *;generalize R.i.length=n2 at *;generalize R.t.length=n3 at *;generalize R.hs.length=n1 at *;by_cases e0:E0=0
 ·subst e0;rw[ye rfl];by_cases e1:n1=16
  ·subst e1;rw[ye rfl];by_cases e2:E1=0
   ·subst e2;rw[ye rfl];by_cases e3:4800<n3
    ·rw[ye e3];have a9:(4800:Int)<(n3:Int):=oaa
     go_enter func32,ntmps32
     go_wp2_with fail
     refine yj (F _) ?_;rintro e V ⟨rfl,hb⟩;have D:Hid (Bl w V):=(aB w _).trans (hb.mono oac);simp only[yw] at hb;have M:Hid _:=vT hb;obtain⟨T,U,Z,l3,O,lt⟩:=aV M.out;clear hb F
     go_wp2_with fail
     refine yj (J _ D.out) ?_;rintro e V2 ⟨rfl,hb⟩;have I:Hid (Bl w V2):=D.trans (hb.mono D.size);have a5:Hid _:=aH M.out hb;clear T U Z l3 O lt;obtain⟨T,U,Z,l3,O,lt⟩:=aV a5.out;clear hb J
     go_wp2
     go_ret;exact⟨rfl,I.out⟩
    ·rw[yd e3];have a9:¬ (4800:Int)<(n3:Int):=oaa
     go_enter func32,ntmps32
     go_wp2_with fail
     refine yj (F _) ?_;rintro e V ⟨rfl,hb⟩;have D:Hid (Bl w V):=(aB w _).trans (hb.mono oac);simp only[yw] at hb;have M:Hid _:=vT hb;obtain⟨T,U,Z,l3,O,lt⟩:=aV M.out;clear hb F
     go_wp2_with fail
     refine yj (J _ D.out) ?_;rintro e V2 ⟨rfl,hb⟩;have I:Hid (Bl w V2):=D.trans (hb.mono D.size);have a5:Hid _:=aH M.out hb;clear T U Z l3 O lt;obtain⟨T,U,Z,l3,O,lt⟩:=aV a5.out;clear hb J
     go_wp2
     go_ret;exact⟨rfl,I.out⟩
   ·rw[yd e2];have hz:(E1 == 0)=false:=by simp[e2]
    go_enter func32,ntmps32
    go_wp2_with fail
    refine yj (F _) ?_;rintro e V ⟨rfl,hb⟩;have D:Hid (Bl w V):=(aB w _).trans (hb.mono oac);simp only[yw] at hb;have M:Hid _:=vT hb;obtain⟨T,U,Z,l3,O,lt⟩:=aV M.out;clear hb F
    go_wp2_with fail
    refine yj (J _ D.out) ?_;rintro e V2 ⟨rfl,hb⟩;have I:Hid (Bl w V2):=D.trans (hb.mono D.size);clear T U Z l3 O lt hb J
    go_wp2
    go_ret;exact⟨rfl,I.out⟩
  ·rw[yd e1];have a8:¬ ((n1:Int)=16):=oaa;have hz:((n1:Int) == 16)=false:=by simp[a8]
   go_enter func32,ntmps32
   go_wp2_with fail
   refine yj (F _) ?_;rintro e V ⟨rfl,hb⟩;have D:Hid (Bl w V):=(aB w _).trans (hb.mono oac);simp only[yw] at hb;have M:Hid _:=vT hb;obtain⟨T,U,Z,l3,O,lt⟩:=aV M.out;clear hb F J
   go_wp2
   go_ret;exact⟨rfl,D.out⟩
 ·rw[yd e0];have hz:(E0 == 0)=false:=by simp[e0]
  go_enter func32,ntmps32
  go_wp2_with fail
  refine yj (F _) ?_;rintro e V ⟨rfl,hb⟩;have D:Hid (Bl w V):=(aB w _).trans (hb.mono oac);clear hb F J
  go_wp2
  go_ret;exact⟨rfl,D.out⟩
theorem Sy(p:Int)(w:Wd)(D:p<0\/24<p) :
  yO 62 #[.int .i64 p] w fun e w' => e=.returned (.tuple #[.agg #[.slice none 0 0],.int .i64 2])/\Below w.heap.size w w' := by
 go_enter func62,ntmps62
 go_wp2_with (go_at_call 66;refine(zX _ _ _ _ D).mono ?_;rintro e w' ⟨rfl,rfl⟩)
 first
  |(go_ret;exact⟨rfl,yv _ _⟩)
  |(go_ret;exact⟨rfl,(yv _ _).alloc (yr _) _⟩)
  |(refine yz (v:=.tuple #[.agg #[.slice none 0 0],.int .i64 2]) (by simp[results,results62,go_sem]) rfl ⟨rfl,?_⟩;first|exact(yv _ _).alloc (yr _) _|exact((yv _ _).alloc (yr _) _).setCell oac _|exact(((yv _ _).alloc (yr _) _).setCell oac _).drew)
theorem Sz{w:World}(h:aD w (some ⟨g,0,none⟩) (List.replicate n fH))(hb:w'.heap[g]?=w.heap[g]?):aD w' (some ⟨g,0,none⟩) (List.replicate n fH):=fun i hi=>by
 obtain⟨b,o,e,hn⟩:=h i hi;cases e;have D:i<n:=by simpa using hi
 rw[IL n i _ D] at hn |-;obtain⟨c0,c1,c2,c3,c4,⟨ka,kc,c5,_⟩,E,F⟩:=hn;have hc:∀ o,w'.cell? ⟨g,o,none⟩=w.cell? ⟨g,o,none⟩:=fun o=>yE hb;exact⟨g,0,rfl,(hc _).trans c0,(hc _).trans c1,(hc _).trans c2,(hc _).trans c3,(hc _).trans c4,⟨ka,kc,(hc _).trans c5,fun j I=>absurd I (yB _)⟩,(hc _).trans E,(hc _).trans F⟩
theorem Ta{w:World}{H:List (Int × Int)}(h:aZ w (some ⟨g,0,none⟩) H)(hb:w'.heap[g]?=w.heap[g]?):aZ w' (some ⟨g,0,none⟩) H:=fun i hi=>by
 obtain⟨b,o,e,h1,D⟩:=h i hi;cases e;exact⟨g,0,rfl,(yE hb).trans h1,(yE hb).trans D⟩
theorem YA(n:Nat)(w:Wd)(hn:n<=24):yO 28 #[.int .i64 (n:Int)] w fun e w' => ∃ (a0 a1:OA) (c0:Nat),e=.returned (.tuple #[.agg #[.slice a0 n c0,.slice a1 16 16,.slice none 0 0,.slice none 0 0],.int .i64 0])/\Below w.heap.size w w' /\ St (fun b=>b<w.heap.size) (fun V=>aD V a0 (List.replicate n fH)/\aZ V a1 (List.replicate 16 (0,0))) w' := by
 have D:Hid (∀ T,_):=fun T=>Ck n (w.alloc T) hn;clear hn;have a6:=Sv
 go_enter func28,ntmps28
 go_wp2_with fail
 refine yj (D _) ?_;rintro e V ⟨g,rfl,hb,hn,J,a5⟩;have M:Hid (Bl w V):=(aB w _).trans (hb.mono oac);have HN:Hid (aD V (some ⟨g,0,none⟩) (List.replicate n fH)):=hn;simp only[yw] at hb J;have F:Hid _:=vT hb;obtain⟨l0,l1,l2,l3,fz,lt⟩:=aV F.out;clear hb D hn
 go_wp2_with fail
 go_region
 go_wp2
 have SL:Hid (SlB V w.heap.size):=La F.out ⟨_,_,_,rfl⟩ ⟨_,_,_,rfl⟩ ⟨_,_,_,rfl⟩ ⟨_,_,_,rfl⟩;obtain⟨X,E⟩:∃ X,(((V.setCell ⟨w.heap.size,0,none⟩ (.slice (some ⟨g,0,none⟩) n n)).setCell ⟨w.heap.size,1,none⟩ (.slice (some ⟨V.heap.size+1,0,none⟩) 16 16)).setCell ⟨w.heap.size,2,none⟩ (.slice none 0 0)).setCell ⟨w.heap.size,3,none⟩ (.slice none 0 0)=X:=⟨_,rfl⟩;have x0:X.heap[w.heap.size]?=some (.cells #[.slice (some ⟨g,0,none⟩) n n,.slice (some ⟨V.heap.size+1,0,none⟩) 16 16,.slice none 0 0,.slice none 0 0] 50 (0,0)):=by rw[<- E];exact nY F.out
 have x1:aD X (some ⟨g,0,none⟩) (List.replicate n fH):=by rw[<- E];exact HN.offB SL.out (nX.refl _ _).set.set.set.set
 have x2:X.heap.size=V.heap.size:=by rw[<- E];simp
 have U:Bl w X:=by rw[<- E];exact(((M.setCell (yr _) _).setCell (yr _) _).setCell (yr _) _).setCell (yr _) _
 rw[E];clear E;have Z:=Sw (X.alloc (Obj.cells #[Value.slice (some ⟨g,0,none⟩) n n] 43));rw[yw,x2] at Z;have I:=(aM X (Obj.cells #[Value.slice (some ⟨g,0,none⟩) n n] 43) (Obj.cells (madeCells #[Value.int IntKind.i64 0,Value.int IntKind.i64 0] 32) 61)).drew;have x5:=aH x0 I;obtain⟨m0,m1,m2,m3,mf,ml⟩:=aV x5;refine yz (v:=.tuple #[.agg #[.slice (some ⟨g,0,none⟩) n n,.slice (some ⟨V.heap.size+1,0,none⟩) 16 16,.slice none 0 0,.slice none 0 0],.int .i64 0]) (by simp[results,results28,go_sem,m0,m1,m2,m3]) rfl ⟨some ⟨g,0,none⟩,some ⟨V.heap.size+1,0,none⟩,n,oac,U.trans (I.mono U.size),fun V' O=>⟨Sz (x1.below I) (O.block g oab oaa),Ta (Z.below (yv _ _).drew) (O.block _ oab (by have:=M.size;omega))⟩⟩
theorem Tc:CW:=fun p w=>by
 by_cases I:0<=p/\p<=24
 ·have E:bB p=⟨List.replicate p.toNat fH,List.replicate 16 (0,0),[],[]⟩:=ye I;have F:CU p=0:=ye I;rw[E,F];clear E F;obtain⟨n,rfl⟩:∃ n:Nat,p=n:=⟨p.toNat,oaa⟩;rw[yk];refine(YA n w oaa).mono ?_;rintro e V ⟨a0,a1,c0,rfl,hb,hs⟩;exact⟨⟨a0,a1,none,none,c0,16,0,0⟩,by simp[rlV],hb,hs.at.1,hs.at.2,fun _ h=>absurd h (yB _),fun _ h=>absurd h (yB _)⟩
 ·have E:bB p=dJ:=yd I;have F:CU p=2:=yd I;rw[E,F];clear E F;have D:Hid (∀ T,_):=fun T=>Sy p (w.alloc T) oaa;clear I
  go_enter func28,ntmps28
  go_wp2_with fail
  refine yj (D _) ?_;rintro e V ⟨rfl,hb⟩;have Z:Hid (Bl w V):=(aB w _).trans (hb.mono oac);simp only[yw] at hb;have M:Hid _:=vT hb;obtain⟨l0,l1,l2,l3,fz,lt⟩:=aV M.out;clear hb D
  go_wp2
  obtain⟨X,J⟩:∃ X,(((V.setCell ⟨w.heap.size,0,none⟩ (.slice none 0 0)).setCell ⟨w.heap.size,1,none⟩ (.slice none 0 0)).setCell ⟨w.heap.size,2,none⟩ (.slice none 0 0)).setCell ⟨w.heap.size,3,none⟩ (.slice none 0 0)=X:=⟨_,rfl⟩;have x0:X.heap[w.heap.size]?=some (.cells #[.slice none 0 0,.slice none 0 0,.slice none 0 0,.slice none 0 0] 50 (0,0)):=by rw[<- J];exact nY M.out
  have U:Bl w X:=by rw[<- J];exact(((Z.setCell (yr _) _).setCell (yr _) _).setCell (yr _) _).setCell (yr _) _
  rw[J];clear J;have O:=aB X (Obj.cells #[Value.slice none 0 0] 43);have x5:=aH x0 O;obtain⟨m0,m1,m2,m3,mf,ml⟩:=aV x5;refine yz (v:=.tuple #[.agg #[.slice none 0 0,.slice none 0 0,.slice none 0 0,.slice none 0 0],.int .i64 2]) (by simp[results,results28,go_sem,m0,m1,m2,m3]) rfl ⟨⟨none,none,none,none,0,0,0,0⟩,rfl,U.trans (O.mono U.size),xU _ _⟩
theorem sP(A:RA)(R:Rl)(k:Int)(w:Wd)(hl:R.hs.length=16) :
  yO 161 #[rlV A R,.int .i64 k] w fun e w' => e=.returned (.bool (decide (isH k)))/\Below w.heap.size w w' := by
 dsimp only[rlV];rw[hl];have D:Hid (∀ W,Calls _ _ _ _ _):=fun W=>gU k 0 15 W;have hd:decide (0<=k/\k<=15)=decide (isH k):=rfl;rw[hd] at D;clear hd hl;generalize decide (isH k)=r at *
 go_enter func161,ntmps161
 go_wp2_with fail
 refine yj (D _) ?_;rintro e V ⟨rfl,hw⟩;subst hw
 go_wp2
 go_ret;exact⟨rfl,aB _ _⟩
