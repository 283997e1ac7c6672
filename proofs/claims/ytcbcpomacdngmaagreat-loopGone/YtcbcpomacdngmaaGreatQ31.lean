/-
  x
-/
import Derived.Test.YtcbcpomacdngmaaGreatQ30
namespace Go.Proofs.YtcbcpomacdngmaaGreat
set_option maxRecDepth 100000
set_option maxHeartbeats 4000000
set_option linter.unusedVariables false
open Go.RowKit Go.ChangeShapes Go.WideShapes
theorem zoX{w:World}{B g n:Nat}{F:Nat->Value}(h:w.rowIs g 47 n F)(M:n<=1000)(I:B<=g):w.ownsRow B 47 1 (.slice (some ⟨g,0,none⟩) n n) n (grow n F):=by
 obtain⟨D,hc,hs,J⟩:=h;refine⟨by rw[zpE,Nat.mul_one],Or.inr ⟨g,n,D,rfl,I,hc,yj _,by unfold maxLen;omega,by omega,?_⟩⟩;rw[Nat.mul_one];refine List.ext_getElem? fun j=>?_;rw[List.getElem?_take];by_cases E:j<n
 ·rw[yb E,Array.getElem?_toList,J j (by omega),zto E]
 ·rw[ya E,List.getElem?_eq_none (by rw[zpE];omega)]
theorem zlW{B:Nat}{G:List Cl}{K:Nat->Value}{v:Value}{w:World}(h:zgM B G K v w):∃ a c,v=.slice a G.length c/\St (fun x=>x<B\/w.heap.size<=x) (fun w=>zaG w a G) w:=by
 obtain⟨a,c,e,_⟩:=h.cls;refine⟨a,c,e,fun w' F=>?_⟩;have E:=h.kept (w' := w') (fun j M hl _=>F.block j hl (by show ¬ (j<B\/w.heap.size<=j);omega));obtain⟨I,J,D,hc⟩:=E.cls;rw[e] at D;cases D;exact hc
theorem zwM{X:Nat->Prop}{B0 B:Nat}{L:List Pt}{K:Nat->Value}{lo hi:Nat->Nat}{W1 E:World}{q F vc:Nat}{J:Nat->Value}{I:Value}{va:Option Addr}{G:List Cl}(hX:∀ b,X b->b<B0)(h0:B0<=B)(hF:zxm L)(hq:q<L.length)(h:CpI B L K lo hi L.length W1)(h1:lo q<=F)(h2:F<hi q)
  (a7:∀ i,i<(pt L q).cm.length->∃ ga gc,J i=.slice ga (gr (pt L q).cm i).length gc/\St (fun x=>x<=F\/hi q<=x) (fun w=>zaG w ga (gr (pt L q).cm i)) W1) (ho:zaq (fun x=>x=F) W1 E)
  (M:E.ownsRow (lo q) 47 1 I ((pt L q).cm.length+1) (grow (pt L q).cm.length J++[.slice va G.length vc])) (hg:St (fun x=>x<B0\/x=B) (fun w=>zaG w va G) E) :
  SlA (some ⟨B,0,none⟩) L.length L.length/\zbJ X (E.setCell ⟨B,q*5+3,none⟩ I) (some ⟨B,0,none⟩) (L.set q { pt L q with cm:=(pt L q).cm++[G] }):=by
 have a9:=(h.at' q hq).1;have a6:=zau h.row (w' := E) (fun O Z=>by cases Z;exact ho.block B (h.row.lt B rfl).2 (by show ¬ B=F;omega));have a1:=zhW a6 (k:=q) (f:=3) (u:=I) (v:=I) (x:={ pt L q with cm:=(pt L q).cm++[G] }) hq (by omega) rfl;have oS:zaq (fun x=>x=B) E (E.setCell ⟨B,q*5+3,none⟩ I):=zaq.set (X:=fun x=>x=B) E _ rfl;have o2:zaq (fun x=>x=F\/x=B) W1 (E.setCell ⟨B,q*5+3,none⟩ I):=(ho.mono (fun _ h=>Or.inl h)).trans (oS.mono (fun _ h=>Or.inr h));have D:=zau M (w' := E.setCell ⟨B,q*5+3,none⟩ I) (fun O Z=>ys _ _ _ _ (by show O≠B;have:=(M.lt O Z).1;omega))
 have U:St (fun x=>x<B0) (fun w=>znO w I ((pt L q).cm++[G])) (E.setCell ⟨B,q*5+3,none⟩ I):=fun w' T=>by
  have a5:=zau D (w' := w') (fun O Z=>T.block O (D.lt O Z).2 (by show ¬ O<B0;have:=(D.lt O Z).1;omega));have el:((pt L q).cm++[G]).length=(pt L q).cm.length+1:=by simp
  rw[ztp,<- el] at a5;refine zyx a5 (fun i a8=>?_);rw[el] at a8;by_cases e:i=(pt L q).cm.length
  ·simp only[yb e];subst e;rw[zor];exact⟨va,vc,rfl,hg w' ((oS.mono (fun _ h=>Or.inr h)).trans (T.mono (fun _ h=>Or.inl h)))⟩
  ·simp only[ya e];rw[zos (by omega)];obtain⟨ga,gc,e2,hs⟩:=a7 i (by omega);refine⟨ga,gc,e2,hs w' ((o2.mono (fun x U=>?_)).trans (T.mono (fun x U=>?_)))⟩
   ·show x<=F\/hi q<=x;rcases U with U|U
    ·exact Or.inl (by omega)
    ·exact Or.inl (by omega)
   ·show x<=F\/hi q<=x;have:x<B0:=U;exact Or.inl (by omega)
 have h3:=h.put (Y:=fun x=>x=F\/x=B) h0 hF hq a1 (fun i hi=>by simp only[ya hi]) o2 (fun b hb=>by
  rcases hb with hb|hb
  ·exact Or.inr (by omega)
  ·exact Or.inl (by omega)) (by simp only[if_true];exact U)
 exact⟨h3.1,zhk hX h3.2⟩
theorem zuz:zln:=fun X a c L Fr k o t ga gc G w hX hN hB b1 hL g4 b5 hG=>by
 have DH:Hid (∀ o1:Obj,_):=fun o1=>zce a c L Fr k o t (w.alloc o1) hN hB b1 (hL.at.below (zaa _ _));have DG:Hid (∀ W,Below w.heap.size w W->_):=fun W hW=>ztg ga gc G W g4 b5 (hG.below hW);unfold zeM;by_cases hH:zaT L Fr k o t=0
 ·rw[hH] at DH;obtain⟨R,kk,rfl,hk,_⟩:=zcm hH;obtain⟨q,hq,a9,j0,_⟩:=R.mate hk;have c6:=R.few;have hF:=zdr R;have g9:(kk:Int)<(L.length:Int):=by omega
  have h8:(q:Int)<(L.length:Int):=by omega
  have eM:zku L kk=pt L q:=by unfold zku;rw[yi,hq,yi]
  have eP:zhl L Fr kk o t G=if zav G≠0 then zav G else if (pt L q).s=true then 5 else if (pt L q).cm.length=16 then 1 else 0:=by unfold zhl;rw[hH,eM];rfl
  have eL:ziE L kk G=L.set q { pt L q with cm:=(pt L q).cm++[zbu G] }:=by unfold ziE;rw[eM,yi,hq,yi]
  obtain⟨b,oo,ea,_,_,c2,_⟩:=hL.at kk hk;obtain⟨b', j4,e8,_,_,_,ca,cc,d3,_,d4⟩:=hL.at q a9;subst ea;cases e8;rw[hq] at c2;have i9:b<w.heap.size:=yd _ _ c2;rw[eP];by_cases hE:zav G=0
  ·rw[ya (not_not_intro hE)];rw[hE] at DG;have eR:zzr G=zbu G:=yb hE;rw[eR] at DG
   cases hs:(pt L q).s with
   | true =>
    rw[yb rfl,ya (show ¬ (5:Int)=0 by decide)];rw[hs] at d4;clear hL hB b1 hF R hH eP eL eM hE eR hs hG b5;generalize G.length=gl at *;generalize (pt L q).cm.length=cl at *;generalize L.length=n at *;generalize zbu G=cF at *
    go_enter Tryz.func145,Tryz.ntmps145
    go_wp2_with fail
    refine ye (DH.out _) ?_;rintro e w1 ⟨rfl,F⟩;have I:Hid (Below w.heap.size w w1):=(zaa _ _).trans (F.mono (by simp));have r1:w1.cell? ⟨w.heap.size,0,none⟩=some (.slice ga gl gc):=zab (zac w #[.slice ga gl gc] 47 0 rfl) F;have s1:w.heap.size<w1.heap.size:=yd _ _ r1;clear F DH
    go_wp2_with fail
    refine ye (DG.out _ I.out) ?_;rintro e w2 ⟨v2,rfl,O,Kc,T⟩;obtain⟨va,vc,rfl,a6⟩:=zlW T;have a7:Hid _:=a6;have D:Hid (Below w.heap.size w w2):=I.out.trans (O.mono I.out.size);have e2:=zab c2 D.out;have e3:=zab d3 D.out;have e4:=zab d4 D.out;have c9:b<w2.heap.size:=yd _ _ e2;obtain⟨vl,U⟩:∃ z,cF.length=z:=⟨_,rfl⟩;have b3:Hid (cF.length=vl):=U;rw[U];clear U O T a6 DG r1
    go_wp2_with fail
    exact yv (v:=.tuple #[.slice none 0 0,.int .i64 5]) (by simp[results,Tryz.results145,go_sem]) rfl ⟨none,0,rfl,D.out.alloc D.out.size _,zda,zbw X _⟩
   | false =>
    rw[ya (show ¬ (false=true) by decide)];rw[hs] at d4;by_cases b4:(pt L q).cm.length=16
    ·rw[yb b4,ya (show ¬ (1:Int)=0 by decide)];rw[b4] at d3;clear hL hB b1 hF R hH eP eL eM hE eR hs hG b5 b4;generalize G.length=gl at *;generalize L.length=n at *;generalize zbu G=cF at *
     go_enter Tryz.func145,Tryz.ntmps145
     go_wp2_with fail
     refine ye (DH.out _) ?_;rintro e w1 ⟨rfl,F⟩;have I:Hid (Below w.heap.size w w1):=(zaa _ _).trans (F.mono (by simp));have r1:w1.cell? ⟨w.heap.size,0,none⟩=some (.slice ga gl gc):=zab (zac w #[.slice ga gl gc] 47 0 rfl) F;have s1:w.heap.size<w1.heap.size:=yd _ _ r1;clear F DH
     go_wp2_with fail
     refine ye (DG.out _ I.out) ?_;rintro e w2 ⟨v2,rfl,O,Kc,T⟩;obtain⟨va,vc,rfl,a6⟩:=zlW T;have a7:Hid _:=a6;have D:Hid (Below w.heap.size w w2):=I.out.trans (O.mono I.out.size);have e2:=zab c2 D.out;have e3:=zab d3 D.out;have e4:=zab d4 D.out;have c9:b<w2.heap.size:=yd _ _ e2;obtain⟨vl,U⟩:∃ z,cF.length=z:=⟨_,rfl⟩;have b3:Hid (cF.length=vl):=U;rw[U];clear U O T a6 DG r1
     go_wp2_with fail
     exact yv (v:=.tuple #[.slice none 0 0,.int .i64 1]) (by simp[results,Tryz.results145,go_sem]) rfl ⟨none,0,rfl,D.out.alloc D.out.size _,zda,zbw X _⟩
    ·rw[ya b4,yb rfl];obtain⟨i0,g8,i1,i2,i3⟩:=info_parts zty;have g7:(pt L q).cm.length<=16:=(zbm.1 (R.ok q a9)).2.2.2.2.1.1;have i7:decide (((pt L q).cm.length:Int)=16)=false:=decide_eq_false (by omega);have i8:(((pt L q).cm.length:Int) == 16)=false:=by simp;omega
     have DP:Hid (∀ W,Below w.heap.size w W->_):=fun W hW=>zdU (some ⟨b,oo,none⟩) c L W c6 hF (hL.at.below hW);have ML:Hid ((ziE L kk G).length=L.length):=by show _=_;rw[eL];simp
     have F:(pt L q).cm.length+1<=maxLen:=by unfold maxLen;omega
     have g6:((pt L q).cm.length+1)*24<=140737488355328:=by omega
     have OC:Hid (∀ (B:Nat) (W1:World) (K:Nat->Value) (lo hi:Nat->Nat),w.heap.size<=B->CpI B L K lo hi L.length W1->∃ bq cs,W1.cell? ⟨B,q*5+3,none⟩=some (.slice (some ⟨bq,0,none⟩) (pt L q).cm.length (pt L q).cm.length)/\(∀ o,W1.frozen? ⟨B,o,none⟩=false)/\B<lo q/\lo q<=bq/\lo q<=W1.heap.size/\W1.ownsRow (lo q) 47 1 (.slice (some ⟨bq,0,none⟩) (pt L q).cm.length (pt L q).cm.length) (pt L q).cm.length cs/\∀ (w9:World) (v9:Value) (va:Option Addr) (vc:Nat),zaq (fun x=>x=bq) W1 w9->w9.ownsRow (lo q) 47 1 v9 ((pt L q).cm.length+1) (cs++[.slice va (zbu G).length vc])->St (fun x=>x<w.heap.size\/x=B) (fun w=>zaG w va (zbu G)) w9->SlA (some ⟨B,0,none⟩) L.length L.length/\zbJ X (w9.setCell ⟨B,q*5+3,none⟩ v9) (some ⟨B,0,none⟩) (ziE L kk G)):=fun B W1 K lo hi g0 h=>by
      obtain⟨bq,J,h1,h2,h3,h4,h5⟩:=h.gs q a9;have h6:=(h.at' q a9).1;refine⟨bq,grow (pt L q).cm.length J,(h.cell a9 (show 3<5 by omega)).trans (by rw[h3];rfl),fun o=>h.row.frozenAt o,h6,h1,by have:=h4.lt;omega,zoX h4 (by omega) h1,fun w9 v9 va vc ho e5 hg=>?_⟩;rw[eL];exact zwM hX g0 hF a9 h h1 h2 h5 ho e5 hg
     clear hL hB b1 hF R hH eP eL eM hE eR hs hG b5 b4 hN;generalize ziE L kk G=M at *;generalize (pt L q).cm.length=cl at *;generalize zbu G=cF at *;generalize G.length=gl at *;obtain⟨n,hn⟩:∃ z,L.length=z:=⟨_,rfl⟩;rw[hn] at hk g9 a9 h8 c6 DH DP OC ML;rw[hn];clear hn
     go_enter Tryz.func145,Tryz.ntmps145
     go_wp2_with fail
     refine ye (DH.out _) ?_;rintro e w1 ⟨rfl,F⟩;have I:Hid (Below w.heap.size w w1):=(zaa _ _).trans (F.mono (by simp));have r1:w1.cell? ⟨w.heap.size,0,none⟩=some (.slice ga gl gc):=zab (zac w #[.slice ga gl gc] 47 0 rfl) F;have s1:w.heap.size<w1.heap.size:=yd _ _ r1;clear F DH
     go_wp2_with fail
     refine ye (DG.out _ I.out) ?_;rintro e w2 ⟨v2,rfl,O,Kc,T⟩;obtain⟨va,vc,rfl,a6⟩:=zlW T;have a7:Hid _:=a6;have D:Hid (Below w.heap.size w w2):=I.out.trans (O.mono I.out.size);have e2:=zab c2 D.out;have e3:=zab d3 D.out;have e4:=zab d4 D.out;have c9:b<w2.heap.size:=yd _ _ e2;obtain⟨vl,U⟩:∃ z,cF.length=z:=⟨_,rfl⟩;have b3:Hid (cF.length=vl):=U;rw[U];clear U O T a6 DG r1
     go_wp2_with fail
     obtain⟨Z,hZ⟩:∃ Z,w2.alloc (.cells #[.slice va vl vc] 47)=Z:=⟨_,rfl⟩;have d5:Z.cell? ⟨w2.heap.size,0,none⟩=some (.slice va vl vc):=by rw[<- hZ];exact zac w2 _ _ 0 rfl
     have BZ:Hid (Below w2.heap.size w2 Z):=by rw[<- hZ];exact zaa _ _
     have b2:Hid (Below w.heap.size w Z):=D.out.trans (BZ.out.mono D.out.size);have sZ:w2.heap.size<Z.heap.size:=yd _ _ d5;rw[hZ];clear hZ;refine ye (DP.out _ b2.out) ?_;rintro e w3 ⟨K,lo,hi,rfl,b6,hc⟩;obtain⟨bq,cs,x3,fz,d9,e9,e1,a8,b0⟩:=OC.out _ _ _ _ _ b2.out.size hc;obtain⟨lq,h7⟩:∃ lq,lo q=lq:=⟨_,rfl⟩;rw[h7] at d9 e9 e1 a8 b0;obtain⟨B,b9⟩:∃ B,Z.heap.size=B:=⟨_,rfl⟩;rw[b9] at x3 fz d9 b0;obtain⟨sb,c8⟩:∃ sb,w2.heap.size=sb:=⟨_,rfl⟩;have c7:Hid (Below w.heap.size w w3):=b2.out.trans (b6.mono b2.out.size);have xs:w3.cell? ⟨sb,0,none⟩=some (.slice va vl vc):=by rw[<- c8];exact zab d5 b6
     have d7:Hid (w3.ownsRow lq 47 1 (.slice (some ⟨bq,0,none⟩) cl cl) cl cs):=a8;have sB:B<w3.heap.size:=yd _ _ x3;have j3:w.heap.size<=B:=by rw[<- b9];exact b2.out.size
     have j1:sb<B:=by omega
     have sq:bq<w3.heap.size:=(World.ownsRow.lt d7.out bq rfl).2
     have FF:Hid (∀ (w9:World) (v9:Value),zaq (fun x=>x=bq) w3 w9->w9.ownsRow lq 47 1 v9 (cl+1) (cs++[.slice va vl vc])->SlA (some ⟨B,0,none⟩) n n/\zbJ X (w9.setCell ⟨B,q*5+3,none⟩ v9) (some ⟨B,0,none⟩) M):=fun w9 v9 h1 h2=>by
      refine b0 w9 v9 va vc h1 (by rw[b3.out];exact h2) ?_;have o1:zaq (fun x=>x<w1.heap.size\/w2.heap.size<=x) w2 w9:=((zaq.of_below BZ.out).trans (zaq.mk (yE (yj _) b6.size) (fun b hb _=>b6.block b (by omega)))).trans (h1.mono (fun x (hx:x=bq)=>Or.inr (by omega)))
      exact St.less (St.off a7.out o1) (fun x hx=>by
       have j2:=I.out.size;rcases hx with hx|hx
       ·exact Or.inl (by omega)
       ·exact Or.inr (by omega))
     rw[b9,c8];clear b9 c8 b6 hc a8 b0 DP OC a7 b3 d5
     go_wp2_with fail
     refine wp_region_noPanic ?_;refine zeV (S:=fun e6=>e6.cell? ⟨B,q*5+3,none⟩=some (.slice (some ⟨bq,0,none⟩) cl cl)/\e6.cell? ⟨sb,0,none⟩=some (.slice va vl vc)) 12 (by kernel_rfl) (by(try dsimp only);go_keep) (fun hHeld=>?_);refine zaf (i:=0) ?_;simp[Act.put];refine zaf (i:=1) ?_;simp[Act.put];refine zaf (i:=2) ?_;simp[Act.put];refine zaf (i:=3) ?_;simp[Act.put];refine zaf (i:=4) ?_;simp[Act.put];refine zaf (i:=5) ?_;simp[Act.put];refine zaf (i:=6) ?_;simp[Act.put];refine zaf (i:=7) ?_;simp[Act.put];refine zbB (i:=8) (by kernel_rfl) rfl (fun K hK=>?_);go_simp;refine hK.out _ _ ?_ (fun hHeld=>?_)
     ·exact⟨zab x3 ((yk w3.heap.size w3).drew.alloc (yj _) (.cells #[.slice va vl vc] 47)),zab xs ((yk w3.heap.size w3).drew.alloc (yj _) (.cells #[.slice va vl vc] 47))⟩
     clear hK K hHeld
     try simp[Act.put]
     refine zbB (i:=9) (by kernel_rfl) rfl (fun K hK=>?_);refine zjV rfl (.tmp 61) (.tmp 63) 119 rfl lq 47 i0 (.agg #[.slice none 0 0]) 1 24 Tryz.underlying119 g8 i1 i2 i3 rfl (by decide) (.slice (some ⟨bq,0,none⟩) cl cl) cl cs rfl (World.ownsRow.alloc (World.ownsRow.drew d7.out) _) (some ⟨w3.heap.size,0,none⟩) 1 1 [.slice va vl vc] (fun h=>by cases h) rfl rfl (fun ad e j u hj=>by cases e;exact zAY (zac w3.drew _ _ 0 rfl) j u hj) (by intro u hu;simp at hu;subst hu;rfl) F g6 (((yk w3.heap.size w3).drew.alloc (yj _) (.cells #[.slice va vl vc] 47)) |> fun h=>yE e1 h.size) ?_;intro v9 w9 b7 a5;have t3:w9.cell? ⟨B,q*5+3,none⟩=some (.slice (some ⟨bq,0,none⟩) cl cl):=a5.cell (a:=⟨B,q*5+3,none⟩) (zab x3 ((yk w3.heap.size w3).drew.alloc (yj _) (.cells #[.slice va vl vc] 47))) (by intro e;have e2:B=bq:=Option.some.inj e;omega);have t0:w9.cell? ⟨sb,0,none⟩=some (.slice va vl vc):=a5.cell (a:=⟨sb,0,none⟩) (zab xs ((yk w3.heap.size w3).drew.alloc (yj _) (.cells #[.slice va vl vc] 47))) (by intro e;have e2:sb=bq:=Option.some.inj e;omega);have f9:w9.frozen? ⟨B,q*5+3,none⟩=false:=(yC (a5.block B (by show B<(w3.drew.alloc _).heap.size;simp;omega) (by intro e;have e2:B=bq:=Option.some.inj e;omega))).trans (((yk w3.heap.size w3).drew.alloc (yj _) (.cells #[.slice va vl vc] 47)).frozen (show (⟨B,q*5+3,none⟩:Addr).block<w3.heap.size from sB) |>.trans (fz _))
     have o9:zaq (fun x=>x=bq) w3 w9:=(zaq.of_below ((yk w3.heap.size w3).drew.alloc (yj _) (.cells #[.slice va vl vc] 47))).trans (zaq.grown a5 (fun b hb=>by cases hb;rfl));have e7:Hid (Below w.heap.size w w9):=(c7.out.trans (((yk w3.heap.size w3).drew.alloc (yj _) (.cells #[.slice va vl vc] 47)).mono c7.out.size)).grown a5 (by show w.heap.size<=(w3.drew.alloc _).heap.size;simp;have:=c7.out.size;omega) (fun kk hk=>by cases hk;show w.heap.size<=bq;omega);have d6:Hid (w9.ownsRow lq 47 1 v9 (cl+1) (cs++[.slice va vl vc])):=b7;have b8:Hid _:=FF.out w9 v9 o9 b7;refine hK.out _ _ ?_ (fun hHeld=>?_)
     ·exact⟨t3,t0⟩
     obtain⟨i4,i5,h9⟩:∃ a c,v9=.slice a (cl+1) c:=by
      rcases d6.out.2 with ⟨e,e0⟩ |⟨g5,d8,i6,e,_⟩
      ·exact⟨none,0,by rw[e,e0]⟩
      ·exact⟨_,d8,e⟩
     subst h9;clear hK K hHeld b7 a5 d6 o9 FF
     try simp[Act.put]
     refine zbB (i:=10) (by kernel_rfl) rfl (fun K hK=>?_);go_simp;refine hK.out _ _ ?_ (fun hHeld=>?_)
     ·(try dsimp only)
      exact⟨t3,t0⟩
     clear hK K
     try simp[Act.put]
     refine zaf (i:=11) ?_;simp[Act.put];refine zeU (by kernel_rfl) rfl (fun K hK=>?_);go_simp;refine hK.out _ _ ?_;clear hK K
     try simp[Act.put]
     refine zeT (by kernel_rfl) ?_ _;refine NoPanic.normal ?_;have B9:Hid (Below w.heap.size w (w9.setCell ⟨B,q*5+3,none⟩ (.slice i4 (cl+1) i5))):=e7.out.setCell (by show w.heap.size<=B;omega) _;clear t3 t0 f9
     go_wp2_with fail
     exact yv (v:=.tuple #[.slice (some ⟨B,0,none⟩) n n,.int .i64 0]) (by simp[results,Tryz.results145,go_sem]) rfl (by first|exact⟨_,n,by rw[ML.out],B9.out,(by rw[ML.out];exact b8.out.1),b8.out.2⟩|exact⟨_,⟨n,by rw[ML.out]⟩,B9.out,(by rw[ML.out];exact b8.out.1),b8.out.2⟩)
  ·rw[yb hE,ya hE];have y1:decide (zav G=0)=false:=decide_eq_false hE;have y2:(zav G == 0)=false:=by simp[hE]
   clear hL hB b1 hF R hH eP eL eM hG b5;generalize zav G=E at *;generalize G.length=gl at *;generalize (pt L q).cm.length=cl at *;generalize (pt L q).s=j5 at *;generalize L.length=n at *;generalize zzr G=cF at *
   go_enter Tryz.func145,Tryz.ntmps145
   go_wp2_with fail
   refine ye (DH.out _) ?_;rintro e w1 ⟨rfl,F⟩;have I:Hid (Below w.heap.size w w1):=(zaa _ _).trans (F.mono (by simp));have r1:w1.cell? ⟨w.heap.size,0,none⟩=some (.slice ga gl gc):=zab (zac w #[.slice ga gl gc] 47 0 rfl) F;have s1:w.heap.size<w1.heap.size:=yd _ _ r1;clear F DH
   go_wp2_with fail
   refine ye (DG.out _ I.out) ?_;rintro e w2 ⟨v2,rfl,O,Kc,T⟩;obtain⟨va,vc,rfl,a6⟩:=zlW T;have a7:Hid _:=a6;have D:Hid (Below w.heap.size w w2):=I.out.trans (O.mono I.out.size);have e2:=zab c2 D.out;have e3:=zab d3 D.out;have e4:=zab d4 D.out;have c9:b<w2.heap.size:=yd _ _ e2;obtain⟨vl,U⟩:∃ z,cF.length=z:=⟨_,rfl⟩;have b3:Hid (cF.length=vl):=U;rw[U];clear U O T a6 DG r1
   go_wp2_with fail
   exact yv (v:=.tuple #[.slice none 0 0,.int .i64 E]) (by simp[results,Tryz.results145,go_sem]) rfl ⟨none,0,rfl,D.out.alloc D.out.size _,zda,zbw X _⟩
 ·have eP:zhl L Fr k o t G=zaT L Fr k o t:=by unfold zhl;rw[yb hH]
  rw[eP,ya hH];have y1:decide (zaT L Fr k o t=0)=false:=decide_eq_false hH;have y2:(zaT L Fr k o t == 0)=false:=by simp[hH]
  clear hL hB b1 eP DG;generalize zaT L Fr k o t=E at *;generalize L.length=n at *;generalize G.length=gl at *
  go_enter Tryz.func145,Tryz.ntmps145
  go_wp2_with fail
  refine ye (DH.out _) ?_;rintro e w1 ⟨rfl,F⟩;have I:Hid (Below w.heap.size w w1):=(zaa _ _).trans (F.mono (by simp));clear F DH
  go_wp2_with fail
  exact yv (v:=.tuple #[.slice none 0 0,.int .i64 E]) (by simp[results,Tryz.results145,go_sem]) rfl ⟨none,0,rfl,I.out,zda,zbw X _⟩
theorem ztz:(Tryz.prog.info? 61).map (fun i=>(i.zero,i.size,i.bytes))=some (some (.agg #[.int .i64 0,.int .i64 0]),2,16):=by kernel_rfl
theorem zoM(w:World):(Instr.makeSlice 44 (.int .i64 16) (.int .i64 16)).run Tryz.prog w=.ok (.slice (some ⟨w.heap.size,0,none⟩) 16 16) (w.alloc (.cells (madeCells #[.int .i64 0,.int .i64 0] 32) 61)):=by
 obtain⟨i,hi,D,E,F⟩:=info_parts ztz;have h:=run_make (P:=Tryz.prog) w 44 61 i _ Tryz.underlying44 hi D .i64 .i64 16 16 (by omega) (by omega) (by rw[F];omega) (by omega);rw[E] at h;exact h
theorem zpX(n i:Nat)(h:i<n):(List.replicate n ((0:Int),(0:Int))).getD i (0,0)=(0,0):=by
 rw[zae _ _ (by rw[List.length_replicate];exact h),List.getElem_replicate]
theorem zni(n j:Nat)(h:j<n):(madeCells #[.int .i64 0,.int .i64 0] n)[j]?=some (.int .i64 0):=by
 have D:j % 2=0\/j % 2=1:=by omega
 rcases D with D|D <;> simp[madeCells,h,D]
theorem zqR(W:World):zas (W.alloc (.cells (madeCells #[.int .i64 0,.int .i64 0] 32) 61)) (some ⟨W.heap.size,0,none⟩) (List.replicate 16 (0,0)):=fun i hi=>by
 rw[List.length_replicate] at hi;refine⟨W.heap.size,0,rfl,?_,?_⟩
 ·rw[zpX 16 i hi];exact zac W _ _ _ (zni _ _ (by omega))
 ·rw[zpX 16 i hi];exact zac W _ _ _ (zni _ _ (by omega))
theorem zmt{x:Int}(h:isH x):∃ p:Nat,x=p/\p<16:=⟨x.toNat,by have:=h.1;omega,by have:=h.2;have:=h.1;omega⟩
theorem zdS{w W:World}{t:Nat}{D v1 v2 E:Value}(F:Below (w.heap.size+1) (w.alloc (.cells #[D,v1,v2,E] t)) W):W.heap[w.heap.size]?=some (.cells #[D,v1,v2,E] t (0,0)):=(F.block _ (Nat.lt_succ_self _)).trans (zcc _ _ _ _ _ _)
theorem zem:zsh:=fun A R w hB hW=>by
 obtain⟨a0,a1,a2,a3,c0,c1,c2,c3⟩:=A;obtain⟨hN,a7,hH,hI,a6,hT⟩:=hB;obtain⟨w0,w1,w2,w3⟩:=hW;have I:Hid (∀ o1,_):=fun o1=>zdT a0 c0 R.s (w.alloc o1) hN a7 (w0.below (zaa _ _));have M:Hid (∀ W,Below w.heap.size w W->_):=fun W hW=>zfP a2 c2 R.i W hI a6 (w2.below hW);clear w0 w1 w2 w3 a7 a6;dsimp only[rlV];unfold zaF;obtain⟨E0,h0⟩:∃ E,zbq R.s=E:=⟨_,rfl⟩;obtain⟨E1,h1⟩:∃ E,zav R.i=E:=⟨_,rfl⟩;rw[h0] at I |-;rw[h1] at M |-;clear h0 h1;generalize R.s.length=n0 at *;generalize R.i.length=n2 at *;generalize R.t.length=n3 at *;generalize R.hs.length=n1 at *;by_cases e0:E0=0
 ·subst e0;rw[yb rfl];by_cases e1:n1=16
  ·subst e1;rw[yb rfl];by_cases e2:E1=0
   ·subst e2;rw[yb rfl];by_cases e3:4800<n3
    ·rw[yb e3];have a9:(4800:Int)<(n3:Int):=by omega
     go_enter Tryz.func32,Tryz.ntmps32
     go_wp2_with fail
     refine ye (I.out _) ?_;rintro e V ⟨rfl,D⟩;have F:Hid (Below w.heap.size w V):=(zaa w _).trans (D.mono (by simp));simp only[yr] at D;have O:Hid _:=zdS D;obtain⟨U,Z,l2,l3,T,lt⟩:=zai O.out;clear D I
     go_wp2_with fail
     refine ye (M.out _ F.out) ?_;rintro e V2 ⟨rfl,D⟩;have J:Hid (Below w.heap.size w V2):=F.out.trans (D.mono F.out.size);have a5:Hid _:=zaD O.out D;clear U Z l2 l3 T lt;obtain⟨U,Z,l2,l3,T,lt⟩:=zai a5.out;clear D M
     go_wp2
     go_ret;exact⟨rfl,J.out⟩
    ·rw[ya e3];have a9:¬ (4800:Int)<(n3:Int):=by omega
     go_enter Tryz.func32,Tryz.ntmps32
     go_wp2_with fail
     refine ye (I.out _) ?_;rintro e V ⟨rfl,D⟩;have F:Hid (Below w.heap.size w V):=(zaa w _).trans (D.mono (by simp));simp only[yr] at D;have O:Hid _:=zdS D;obtain⟨U,Z,l2,l3,T,lt⟩:=zai O.out;clear D I
     go_wp2_with fail
     refine ye (M.out _ F.out) ?_;rintro e V2 ⟨rfl,D⟩;have J:Hid (Below w.heap.size w V2):=F.out.trans (D.mono F.out.size);have a5:Hid _:=zaD O.out D;clear U Z l2 l3 T lt;obtain⟨U,Z,l2,l3,T,lt⟩:=zai a5.out;clear D M
     go_wp2
     go_ret;exact⟨rfl,J.out⟩
   ·rw[ya e2];have hz:(E1 == 0)=false:=by simp[e2]
    go_enter Tryz.func32,Tryz.ntmps32
    go_wp2_with fail
    refine ye (I.out _) ?_;rintro e V ⟨rfl,D⟩;have F:Hid (Below w.heap.size w V):=(zaa w _).trans (D.mono (by simp));simp only[yr] at D;have O:Hid _:=zdS D;obtain⟨U,Z,l2,l3,T,lt⟩:=zai O.out;clear D I
    go_wp2_with fail
    refine ye (M.out _ F.out) ?_;rintro e V2 ⟨rfl,D⟩;have J:Hid (Below w.heap.size w V2):=F.out.trans (D.mono F.out.size);clear U Z l2 l3 T lt D M
    go_wp2
    go_ret;exact⟨rfl,J.out⟩
  ·rw[ya e1];have a8:¬ ((n1:Int)=16):=by omega
   have hz:((n1:Int) == 16)=false:=by simp[a8]
   go_enter Tryz.func32,Tryz.ntmps32
   go_wp2_with fail
   refine ye (I.out _) ?_;rintro e V ⟨rfl,D⟩;have F:Hid (Below w.heap.size w V):=(zaa w _).trans (D.mono (by simp));simp only[yr] at D;have O:Hid _:=zdS D;obtain⟨U,Z,l2,l3,T,lt⟩:=zai O.out;clear D I M
   go_wp2
   go_ret;exact⟨rfl,F.out⟩
 ·rw[ya e0];have hz:(E0 == 0)=false:=by simp[e0]
  go_enter Tryz.func32,Tryz.ntmps32
  go_wp2_with fail
  refine ye (I.out _) ?_;rintro e V ⟨rfl,D⟩;have F:Hid (Below w.heap.size w V):=(zaa w _).trans (D.mono (by simp));clear D I M
  go_wp2
  go_ret;exact⟨rfl,F.out⟩
theorem zyL(p:Int)(w:World)(D:p<0\/24<p) :
  Calls Tryz.prog 62 #[.int .i64 p] w fun e w' => e=.returned (.tuple #[.agg #[.slice none 0 0],.int .i64 2])/\Below w.heap.size w w' := by
 go_enter Tryz.func62,Tryz.ntmps62
 go_wp2_with (go_at_call 66;refine(zhq _ _ _ _ D).mono ?_;rintro e w' ⟨rfl,rfl⟩)
 first
  |(go_ret;exact⟨rfl,yk _ _⟩)
  |(go_ret;exact⟨rfl,(yk _ _).alloc (yj _) _⟩)
  |(refine yv (v:=.tuple #[.agg #[.slice none 0 0],.int .i64 2]) (by simp[results,Tryz.results62,go_sem]) rfl ⟨rfl,?_⟩;first|exact(yk _ _).alloc (yj _) _|exact((yk _ _).alloc (yj _) _).setCell (by simp) _|exact(((yk _ _).alloc (yj _) _).setCell (by simp) _).drew)
theorem ztY{w w' : World}{g n:Nat}(h:zah w (some ⟨g,0,none⟩) (List.replicate n zbc))(I:w'.heap[g]?=w.heap[g]?):zah w' (some ⟨g,0,none⟩) (List.replicate n zbc):=fun i hi=>by
 obtain⟨b,o,e,hn⟩:=h i hi;cases e;have D:i<n:=by simpa using hi
 rw[zfx n i _ D] at hn |-;obtain⟨c0,c1,c2,c3,c4,⟨ka,kc,c5,_⟩,E,F⟩:=hn;have hc:∀ o,w'.cell? ⟨g,o,none⟩=w.cell? ⟨g,o,none⟩:=fun o=>yB I;exact⟨g,0,rfl,(hc _).trans c0,(hc _).trans c1,(hc _).trans c2,(hc _).trans c3,(hc _).trans c4,⟨ka,kc,(hc _).trans c5,fun j J=>absurd J (yw _)⟩,(hc _).trans E,(hc _).trans F⟩
theorem zou{w w' : World}{g:Nat}{H:List (Int × Int)}(h:zas w (some ⟨g,0,none⟩) H)(D:w'.heap[g]?=w.heap[g]?):zas w' (some ⟨g,0,none⟩) H:=fun i hi=>by
 obtain⟨b,o,e,h1,E⟩:=h i hi;cases e;exact⟨g,0,rfl,(yB D).trans h1,(yB D).trans E⟩
theorem ztZ(n:Nat)(w:World)(hn:n<=24):Calls Tryz.prog 28 #[.int .i64 (n:Int)] w fun e w' => ∃ (a0 a1:Option Addr) (c0:Nat),e=.returned (.tuple #[.agg #[.slice a0 n c0,.slice a1 16 16,.slice none 0 0,.slice none 0 0],.int .i64 0])/\Below w.heap.size w w' /\ St (fun b=>b<w.heap.size) (fun V=>zah V a0 (List.replicate n zbc)/\zas V a1 (List.replicate 16 (0,0))) w' := by
 have D:Hid (∀ U,_):=fun U=>zwE n (w.alloc U) hn;clear hn;have a6:=zoM
 go_enter Tryz.func28,Tryz.ntmps28
 go_wp2_with fail
 refine ye (D.out _) ?_;rintro e V ⟨g,rfl,F,hn,M,a5⟩;have O:Hid (Below w.heap.size w V):=(zaa w _).trans (F.mono (by simp));have HN:Hid (zah V (some ⟨g,0,none⟩) (List.replicate n zbc)):=hn;simp only[yr] at F M;have I:Hid _:=zdS F;obtain⟨l0,l1,l2,l3,fz,lt⟩:=zai I.out;clear F D hn
 go_wp2_with fail
 go_region
 go_wp2
 have SL:Hid (SlB V w.heap.size):=zAr I.out ⟨_,_,_,rfl⟩ ⟨_,_,_,rfl⟩ ⟨_,_,_,rfl⟩ ⟨_,_,_,rfl⟩;obtain⟨X,E⟩:∃ X,(((V.setCell ⟨w.heap.size,0,none⟩ (.slice (some ⟨g,0,none⟩) n n)).setCell ⟨w.heap.size,1,none⟩ (.slice (some ⟨V.heap.size+1,0,none⟩) 16 16)).setCell ⟨w.heap.size,2,none⟩ (.slice none 0 0)).setCell ⟨w.heap.size,3,none⟩ (.slice none 0 0)=X:=⟨_,rfl⟩;have x0:X.heap[w.heap.size]?=some (.cells #[.slice (some ⟨g,0,none⟩) n n,.slice (some ⟨V.heap.size+1,0,none⟩) 16 16,.slice none 0 0,.slice none 0 0] 50 (0,0)):=by rw[<- E];exact zcL I.out
 have x1:zah X (some ⟨g,0,none⟩) (List.replicate n zbc):=by rw[<- E];exact HN.out.offB SL.out (zqs.refl _ _).set.set.set.set
 have x2:X.heap.size=V.heap.size:=by rw[<- E];simp
 have Z:Below w.heap.size w X:=by rw[<- E];exact(((O.out.setCell (yj _) _).setCell (yj _) _).setCell (yj _) _).setCell (yj _) _
 rw[E];clear E;have x4:=zqR (X.alloc (Obj.cells #[Value.slice (some ⟨g,0,none⟩) n n] 43));rw[yr,x2] at x4;have J:=(zam X (Obj.cells #[Value.slice (some ⟨g,0,none⟩) n n] 43) (Obj.cells (madeCells #[Value.int IntKind.i64 0,Value.int IntKind.i64 0] 32) 61)).drew;have x5:=zaD x0 J;obtain⟨m0,m1,m2,m3,mf,ml⟩:=zai x5;refine yv (v:=.tuple #[.agg #[.slice (some ⟨g,0,none⟩) n n,.slice (some ⟨V.heap.size+1,0,none⟩) 16 16,.slice none 0 0,.slice none 0 0],.int .i64 0]) (by simp[results,Tryz.results28,go_sem,m0,m1,m2,m3]) rfl ⟨some ⟨g,0,none⟩,some ⟨V.heap.size+1,0,none⟩,n,by simp,Z.trans (J.mono Z.size),fun V' T=>⟨ztY (x1.below J) (T.block g (by simp;omega) (by omega)),zou (x4.below (yk _ _).drew) (T.block _ (by simp;omega) (by have:=O.out.size;omega))⟩⟩
theorem zyM:zpo:=fun p w=>by
 by_cases J:0<=p/\p<=24
 ·have F:zdj p=⟨List.replicate p.toNat zbc,List.replicate 16 (0,0),[],[]⟩:=yb J;have I:zAN p=0:=yb J;rw[F,I];clear F I;obtain⟨n,rfl⟩:∃ n:Nat,p=n:=⟨p.toNat,by omega⟩;rw[yi];refine(ztZ n w (by omega)).mono ?_;rintro e V ⟨a0,a1,c0,rfl,E,hs⟩;exact⟨⟨a0,a1,none,none,c0,16,0,0⟩,by simp[rlV],E,hs.at.1,hs.at.2,fun _ h=>absurd h (yw _),fun _ h=>absurd h (yw _)⟩
 ·have F:zdj p=zbK:=ya J;have I:zAN p=2:=ya J;rw[F,I];clear F I;have D:Hid (∀ U,_):=fun U=>zyL p (w.alloc U) (by omega);clear J
  go_enter Tryz.func28,Tryz.ntmps28
  go_wp2_with fail
  refine ye (D.out _) ?_;rintro e V ⟨rfl,E⟩;have HB:Hid (Below w.heap.size w V):=(zaa w _).trans (E.mono (by simp));simp only[yr] at E;have O:Hid _:=zdS E;obtain⟨l0,l1,l2,l3,fz,lt⟩:=zai O.out;clear E D
  go_wp2
  obtain⟨X,M⟩:∃ X,(((V.setCell ⟨w.heap.size,0,none⟩ (.slice none 0 0)).setCell ⟨w.heap.size,1,none⟩ (.slice none 0 0)).setCell ⟨w.heap.size,2,none⟩ (.slice none 0 0)).setCell ⟨w.heap.size,3,none⟩ (.slice none 0 0)=X:=⟨_,rfl⟩;have x0:X.heap[w.heap.size]?=some (.cells #[.slice none 0 0,.slice none 0 0,.slice none 0 0,.slice none 0 0] 50 (0,0)):=by rw[<- M];exact zcL O.out
  have Z:Below w.heap.size w X:=by rw[<- M];exact(((HB.out.setCell (yj _) _).setCell (yj _) _).setCell (yj _) _).setCell (yj _) _
  rw[M];clear M;have T:=zaa X (Obj.cells #[Value.slice none 0 0] 43);have x5:=zaD x0 T;obtain⟨m0,m1,m2,m3,mf,ml⟩:=zai x5;refine yv (v:=.tuple #[.agg #[.slice none 0 0,.slice none 0 0,.slice none 0 0,.slice none 0 0],.int .i64 2]) (by simp[results,Tryz.results28,go_sem,m0,m1,m2,m3]) rfl ⟨⟨none,none,none,none,0,0,0,0⟩,rfl,Z.trans (T.mono Z.size),zjL _ _⟩
theorem zcF(A:RA)(R:Rl)(k:Int)(w:World)(hl:R.hs.length=16) :
  Calls Tryz.prog 161 #[rlV A R,.int .i64 k] w fun e w' => e=.returned (.bool (decide (isH k)))/\Below w.heap.size w w' := by
 dsimp only[rlV];rw[hl];have D:Hid (∀ W,Calls _ _ _ _ _):=fun W=>zaQ k 0 15 W;have hd:decide (0<=k/\k<=15)=decide (isH k):=rfl;rw[hd] at D;clear hd hl;generalize decide (isH k)=r at *
 go_enter Tryz.func161,Tryz.ntmps161
 go_wp2_with fail
 refine ye (D.out _) ?_;rintro e V ⟨rfl,E⟩;subst E
 go_wp2
 go_ret;exact⟨rfl,zaa _ _⟩
def hcF(hs:List (Int × Int)):Nat->Value:=fun j=>.int .i64 (if j % 2=0 then (hs.getD (j / 2) (0,0)).1 else (hs.getD (j / 2) (0,0)).2)
theorem zzQ(hs:List (Int × Int))(i:Nat):hcF hs (i*2)=.int .i64 (hs.getD i (0,0)).1:=by
 unfold hcF;rw[yb (by omega),show i*2 / 2=i by omega]
theorem zzR(hs:List (Int × Int))(i:Nat):hcF hs (i*2+1)=.int .i64 (hs.getD i (0,0)).2:=by
 unfold hcF;rw[ya (by omega),show (i*2+1) / 2=i by omega]
theorem zfo{w:World}{h:Nat}{hs:List (Int × Int)}(D:w.rowIs h 61 (hs.length*2) (hcF hs)):zas w (some ⟨h,0,none⟩) hs:=fun i hi=>by
 refine⟨h,0,rfl,?_,?_⟩
 ·rw[yz,D.cell (by omega),zzQ]
 ·rw[yz,D.cell (by omega),zzR]
theorem zyy(hs:List (Int × Int))(k:Nat)(x:Int × Int)(E:k<hs.length):(fun j=>if j=k*2+1 then Value.int .i64 x.2 else if j=k*2 then Value.int .i64 x.1 else hcF hs j)=hcF (hs.set k x):=by
 have key:∀ i,(hs.set k x).getD i (0,0)=if i=k then x else hs.getD i (0,0):=fun i=>by
  by_cases e:i=k
  ·subst e;rw[yb rfl];simp[List.getD_eq_getElem?_getD,E]
  ·rw[ya e];exact ziM _ _ _ _ _ e
 funext j
 unfold hcF;rw[key];by_cases h1:j=k*2+1
 ·subst h1;rw[yb rfl,ya (by omega),yb (by omega)]
 ·rw[ya h1];by_cases D:j=k*2
  ·subst D;rw[yb rfl,yb (by omega),yb (by omega)]
  ·rw[ya D,ya (show ¬ j / 2=k by omega)]
def zlk(w:World)(g:Nat)(X:Nat->Prop)(S:List Nd):Prop :=
 ¬ X g/\∃ F,w.rowIs g 57 (S.length*8) F/\∀ i,i<S.length->∃ kb kc,NdR w F (i*8) (nd S i) kb kc/\kb≠g/\¬ X kb
theorem zlk.off{w w' : World}{g:Nat}{X:Nat->Prop}{S:List Nd}(h:zlk w g X S)(J:zaq X w w'):zlk w' g X S:=by
 obtain⟨hg,F,E,hN⟩:=h;refine⟨hg,F,E.of_block (J.block g E.lt hg),fun i hi=>?_⟩;obtain⟨kb,kc,⟨O,T,U,Z,e4,e5,e6,e7,e8,D,G,I,e9⟩,hk,M⟩:=hN i hi;exact⟨kb,kc,⟨O,T,U,Z,e4,e5,e6,e7,e8,D,G,I.of_block (J.block kb I.lt M),e9⟩,hk,M⟩
theorem zlk.lt{w:World}{g:Nat}{X:Nat->Prop}{S:List Nd}(h:zlk w g X S):g<w.heap.size:=by
 obtain⟨_,F,D,_⟩:=h;exact D.lt
theorem zlk.grow{w:World}{g:Nat}{X Y:Nat->Prop}{S:List Nd}(h:zlk w g X S)(I:∀ b,b<w.heap.size->Y b->X b):zlk w g Y S:=by
 obtain⟨hg,F,E,J⟩:=h;refine⟨fun D=>hg (I g E.lt D),F,E,fun i hi=>?_⟩;obtain⟨kb,kc,h1,M,O⟩:=J i hi;exact⟨kb,kc,h1,M,fun D=>O (I kb h1.row D)⟩
theorem zlk.nds{w:World}{g:Nat}{X:Nat->Prop}{S:List Nd}(h:zlk w g X S):zah w (some ⟨g,0,none⟩) S:=fun i hi=>by
 obtain⟨_,F,D,hN⟩:=h;obtain⟨kb,kc,⟨E,I,J,M,O,T,U,Z,e8,a5,G,hG,e9⟩,_⟩:=hN i hi;refine⟨g,0,rfl,?_⟩;rw[yz];refine⟨?_,?_,?_,?_,?_,⟨some ⟨kb,0,none⟩,kc,?_,fun j hj=>⟨kb,0,rfl,?_⟩⟩,?_,?_⟩
 ·rw[D.cell (by omega),E]
 ·rw[D.cell (by omega),I]
 ·rw[D.cell (by omega),J]
 ·rw[D.cell (by omega),M]
 ·rw[D.cell (by omega),O]
 ·rw[D.cell (by omega),T]
 ·rw[yz,hG.cell (by omega),e9 j hj]
 ·rw[D.cell (by omega),U]
 ·rw[D.cell (by omega),Z]
theorem zlk.st{w:World}{g:Nat}{X:Nat->Prop}{S:List Nd}(h:zlk w g X S):St X (fun V=>zah V (some ⟨g,0,none⟩) S) w:=fun w' D=>(h.off D).nds
theorem zlk.mark{w:World}{g:Nat}{X:Nat->Prop}{S:List Nd}{k:Nat}(h:zlk w g X S)(hk:k<S.length)(n:Int):zlk (w.setCell ⟨g,k*8+3,none⟩ (.int .i64 n)) g X (S.set k { nd S k with m:=n }):=by
 obtain⟨hg,F,hF,hN⟩:=h;refine⟨hg,_,by rw[List.length_set];exact hF.set (k*8+3) (.int .i64 n),fun i hi=>?_⟩;rw[List.length_set] at hi;obtain⟨kb,kc,⟨O,T,U,e3,Z,e5,e6,e7,J,D,G,hG,M⟩,I,hx⟩:=hN i hi;have E:=hG.setOther (a:=⟨g,k*8+3,none⟩) (by simp;omega) (.int .i64 n);refine⟨kb,kc,?_,I,hx⟩;rw[zct S k i _ hk];by_cases e:i=k
 ·subst e;rw[yb rfl];refine⟨?_,?_,?_,?_,?_,?_,?_,?_,J,D,G,E,M⟩
  all_goals dsimp only
  ·rw[ya (by omega),O]
  ·rw[ya (by omega),T]
  ·rw[ya (by omega),U]
  ·rw[yb rfl]
  ·rw[ya (by omega),Z]
  ·rw[ya (by omega),e5]
  ·rw[ya (by omega),e6]
  ·rw[ya (by omega),e7]
 ·rw[ya e];refine⟨?_,?_,?_,?_,?_,?_,?_,?_,J,D,G,E,M⟩
  all_goals
   dsimp only;rw[ya (by omega)];assumption
def tOf(A:RA):Nat:=(A.a3.getD ⟨0,0,none⟩).block
abbrev zsa(R:Rl):Nat->Value:=fun j=>.int .i64 (R.t.getD j 0)
structure CI (w:World) (R:Rl) (h g:Nat) (A:RA) (V:World):Prop where
 bel:Below w.heap.size w V
 h0:w.heap.size<=h
 t0:w.heap.size<=tOf A
 th:tOf A≠h
 a0:A.a0=some ⟨g,0,none⟩
 a1:A.a1=some ⟨h,0,none⟩
 a3:A.a3=some ⟨tOf A,0,none⟩
 c3:A.c3=R.t.length
 row:V.rowIs h 61 (R.hs.length*2) (hcF R.hs)
 tr:V.rowIs (tOf A) 3 R.t.length (zsa R)
 own:zlk V g (fun b=>b<w.heap.size\/b=h\/b=tOf A) R.s
 cls:St (fun b=>b<w.heap.size\/b=h\/b=tOf A\/b=g) (fun V=>zaG V A.a2 R.i) V
structure WI (w:World) (R:Rl) (d h g:Nat) (A:RA) (V:World):Prop where
 bel:Below w.heap.size w V
 d0:w.heap.size<=d
 h0:w.heap.size<=h
 t0:w.heap.size<=tOf A
 dh:h≠d
 th:tOf A≠h
 td:tOf A≠d
 a0:A.a0=some ⟨g,0,none⟩
 a1:A.a1=some ⟨h,0,none⟩
 a3:A.a3=some ⟨tOf A,0,none⟩
 c3:A.c3=R.t.length
 box:V.heap[d]?=some (bxR A R)
 row:V.rowIs h 61 (R.hs.length*2) (hcF R.hs)
 tr:V.rowIs (tOf A) 3 R.t.length (zsa R)
 own:zlk V g (fun b=>b<w.heap.size\/b=d\/b=h\/b=tOf A) R.s
 cls:St (fun b=>b<w.heap.size\/b=d\/b=h\/b=tOf A\/b=g) (fun V=>zaG V A.a2 R.i) V
theorem CI.wi{w V:World}{R:Rl}{h g:Nat}{A:RA}(I:CI w R h g A V):WI w R V.heap.size h g A (V.alloc (.cells #[.slice A.a0 R.s.length A.c0,.slice A.a1 R.hs.length A.c1,.slice A.a2 R.i.length A.c2,.slice A.a3 R.t.length A.c3] 50)):=by
 have D:=zaa V (.cells #[.slice A.a0 R.s.length A.c0,.slice A.a1 R.hs.length A.c1,.slice A.a2 R.i.length A.c2,.slice A.a3 R.t.length A.c3] 50);have hl:=I.row.lt;have tl:=I.tr.lt;exact⟨I.bel.trans (D.mono I.bel.size),I.bel.size,I.h0,I.t0,by omega,I.th,by omega,I.a0,I.a1,I.a3,I.c3,zcc _ _ _ _ _ _,I.row.of_block (D.block h hl),I.tr.of_block (D.block _ tl),(I.own.grow (fun b E F=>by omega)).off (zaq.of_below D),I.cls.grow (zaq.of_below D) (fun b E F=>by omega)⟩
theorem WI.below{w V E:World}{R:Rl}{d h g:Nat}{A:RA}(I:WI w R d h g A V)(D:Below V.heap.size V E):WI w R d h g A E :=
 ⟨I.bel.trans (D.mono I.bel.size),I.d0,I.h0,I.t0,I.dh,I.th,I.td,I.a0,I.a1,I.a3,I.c3,zaD I.box D,I.row.of_block (D.block h I.row.lt),I.tr.of_block (D.block _ I.tr.lt),I.own.off (zaq.of_below D),I.cls.off (zaq.of_below D)⟩
theorem WI.nds{w V:World}{R:Rl}{d h g:Nat}{A:RA}(I:WI w R d h g A V):zah V (some ⟨g,0,none⟩) R.s:=I.own.nds
theorem WI.gs{w V:World}{R:Rl}{d h g:Nat}{A:RA}(I:WI w R d h g A V):w.heap.size<=g/\g≠d/\h≠g/\tOf A≠g:=by
 have:=I.own.1;omega
theorem WI.base{w V:World}{R:Rl}{d h g:Nat}{A:RA}(I:WI w R d h g A V):w.heap.size<=V.heap.size/\d<V.heap.size/\h<V.heap.size/\tOf A<V.heap.size:=⟨I.bel.size,zaw I.box,I.row.lt,I.tr.lt⟩
theorem WI.hand{w V:World}{R:Rl}{d h g:Nat}{A:RA}(I:WI w R d h g A V){k:Nat}(D:k<R.hs.length):V.cell? ⟨h,k*2,none⟩=some (.int .i64 (hd R k).1)/\V.cell? ⟨h,k*2+1,none⟩=some (.int .i64 (hd R k).2):=by
 have e:hd R (k:Int)=R.hs.getD k (0,0):=by unfold hd;rw[yi]
 rw[e];exact⟨by rw[I.row.cell (by omega),zzQ],by rw[I.row.cell (by omega),zzR]⟩
structure RlF (B d:Nat) (V:World) (A:RA) (R:Rl):Prop where
 a3:A.a3=some ⟨tOf A,0,none⟩
 c3:A.c3=R.t.length
 t0:B<=tOf A
 td:tOf A≠d
 tr:V.rowIs (tOf A) 3 R.t.length (zsa R)
 st:St (fun b=>b<B\/b=d\/b=tOf A) (fun V=>zah V A.a0 R.s/\zas V A.a1 R.hs/\zaG V A.a2 R.i) V
theorem RlF.at{B d:Nat}{V:World}{A:RA}{R:Rl}(h:RlF B d V A R):zcp V A R:=⟨h.st.at.1,h.st.at.2.1,h.st.at.2.2,by rw[h.a3];exact zfR h.tr⟩
theorem RlF.off{B d:Nat}{V D:World}{A:RA}{R:Rl}(h:RlF B d V A R)(E:zaq (fun b=>b<B\/b=d) V D):RlF B d D A R :=
 ⟨h.a3,h.c3,h.t0,h.td,h.tr.of_block (E.block _ h.tr.lt (by have:=h.t0;have:=h.td;omega)),h.st.off (E.mono (fun b F=>by omega))⟩
theorem RlF.below{B d:Nat}{V D:World}{A:RA}{R:Rl}(h:RlF B d V A R)(E:Below V.heap.size V D):RlF B d D A R:=h.off (zaq.of_below E)
end Go.Proofs.YtcbcpomacdngmaaGreat
