/-
  x
-/
import Derived.Test.YtcbcpomacdngmaaGreatQ29
namespace Go.Proofs.YtcbcpomacdngmaaGreat
set_option maxRecDepth 100000
set_option maxHeartbeats 4000000
set_option linter.unusedVariables false
open Go.RowKit Go.ChangeShapes Go.WideShapes
theorem zdx{L:List Pt}{Fr:Int}(R:zdu L Fr):zxH L:=fun i hi=>by
 obtain⟨_,_,_,_,h5,E⟩:=zbm.1 (R.ok i hi);have hg:=zco.1 E;exact⟨by omega,fun j D=>⟨by have:=(hg j D).few;omega,fun m F=>by have:=(hg j D).kids8 m F;omega⟩⟩
theorem zuI{B0 B:Nat}(h0:B0<=B){w:World}{v:Value}{M:List Pt}{K:Nat->Value}(row:w.ownsRow B 121 5 v M.length (zch M K))(hg:∀ i,i<M.length->St (fun x=>x<B0) (fun w=>zsn w (K i) (pt M i).cm) w) :
  ∃ a c,v=.slice a M.length c/\SlA a M.length c/\St (fun x=>x<B0) (fun w=>zdH w a M) w:=by
 have D:∀ w', zar (fun x=>x<B0) w w' -> ∃ a c,v=.slice a M.length c/\zdH w' a M:=fun w' F =>
  zuJ (zaK row (fun j J=>F.block j (row.lt j J).2 (by show ¬ j<B0;have:=(row.lt j J).1;omega))) (fun i hi=>hg i hi w' F)
 obtain⟨a,c,e,_⟩:=D w (zar.refl _ w);refine⟨a,c,e,?_,fun w' F=>?_⟩
 ·rcases row.2 with ⟨E,hn⟩ |⟨g,cap,O,E,_,_,h1,T,_⟩
  ·rw[e] at E;simp only[Value.slice.injEq] at E;obtain⟨rfl,_,rfl⟩:=E;exact⟨fun _=>rfl,by omega,by omega⟩
  ·rw[e] at E;cases E;exact⟨(fun h=>by cases h),h1,by unfold maxLen at T;omega⟩
 ·obtain⟨Z,c', I,U⟩:=D w' F;rw[e] at I;cases I;exact U
theorem CpI.grs{B B0:Nat}{L:List Pt}{K:Nat->Value}{lo hi:Nat->Nat}{w E:World}{Y:Nat->Prop}(h:CpI B L K lo hi L.length w)(h0:B0<=B)(F:zxH L)(o:zar Y w E){i:Nat}(D:i<L.length)(I:∀ b,Y b->b<lo i\/hi i<=b):St (fun x=>x<B0) (fun w=>zsn w (K i) (pt L i).cm) E:=fun w' M =>
 (((h.gs i D).off o I).off M (fun b J=>Or.inl (by have:b<B0:=J;have:=(h.at' i D).1;omega))).grs (F i D).1
theorem CpI.put{B B0:Nat}{L:List Pt}{K I:Nat->Value}{lo hi:Nat->Nat}{w F:World}{Y:Nat->Prop}{q:Nat}{x:Pt}(h:CpI B L K lo hi L.length w)(h0:B0<=B)(U:zxH L)(hq:q<L.length)
  (row:F.ownsRow B 121 5 (.slice (some ⟨B,0,none⟩) L.length L.length) L.length (zch (L.set q x) I)) (hK:∀ i,i≠q->I i=K i) (o:zar Y w F) (Z:∀ b,Y b->b<=B\/(lo q<=b/\b<hi q)) (hx:St (fun x=>x<B0) (fun w=>zsn w (I q) x.cm) F) :
  SlA (some ⟨B,0,none⟩) L.length L.length/\St (fun x=>x<B0) (fun w=>zdH w (some ⟨B,0,none⟩) (L.set q x)) F:=by
 have J:(L.set q x).length=L.length:=List.length_set;have E:F.ownsRow B 121 5 (.slice (some ⟨B,0,none⟩) L.length L.length) (L.set q x).length (zch (L.set q x) I):=by rw[J];exact row
 obtain⟨a,c,e,hs,hp⟩:=zuI h0 E (fun i D=>by
  rw[J] at D;by_cases e:i=q
  ·subst e;rw[zmj D];exact hx
  ·rw[zle D,ya (fun M=>e M.symm),hK i e];refine h.grs h0 U o D (fun b hb=>?_);have h1:=(h.at' i D).1;rcases Z b hb with O|O
   ·exact Or.inl (by omega)
   ·rcases h.ap i q D hq e with T|T
    ·exact Or.inr (by omega)
    ·exact Or.inl (by omega))
 rw[J] at e hs;cases e;exact⟨hs,hp⟩
theorem CpI.cell{B:Nat}{L:List Pt}{K:Nat->Value}{lo hi:Nat->Nat}{w:World}(h:CpI B L K lo hi L.length w){k f:Nat}(E:k<L.length)(D:f<5):w.cell? ⟨B,k*5+f,none⟩=(zcY (pt L k) (K k))[f]?:=zuW h.row rfl E D
theorem zhp{X:Nat->Prop}{B0:Nat}{w:World}{a:Option Addr}{M:List Pt}(D:∀ b,X b->b<B0)(h:St (fun x=>x<B0) (fun w=>zdH w a M) w):zbP X w a M:=h.less D
theorem zbA(X:Nat->Prop)(w:World):zbP X w none []:=fun w' _=>zxh w'
theorem zdh:SlA none ([]:List Pt).length 0:=⟨fun _=>rfl,yk _,by omega⟩
theorem zvb:zvD:=fun X a c L Fr k o t w hX hN hB U hL=>by
 have Z:Hid _:=zck a c L Fr k o t w hN hB U hL.at;unfold zih;by_cases I:zaU L Fr k o t=0
 ·rw[yd I,I];rw[I] at Z;obtain⟨R,q,rfl,T,_⟩:=zcs I;have J:=R.few;have hF:=zdx R;have DP:Hid (∀ W,Below w.heap.size w W->_):=fun W hW=>zed a c L W J hF (hL.at.below hW)
  have O:Hid (∀ (B:Nat) (F:World) (K:Nat->Value) (lo hi:Nat->Nat),w.heap.size<=B->CpI B L K lo hi L.length F->SlA (some ⟨B,0,none⟩) L.length L.length/\zbP X ((F.setCell ⟨B,q*5+4,none⟩ (.bool true)).setCell ⟨B,q*5+3,none⟩ (.slice none 0 0)) (some ⟨B,0,none⟩) (zij L q)):=fun B F K lo hi a8 h=>by
   have a1:=zii h.row (k:=q) (f:=4) (u:=.bool true) (v:=K q) (x:={ pt L q with s:=true }) T (by omega) rfl;have a2:=zii a1 (k:=q) (f:=3) (u:=.slice none 0 0) (v:=.slice none 0 0) (x:={ pt L q with s:=true,cm:=[] }) (by simpa using T) (by omega) (by rw[zmj T];simp only[if_true];rfl);rw[List.set_set] at a2;have h1:=h.put (Y:=fun b=>b=B) a8 hF T a2 (fun i hi=>by simp only[ya hi]) ((zar.set (X:=fun b=>b=B) _ _ rfl).trans (zar.set (X:=fun b=>b=B) _ _ rfl)) (fun b hb=>Or.inl (by have:b=B:=hb;omega)) (fun w' _=>by simp only[if_true];exact zsn.nil w');unfold zij;rw[yj];exact⟨h1.1,zhp hX h1.2⟩
  have OC:Hid (∀ (B:Nat) (F:World) (K:Nat->Value) (lo hi:Nat->Nat),CpI B L K lo hi L.length F->F.cell? ⟨B,q*5+3,none⟩=some (K q)/\F.cell? ⟨B,q*5+4,none⟩=some (.bool (pt L q).s)/\∀ o,F.frozen? ⟨B,o,none⟩=false):=fun B F K lo hi h=>⟨h.cell T (show 3<5 by omega),h.cell T (show 4<5 by omega),fun o=>h.row.frozenAt o⟩;have ML:Hid ((zij L q).length=L.length):=by show _=_;unfold zij;simp
  have a9:(q:Int)<(L.length:Int):=by omega
  clear hL hB U hF R I hN;generalize (pt L q).s=xs at *;generalize zij L q=M at *;obtain⟨n,hn⟩:∃ z,L.length=z:=⟨_,rfl⟩;rw[hn] at T a9 J Z DP O OC ML;rw[hn];clear hn
  go_enter Tryz.func147,Tryz.ntmps147
  go_wp2_with fail
  refine yi Z.out ?_;rintro e w1 ⟨rfl,a6⟩;have D:Hid (Below w.heap.size w w1):=a6;clear a6 Z
  go_wp2_with fail
  refine yi (DP.out _ D.out) ?_;rintro e w2 ⟨K,lo,hi,rfl,a7,hc⟩;obtain⟨x3,x4,fz⟩:=OC.out _ _ _ _ _ hc;have s2:w1.heap.size<w2.heap.size:=ye _ _ x3;have FF:Hid _:=O.out _ _ _ _ _ D.out.size hc;have a5:Hid (Below w.heap.size w ((w2.setCell ⟨w1.heap.size,q*5+4,none⟩ (.bool true)).setCell ⟨w1.heap.size,q*5+3,none⟩ (.slice none 0 0))):=((D.out.trans (a7.mono D.out.size)).setCell (show w.heap.size<=w1.heap.size from D.out.size) _).setCell (show w.heap.size<=w1.heap.size from D.out.size) _;clear a7 hc DP O OC;generalize K q=kq at *
  go_wp2_with fail
  exact yw (v:=.tuple #[.slice (some ⟨w1.heap.size,0,none⟩) n n,.int .i64 0]) (by simp[results,Tryz.results147,go_sem]) rfl (by first|exact⟨_,n,by rw[ML.out],a5.out,(by rw[ML.out];exact FF.out.1),FF.out.2⟩|exact⟨_,⟨n,by rw[ML.out]⟩,a5.out,(by rw[ML.out];exact FF.out.1),FF.out.2⟩)
 ·rw[ya I];have y1:decide (zaU L Fr k o t=0)=false:=yF I;have y2:(zaU L Fr k o t == 0)=false:=by simp[I]
  clear hL hB U;generalize zaU L Fr k o t=E at *;generalize L.length=n at *
  go_enter Tryz.func147,Tryz.ntmps147
  go_wp2_with fail
  refine yi Z.out ?_;rintro e w1 ⟨rfl,hb⟩;have D:Hid (Below w.heap.size w w1):=hb;clear hb Z
  go_wp2_with fail
  exact yw (v:=.tuple #[.slice none 0 0,.int .i64 E]) (by simp[results,Tryz.results147,go_sem]) rfl ⟨none,0,rfl,D.out,zdh,zbA X _⟩
theorem zuC:zvA:=fun X a c L Fr k o t D th w hX hN hB Z hL=>by
 have DH:Hid _:=zck a c L Fr k o t w hN hB Z hL.at;have DO:Hid (∀ W,_):=fun W=>zgi Fr D th W;unfold zid;rw[zuD];by_cases O:zaU L Fr k o t=0
 ·have eT:zvk (zaU L Fr k o t) (zcA Fr D th)=zcA Fr D th:=by unfold zvk;rw[O];simp
  rw[eT];rw[O] at DH;obtain⟨R,q,rfl,U,_⟩:=zcs O;have a5:=R.few;have hF:=zdx R;by_cases hE:zcA Fr D th=0
  ·rw[yd hE,hE];rw[hE] at DO;have DP:Hid (∀ W,Below w.heap.size w W->_):=fun W hW=>zed a c L W a5 hF (hL.at.below hW)
   have a6:Hid (∀ (B:Nat) (I:World) (K:Nat->Value) (lo hi:Nat->Nat),w.heap.size<=B->CpI B L K lo hi L.length I->SlA (some ⟨B,0,none⟩) L.length L.length/\zbP X ((I.setCell ⟨B,q*5,none⟩ (.int .i64 D)).setCell ⟨B,q*5+1,none⟩ (.int .i64 th)) (some ⟨B,0,none⟩) (zhW L q D th)):=fun B I K lo hi a9 h=>by
    have a1:=zii h.row (k:=q) (f:=0) (u:=.int .i64 D) (v:=K q) (x:={ pt L q with o:=D }) U (by omega) rfl;have a2:=zii a1 (k:=q) (f:=1) (u:=.int .i64 th) (v:=K q) (x:={ pt L q with o:=D,t:=th }) (by simpa using U) (by omega) (by rw[zmj U];simp only[if_true];rfl);rw[List.set_set] at a2;have oo:zar (fun b=>b=B) I ((I.setCell ⟨B,q*5,none⟩ (.int .i64 D)).setCell ⟨B,q*5+1,none⟩ (.int .i64 th)):=(zar.set (X:=fun b=>b=B) _ _ rfl).trans (zar.set (X:=fun b=>b=B) _ _ rfl);have h1:=h.put (Y:=fun b=>b=B) a9 hF U a2 (fun i hi=>by simp only[ya hi]) oo (fun b T=>Or.inl (by have:b=B:=T;omega)) (by simp only[if_true];exact h.grs a9 hF oo U (fun b T=>Or.inl (by have:b=B:=T;have:=(h.at' q U).1;omega)));unfold zhW;rw[yj];exact⟨h1.1,zhp hX h1.2⟩
   have OC:Hid (∀ (B:Nat) (I:World) (K:Nat->Value) (lo hi:Nat->Nat),CpI B L K lo hi L.length I->I.cell? ⟨B,q*5,none⟩=some (.int .i64 (pt L q).o)/\I.cell? ⟨B,q*5+1,none⟩=some (.int .i64 (pt L q).t)/\∀ o,I.frozen? ⟨B,o,none⟩=false):=fun B I K lo hi h=>⟨h.cell U (show 0<5 by omega),h.cell U (show 1<5 by omega),fun o=>h.row.frozenAt o⟩;have ML:Hid ((zhW L q D th).length=L.length):=by show _=_;unfold zhW;simp
   have b2:(q:Int)<(L.length:Int):=by omega
   clear hL hB Z hF R O hN eT hE;generalize (pt L q).o=xo at *;generalize (pt L q).t=xt at *;generalize zhW L q D th=M at *;obtain⟨n,hn⟩:∃ z,L.length=z:=⟨_,rfl⟩;rw[hn] at U b2 a5 DH DP a6 OC ML;rw[hn];clear hn
   go_enter Tryz.func144,Tryz.ntmps144
   go_wp2_with fail
   refine yi DH.out ?_;rintro e w1 ⟨rfl,b0⟩;have F:Hid (Below w.heap.size w w1):=b0;clear b0 DH
   go_wp2_with fail
   refine yi (DO.out _) ?_;rintro e w2 ⟨rfl,J⟩;have a7:=J.symm;clear J;subst a7
   go_wp2_with fail
   refine yi (DP.out _ F.out) ?_;rintro e w2 ⟨K,lo,hi,rfl,b1,hc⟩;obtain⟨x3,x4,fz⟩:=OC.out _ _ _ _ _ hc;have s2:w1.heap.size<w2.heap.size:=ye _ _ x3;have FF:Hid _:=a6.out _ _ _ _ _ F.out.size hc;have a8:Hid (Below w.heap.size w ((w2.setCell ⟨w1.heap.size,q*5,none⟩ (.int .i64 D)).setCell ⟨w1.heap.size,q*5+1,none⟩ (.int .i64 th))):=((F.out.trans (b1.mono F.out.size)).setCell (show w.heap.size<=w1.heap.size from F.out.size) _).setCell (show w.heap.size<=w1.heap.size from F.out.size) _;clear b1 hc DP a6 OC
   go_wp2_with fail
   exact yw (v:=.tuple #[.slice (some ⟨w1.heap.size,0,none⟩) n n,.int .i64 0]) (by simp[results,Tryz.results144,go_sem]) rfl (by first|exact⟨_,n,by rw[ML.out],a8.out,(by rw[ML.out];exact FF.out.1),FF.out.2⟩|exact⟨_,⟨n,by rw[ML.out]⟩,a8.out,(by rw[ML.out];exact FF.out.1),FF.out.2⟩)
  ·rw[ya hE];have y1:decide (zcA Fr D th=0)=false:=yF hE;have y2:(zcA Fr D th == 0)=false:=by simp[hE]
   clear hL hB Z hF R O eT;generalize zcA Fr D th=E at *;generalize L.length=n at *
   go_enter Tryz.func144,Tryz.ntmps144
   go_wp2_with fail
   refine yi DH.out ?_;rintro e w1 ⟨rfl,T⟩;have F:Hid (Below w.heap.size w w1):=T;clear T DH
   go_wp2_with fail
   refine yi (DO.out _) ?_;rintro e w2 ⟨rfl,J⟩;have a7:=J.symm;clear J;subst a7
   go_wp2_with fail
   exact yw (v:=.tuple #[.slice none 0 0,.int .i64 E]) (by simp[results,Tryz.results144,go_sem]) rfl ⟨none,0,rfl,F.out,zdh,zbA X _⟩
 ·have eT:zvk (zaU L Fr k o t) (zcA Fr D th)=zaU L Fr k o t:=by unfold zvk;rw[yd O]
  rw[eT,ya O];have y1:decide (zaU L Fr k o t=0)=false:=yF O;have y2:(zaU L Fr k o t == 0)=false:=by simp[O]
  clear hL hB Z DO eT;generalize zaU L Fr k o t=E at *;generalize L.length=n at *
  go_enter Tryz.func144,Tryz.ntmps144
  go_wp2_with fail
  refine yi DH.out ?_;rintro e w1 ⟨rfl,T⟩;have F:Hid (Below w.heap.size w w1):=T;clear T DH
  go_wp2_with fail
  exact yw (v:=.tuple #[.slice none 0 0,.int .i64 E]) (by simp[results,Tryz.results144,go_sem]) rfl ⟨none,0,rfl,F.out,zdh,zbA X _⟩
theorem zoZ{w:World}{B g n:Nat}{F:Nat->Value}(h:w.rowIs g 47 n F)(M:n<=1000)(I:B<=g):w.ownsRow B 47 1 (.slice (some ⟨g,0,none⟩) n n) n (grow n F):=by
 obtain⟨D,hc,hs,J⟩:=h;refine⟨by rw[zpL,Nat.mul_one],Or.inr ⟨g,n,D,rfl,I,hc,yk _,by unfold maxLen;omega,by omega,?_⟩⟩;rw[Nat.mul_one];refine List.ext_getElem? fun j=>?_;rw[List.getElem?_take];by_cases E:j<n
 ·rw[yd E,Array.getElem?_toList,J j (by omega),ztC E]
 ·rw[ya E,List.getElem?_eq_none (by rw[zpL];omega)]
theorem zlZ{B:Nat}{G:List Cl}{K:Nat->Value}{v:Value}{w:World}(h:zin B G K v w):∃ a c,v=.slice a G.length c/\St (fun x=>x<B\/w.heap.size<=x) (fun w=>zaI w a G) w:=by
 obtain⟨a,c,e,_⟩:=h.cls;refine⟨a,c,e,fun w' F=>?_⟩;have E:=h.kept (w' := w') (fun j M hl _=>F.block j hl (by show ¬ (j<B\/w.heap.size<=j);omega));obtain⟨I,J,D,hc⟩:=E.cls;rw[e] at D;cases D;exact hc
theorem zxi{X:Nat->Prop}{B0 B:Nat}{L:List Pt}{K:Nat->Value}{lo hi:Nat->Nat}{W1 E:World}{q F vc:Nat}{J:Nat->Value}{I:Value}{va:Option Addr}{G:List Cl}(hX:∀ b,X b->b<B0)(h0:B0<=B)(hF:zxH L)(hq:q<L.length)(h:CpI B L K lo hi L.length W1)(h1:lo q<=F)(h2:F<hi q)
  (a7:∀ i,i<(pt L q).cm.length->∃ ga gc,J i=.slice ga (gr (pt L q).cm i).length gc/\St (fun x=>x<=F\/hi q<=x) (fun w=>zaI w ga (gr (pt L q).cm i)) W1) (ho:zar (fun x=>x=F) W1 E)
  (M:E.ownsRow (lo q) 47 1 I ((pt L q).cm.length+1) (grow (pt L q).cm.length J++[.slice va G.length vc])) (hg:St (fun x=>x<B0\/x=B) (fun w=>zaI w va G) E) :
  SlA (some ⟨B,0,none⟩) L.length L.length/\zbP X (E.setCell ⟨B,q*5+3,none⟩ I) (some ⟨B,0,none⟩) (L.set q { pt L q with cm:=(pt L q).cm++[G] }):=by
 have a9:=(h.at' q hq).1;have a6:=zaK h.row (w' := E) (fun O Z=>by cases Z;exact ho.block B (h.row.lt B rfl).2 (by show ¬ B=F;omega));have a1:=zii a6 (k:=q) (f:=3) (u:=I) (v:=I) (x:={ pt L q with cm:=(pt L q).cm++[G] }) hq (by omega) rfl;have oS:zar (fun x=>x=B) E (E.setCell ⟨B,q*5+3,none⟩ I):=zar.set (X:=fun x=>x=B) E _ rfl;have o2:zar (fun x=>x=F\/x=B) W1 (E.setCell ⟨B,q*5+3,none⟩ I):=(ho.mono (fun _ h=>Or.inl h)).trans (oS.mono (fun _ h=>Or.inr h));have D:=zaK M (w' := E.setCell ⟨B,q*5+3,none⟩ I) (fun O Z=>yv _ _ _ _ (by show O≠B;have:=(M.lt O Z).1;omega))
 have U:St (fun x=>x<B0) (fun w=>zsn w I ((pt L q).cm++[G])) (E.setCell ⟨B,q*5+3,none⟩ I):=fun w' T=>by
  have a5:=zaK D (w' := w') (fun O Z=>T.block O (D.lt O Z).2 (by show ¬ O<B0;have:=(D.lt O Z).1;omega));have el:((pt L q).cm++[G]).length=(pt L q).cm.length+1:=by simp
  rw[ztD,<- el] at a5;refine zyM a5 (fun i a8=>?_);rw[el] at a8;by_cases e:i=(pt L q).cm.length
  ·simp only[yd e];subst e;rw[zot];exact⟨va,vc,rfl,hg w' ((oS.mono (fun _ h=>Or.inr h)).trans (T.mono (fun _ h=>Or.inl h)))⟩
  ·simp only[ya e];rw[zou (by omega)];obtain⟨ga,gc,e2,hs⟩:=a7 i (by omega);refine⟨ga,gc,e2,hs w' ((o2.mono (fun x U=>?_)).trans (T.mono (fun x U=>?_)))⟩
   ·show x<=F\/hi q<=x;rcases U with U|U
    ·exact Or.inl (by omega)
    ·exact Or.inl (by omega)
   ·show x<=F\/hi q<=x;have:x<B0:=U;exact Or.inl (by omega)
 have h3:=h.put (Y:=fun x=>x=F\/x=B) h0 hF hq a1 (fun i hi=>by simp only[ya hi]) o2 (fun b hb=>by
  rcases hb with hb|hb
  ·exact Or.inr (by omega)
  ·exact Or.inl (by omega)) (by simp only[if_true];exact U)
 exact⟨h3.1,zhp hX h3.2⟩
theorem zuM:zvC:=fun X a c L Fr k o t ga gc G w hX hN hB b1 hL g4 b5 hG=>by
 have DH:Hid (∀ o1:Obj,_):=fun o1=>zck a c L Fr k o t (w.alloc o1) hN hB b1 (hL.at.below (zaa _ _));have DG:Hid (∀ W,Below w.heap.size w W->_):=fun W hW=>ztu ga gc G W g4 b5 (hG.below hW);unfold zif;by_cases hH:zaU L Fr k o t=0
 ·rw[hH] at DH;obtain⟨R,kk,rfl,hk,_⟩:=zcs hH;obtain⟨q,hq,a9,j0,_⟩:=R.mate hk;have c6:=R.few;have hF:=zdx R;have g9:(kk:Int)<(L.length:Int):=by omega
  have h8:(q:Int)<(L.length:Int):=by omega
  have eM:zkw L kk=pt L q:=by unfold zkw;rw[yj,hq,yj]
  have eP:zib L Fr kk o t G=if zaA G≠0 then zaA G else if (pt L q).s=true then 5 else if (pt L q).cm.length=16 then 1 else 0:=by unfold zib;rw[hH,eM];rfl
  have eL:ziH L kk G=L.set q { pt L q with cm:=(pt L q).cm++[zbx G] }:=by unfold ziH;rw[eM,yj,hq,yj]
  obtain⟨b,oo,ea,_,_,c2,_⟩:=hL.at kk hk;obtain⟨b', j4,e8,_,_,_,ca,cc,d3,_,d4⟩:=hL.at q a9;subst ea;cases e8;rw[hq] at c2;have i9:b<w.heap.size:=ye _ _ c2;rw[eP];by_cases hE:zaA G=0
  ·rw[ya (yJ hE)];rw[hE] at DG;have eR:zzI G=zbx G:=yd hE;rw[eR] at DG
   cases hs:(pt L q).s with
   | true =>
    rw[yd rfl,ya (show ¬ (5:Int)=0 by decide)];rw[hs] at d4;clear hL hB b1 hF R hH eP eL eM hE eR hs hG b5;generalize G.length=gl at *;generalize (pt L q).cm.length=cl at *;generalize L.length=n at *;generalize zbx G=cF at *
    go_enter Tryz.func145,Tryz.ntmps145
    go_wp2_with fail
    refine yi (DH.out _) ?_;rintro e w1 ⟨rfl,F⟩;have I:Hid (Below w.heap.size w w1):=(zaa _ _).trans (F.mono (by simp));have r1:w1.cell? ⟨w.heap.size,0,none⟩=some (.slice ga gl gc):=zab (zad w #[.slice ga gl gc] 47 0 rfl) F;have s1:w.heap.size<w1.heap.size:=ye _ _ r1;clear F DH
    go_wp2_with fail
    refine yi (DG.out _ I.out) ?_;rintro e w2 ⟨v2,rfl,O,Kc,T⟩;obtain⟨va,vc,rfl,a6⟩:=zlZ T;have a7:Hid _:=a6;have D:Hid (Below w.heap.size w w2):=I.out.trans (O.mono I.out.size);have e2:=zab c2 D.out;have e3:=zab d3 D.out;have e4:=zab d4 D.out;have c9:b<w2.heap.size:=ye _ _ e2;obtain⟨vl,U⟩:∃ z,cF.length=z:=⟨_,rfl⟩;have b3:Hid (cF.length=vl):=U;rw[U];clear U O T a6 DG r1
    go_wp2_with fail
    exact yw (v:=.tuple #[.slice none 0 0,.int .i64 5]) (by simp[results,Tryz.results145,go_sem]) rfl ⟨none,0,rfl,D.out.alloc D.out.size _,zdh,zbA X _⟩
   | false =>
    rw[ya (show ¬ (false=true) by decide)];rw[hs] at d4;by_cases b4:(pt L q).cm.length=16
    ·rw[yd b4,ya (show ¬ (1:Int)=0 by decide)];rw[b4] at d3;clear hL hB b1 hF R hH eP eL eM hE eR hs hG b5 b4;generalize G.length=gl at *;generalize L.length=n at *;generalize zbx G=cF at *
     go_enter Tryz.func145,Tryz.ntmps145
     go_wp2_with fail
     refine yi (DH.out _) ?_;rintro e w1 ⟨rfl,F⟩;have I:Hid (Below w.heap.size w w1):=(zaa _ _).trans (F.mono (by simp));have r1:w1.cell? ⟨w.heap.size,0,none⟩=some (.slice ga gl gc):=zab (zad w #[.slice ga gl gc] 47 0 rfl) F;have s1:w.heap.size<w1.heap.size:=ye _ _ r1;clear F DH
     go_wp2_with fail
     refine yi (DG.out _ I.out) ?_;rintro e w2 ⟨v2,rfl,O,Kc,T⟩;obtain⟨va,vc,rfl,a6⟩:=zlZ T;have a7:Hid _:=a6;have D:Hid (Below w.heap.size w w2):=I.out.trans (O.mono I.out.size);have e2:=zab c2 D.out;have e3:=zab d3 D.out;have e4:=zab d4 D.out;have c9:b<w2.heap.size:=ye _ _ e2;obtain⟨vl,U⟩:∃ z,cF.length=z:=⟨_,rfl⟩;have b3:Hid (cF.length=vl):=U;rw[U];clear U O T a6 DG r1
     go_wp2_with fail
     exact yw (v:=.tuple #[.slice none 0 0,.int .i64 1]) (by simp[results,Tryz.results145,go_sem]) rfl ⟨none,0,rfl,D.out.alloc D.out.size _,zdh,zbA X _⟩
    ·rw[ya b4,yd rfl];obtain⟨i0,g8,i1,i2,i3⟩:=info_parts ztK;have g7:(pt L q).cm.length<=16:=(zbm.1 (R.ok q a9)).2.2.2.2.1.1;have i7:decide (((pt L q).cm.length:Int)=16)=false:=yF (by omega);have i8:(((pt L q).cm.length:Int) == 16)=false:=by simp;omega
     have DP:Hid (∀ W,Below w.heap.size w W->_):=fun W hW=>zed (some ⟨b,oo,none⟩) c L W c6 hF (hL.at.below hW);have ML:Hid ((ziH L kk G).length=L.length):=by show _=_;rw[eL];simp
     have F:(pt L q).cm.length+1<=maxLen:=by unfold maxLen;omega
     have g6:((pt L q).cm.length+1)*24<=140737488355328:=by omega
     have OC:Hid (∀ (B:Nat) (W1:World) (K:Nat->Value) (lo hi:Nat->Nat),w.heap.size<=B->CpI B L K lo hi L.length W1->∃ bq cs,W1.cell? ⟨B,q*5+3,none⟩=some (.slice (some ⟨bq,0,none⟩) (pt L q).cm.length (pt L q).cm.length)/\(∀ o,W1.frozen? ⟨B,o,none⟩=false)/\B<lo q/\lo q<=bq/\lo q<=W1.heap.size/\W1.ownsRow (lo q) 47 1 (.slice (some ⟨bq,0,none⟩) (pt L q).cm.length (pt L q).cm.length) (pt L q).cm.length cs/\∀ (w9:World) (v9:Value) (va:Option Addr) (vc:Nat),zar (fun x=>x=bq) W1 w9->w9.ownsRow (lo q) 47 1 v9 ((pt L q).cm.length+1) (cs++[.slice va (zbx G).length vc])->St (fun x=>x<w.heap.size\/x=B) (fun w=>zaI w va (zbx G)) w9->SlA (some ⟨B,0,none⟩) L.length L.length/\zbP X (w9.setCell ⟨B,q*5+3,none⟩ v9) (some ⟨B,0,none⟩) (ziH L kk G)):=fun B W1 K lo hi g0 h=>by
      obtain⟨bq,J,h1,h2,h3,h4,h5⟩:=h.gs q a9;have h6:=(h.at' q a9).1;refine⟨bq,grow (pt L q).cm.length J,(h.cell a9 (show 3<5 by omega)).trans (by rw[h3];rfl),fun o=>h.row.frozenAt o,h6,h1,by have:=h4.lt;omega,zoZ h4 (by omega) h1,fun w9 v9 va vc ho e5 hg=>?_⟩;rw[eL];exact zxi hX g0 hF a9 h h1 h2 h5 ho e5 hg
     clear hL hB b1 hF R hH eP eL eM hE eR hs hG b5 b4 hN;generalize ziH L kk G=M at *;generalize (pt L q).cm.length=cl at *;generalize zbx G=cF at *;generalize G.length=gl at *;obtain⟨n,hn⟩:∃ z,L.length=z:=⟨_,rfl⟩;rw[hn] at hk g9 a9 h8 c6 DH DP OC ML;rw[hn];clear hn
     go_enter Tryz.func145,Tryz.ntmps145
     go_wp2_with fail
     refine yi (DH.out _) ?_;rintro e w1 ⟨rfl,F⟩;have I:Hid (Below w.heap.size w w1):=(zaa _ _).trans (F.mono (by simp));have r1:w1.cell? ⟨w.heap.size,0,none⟩=some (.slice ga gl gc):=zab (zad w #[.slice ga gl gc] 47 0 rfl) F;have s1:w.heap.size<w1.heap.size:=ye _ _ r1;clear F DH
     go_wp2_with fail
     refine yi (DG.out _ I.out) ?_;rintro e w2 ⟨v2,rfl,O,Kc,T⟩;obtain⟨va,vc,rfl,a6⟩:=zlZ T;have a7:Hid _:=a6;have D:Hid (Below w.heap.size w w2):=I.out.trans (O.mono I.out.size);have e2:=zab c2 D.out;have e3:=zab d3 D.out;have e4:=zab d4 D.out;have c9:b<w2.heap.size:=ye _ _ e2;obtain⟨vl,U⟩:∃ z,cF.length=z:=⟨_,rfl⟩;have b3:Hid (cF.length=vl):=U;rw[U];clear U O T a6 DG r1
     go_wp2_with fail
     obtain⟨Z,hZ⟩:∃ Z,w2.alloc (.cells #[.slice va vl vc] 47)=Z:=⟨_,rfl⟩;have d5:Z.cell? ⟨w2.heap.size,0,none⟩=some (.slice va vl vc):=by rw[<- hZ];exact zad w2 _ _ 0 rfl
     have BZ:Hid (Below w2.heap.size w2 Z):=by rw[<- hZ];exact zaa _ _
     have b2:Hid (Below w.heap.size w Z):=D.out.trans (BZ.out.mono D.out.size);have sZ:w2.heap.size<Z.heap.size:=ye _ _ d5;rw[hZ];clear hZ;refine yi (DP.out _ b2.out) ?_;rintro e w3 ⟨K,lo,hi,rfl,b6,hc⟩;obtain⟨bq,cs,x3,fz,d9,e9,e1,a8,b0⟩:=OC.out _ _ _ _ _ b2.out.size hc;obtain⟨lq,h7⟩:∃ lq,lo q=lq:=⟨_,rfl⟩;rw[h7] at d9 e9 e1 a8 b0;obtain⟨B,b9⟩:∃ B,Z.heap.size=B:=⟨_,rfl⟩;rw[b9] at x3 fz d9 b0;obtain⟨sb,c8⟩:∃ sb,w2.heap.size=sb:=⟨_,rfl⟩;have c7:Hid (Below w.heap.size w w3):=b2.out.trans (b6.mono b2.out.size);have xs:w3.cell? ⟨sb,0,none⟩=some (.slice va vl vc):=by rw[<- c8];exact zab d5 b6
     have d7:Hid (w3.ownsRow lq 47 1 (.slice (some ⟨bq,0,none⟩) cl cl) cl cs):=a8;have sB:B<w3.heap.size:=ye _ _ x3;have j3:w.heap.size<=B:=by rw[<- b9];exact b2.out.size
     have j1:sb<B:=by omega
     have sq:bq<w3.heap.size:=(World.ownsRow.lt d7.out bq rfl).2
     have FF:Hid (∀ (w9:World) (v9:Value),zar (fun x=>x=bq) w3 w9->w9.ownsRow lq 47 1 v9 (cl+1) (cs++[.slice va vl vc])->SlA (some ⟨B,0,none⟩) n n/\zbP X (w9.setCell ⟨B,q*5+3,none⟩ v9) (some ⟨B,0,none⟩) M):=fun w9 v9 h1 h2=>by
      refine b0 w9 v9 va vc h1 (by rw[b3.out];exact h2) ?_;have o1:zar (fun x=>x<w1.heap.size\/w2.heap.size<=x) w2 w9:=((zar.of_below BZ.out).trans (zar.mk (yH (yk _) b6.size) (fun b hb _=>b6.block b (by omega)))).trans (h1.mono (fun x (hx:x=bq)=>Or.inr (by omega)))
      exact St.less (St.off a7.out o1) (fun x hx=>by
       have j2:=I.out.size;rcases hx with hx|hx
       ·exact Or.inl (by omega)
       ·exact Or.inr (by omega))
     rw[b9,c8];clear b9 c8 b6 hc a8 b0 DP OC a7 b3 d5
     go_wp2_with fail
     refine wp_region_noPanic ?_;refine zeZ (S:=fun e6=>e6.cell? ⟨B,q*5+3,none⟩=some (.slice (some ⟨bq,0,none⟩) cl cl)/\e6.cell? ⟨sb,0,none⟩=some (.slice va vl vc)) 12 (by kernel_rfl) (by(try dsimp only);go_keep) (fun hHeld=>?_);refine zaf (i:=0) ?_;simp[Act.put];refine zaf (i:=1) ?_;simp[Act.put];refine zaf (i:=2) ?_;simp[Act.put];refine zaf (i:=3) ?_;simp[Act.put];refine zaf (i:=4) ?_;simp[Act.put];refine zaf (i:=5) ?_;simp[Act.put];refine zaf (i:=6) ?_;simp[Act.put];refine zaf (i:=7) ?_;simp[Act.put];refine zbF (i:=8) (by kernel_rfl) rfl (fun K hK=>?_);go_simp;refine hK.out _ _ ?_ (fun hHeld=>?_)
     ·exact⟨zab x3 ((yr w3.heap.size w3).drew.alloc (yk _) (.cells #[.slice va vl vc] 47)),zab xs ((yr w3.heap.size w3).drew.alloc (yk _) (.cells #[.slice va vl vc] 47))⟩
     clear hK K hHeld
     try simp[Act.put]
     refine zbF (i:=9) (by kernel_rfl) rfl (fun K hK=>?_);refine zjR rfl (.tmp 61) (.tmp 63) 119 rfl lq 47 i0 (.agg #[.slice none 0 0]) 1 24 Tryz.underlying119 g8 i1 i2 i3 rfl (by decide) (.slice (some ⟨bq,0,none⟩) cl cl) cl cs rfl (World.ownsRow.alloc (World.ownsRow.drew d7.out) _) (some ⟨w3.heap.size,0,none⟩) 1 1 [.slice va vl vc] (fun h=>by cases h) rfl rfl (fun ad e j u hj=>by cases e;exact zBo (zad w3.drew _ _ 0 rfl) j u hj) (by intro u hu;simp at hu;subst hu;rfl) F g6 (((yr w3.heap.size w3).drew.alloc (yk _) (.cells #[.slice va vl vc] 47)) |> fun h=>yH e1 h.size) ?_;intro v9 w9 b7 a5;have t3:w9.cell? ⟨B,q*5+3,none⟩=some (.slice (some ⟨bq,0,none⟩) cl cl):=a5.cell (a:=⟨B,q*5+3,none⟩) (zab x3 ((yr w3.heap.size w3).drew.alloc (yk _) (.cells #[.slice va vl vc] 47))) (by intro e;have e2:B=bq:=Option.some.inj e;omega);have t0:w9.cell? ⟨sb,0,none⟩=some (.slice va vl vc):=a5.cell (a:=⟨sb,0,none⟩) (zab xs ((yr w3.heap.size w3).drew.alloc (yk _) (.cells #[.slice va vl vc] 47))) (by intro e;have e2:sb=bq:=Option.some.inj e;omega);have f9:w9.frozen? ⟨B,q*5+3,none⟩=false:=(yD (a5.block B (by show B<(w3.drew.alloc _).heap.size;simp;omega) (by intro e;have e2:B=bq:=Option.some.inj e;omega))).trans (((yr w3.heap.size w3).drew.alloc (yk _) (.cells #[.slice va vl vc] 47)).frozen (show (⟨B,q*5+3,none⟩:Addr).block<w3.heap.size from sB) |>.trans (fz _))
     have o9:zar (fun x=>x=bq) w3 w9:=(zar.of_below ((yr w3.heap.size w3).drew.alloc (yk _) (.cells #[.slice va vl vc] 47))).trans (zar.grown a5 (fun b hb=>by cases hb;rfl));have e7:Hid (Below w.heap.size w w9):=(c7.out.trans (((yr w3.heap.size w3).drew.alloc (yk _) (.cells #[.slice va vl vc] 47)).mono c7.out.size)).grown a5 (by show w.heap.size<=(w3.drew.alloc _).heap.size;simp;have:=c7.out.size;omega) (fun kk hk=>by cases hk;show w.heap.size<=bq;omega);have d6:Hid (w9.ownsRow lq 47 1 v9 (cl+1) (cs++[.slice va vl vc])):=b7;have b8:Hid _:=FF.out w9 v9 o9 b7;refine hK.out _ _ ?_ (fun hHeld=>?_)
     ·exact⟨t3,t0⟩
     obtain⟨i4,i5,h9⟩:∃ a c,v9=.slice a (cl+1) c:=by
      rcases d6.out.2 with ⟨e,e0⟩ |⟨g5,d8,i6,e,_⟩
      ·exact⟨none,0,by rw[e,e0]⟩
      ·exact⟨_,d8,e⟩
     subst h9;clear hK K hHeld b7 a5 d6 o9 FF
     try simp[Act.put]
     refine zbF (i:=10) (by kernel_rfl) rfl (fun K hK=>?_);go_simp;refine hK.out _ _ ?_ (fun hHeld=>?_)
     ·(try dsimp only)
      exact⟨t3,t0⟩
     clear hK K
     try simp[Act.put]
     refine zaf (i:=11) ?_;simp[Act.put];refine zeY (by kernel_rfl) rfl (fun K hK=>?_);go_simp;refine hK.out _ _ ?_;clear hK K
     try simp[Act.put]
     refine zeX (by kernel_rfl) ?_ _;refine NoPanic.normal ?_;have B9:Hid (Below w.heap.size w (w9.setCell ⟨B,q*5+3,none⟩ (.slice i4 (cl+1) i5))):=e7.out.setCell (by show w.heap.size<=B;omega) _;clear t3 t0 f9
     go_wp2_with fail
     exact yw (v:=.tuple #[.slice (some ⟨B,0,none⟩) n n,.int .i64 0]) (by simp[results,Tryz.results145,go_sem]) rfl (by first|exact⟨_,n,by rw[ML.out],B9.out,(by rw[ML.out];exact b8.out.1),b8.out.2⟩|exact⟨_,⟨n,by rw[ML.out]⟩,B9.out,(by rw[ML.out];exact b8.out.1),b8.out.2⟩)
  ·rw[yd hE,ya hE];have y1:decide (zaA G=0)=false:=yF hE;have y2:(zaA G == 0)=false:=by simp[hE]
   clear hL hB b1 hF R hH eP eL eM hG b5;generalize zaA G=E at *;generalize G.length=gl at *;generalize (pt L q).cm.length=cl at *;generalize (pt L q).s=j5 at *;generalize L.length=n at *;generalize zzI G=cF at *
   go_enter Tryz.func145,Tryz.ntmps145
   go_wp2_with fail
   refine yi (DH.out _) ?_;rintro e w1 ⟨rfl,F⟩;have I:Hid (Below w.heap.size w w1):=(zaa _ _).trans (F.mono (by simp));have r1:w1.cell? ⟨w.heap.size,0,none⟩=some (.slice ga gl gc):=zab (zad w #[.slice ga gl gc] 47 0 rfl) F;have s1:w.heap.size<w1.heap.size:=ye _ _ r1;clear F DH
   go_wp2_with fail
   refine yi (DG.out _ I.out) ?_;rintro e w2 ⟨v2,rfl,O,Kc,T⟩;obtain⟨va,vc,rfl,a6⟩:=zlZ T;have a7:Hid _:=a6;have D:Hid (Below w.heap.size w w2):=I.out.trans (O.mono I.out.size);have e2:=zab c2 D.out;have e3:=zab d3 D.out;have e4:=zab d4 D.out;have c9:b<w2.heap.size:=ye _ _ e2;obtain⟨vl,U⟩:∃ z,cF.length=z:=⟨_,rfl⟩;have b3:Hid (cF.length=vl):=U;rw[U];clear U O T a6 DG r1
   go_wp2_with fail
   exact yw (v:=.tuple #[.slice none 0 0,.int .i64 E]) (by simp[results,Tryz.results145,go_sem]) rfl ⟨none,0,rfl,D.out.alloc D.out.size _,zdh,zbA X _⟩
 ·have eP:zib L Fr k o t G=zaU L Fr k o t:=by unfold zib;rw[yd hH]
  rw[eP,ya hH];have y1:decide (zaU L Fr k o t=0)=false:=yF hH;have y2:(zaU L Fr k o t == 0)=false:=by simp[hH]
  clear hL hB b1 eP DG;generalize zaU L Fr k o t=E at *;generalize L.length=n at *;generalize G.length=gl at *
  go_enter Tryz.func145,Tryz.ntmps145
  go_wp2_with fail
  refine yi (DH.out _) ?_;rintro e w1 ⟨rfl,F⟩;have I:Hid (Below w.heap.size w w1):=(zaa _ _).trans (F.mono (by simp));clear F DH
  go_wp2_with fail
  exact yw (v:=.tuple #[.slice none 0 0,.int .i64 E]) (by simp[results,Tryz.results145,go_sem]) rfl ⟨none,0,rfl,I.out,zdh,zbA X _⟩
end Go.Proofs.YtcbcpomacdngmaaGreat
