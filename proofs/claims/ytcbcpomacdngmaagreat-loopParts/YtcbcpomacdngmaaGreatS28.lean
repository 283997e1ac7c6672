/-
  x
-/
import Derived.Test.YtcbcpomacdngmaaGreatS25
import Derived.Test.YtcbcpomacdngmaaGreatS27
namespace Go.Proofs.YtcbcpomacdngmaaGreat
set_option maxRecDepth 100000
set_option maxHeartbeats 4000000
set_option linter.unusedVariables false
open Go.RowKit Go.ChangeShapes Go.WideShapes
theorem St.new{X:Nat->Prop}{P:World->Prop}{w:World}(h:St (fun _=>False) P w)(E:∀ b,X b->w.heap.size<=b):St X P w:=fun w' D=>h w' ⟨D.size,fun b F _=>D.block b F (fun I=>by have:=E b I;omega)⟩
theorem zeq{W:Wl}(H:zao W):zpi W:=by
 have h1:=H.fs.few;refine⟨by omega,⟨by rw[H.lr];omega,fun i hi=>zdU (H.rs i (by rw[<- H.lr];exact hi))⟩,⟨by rw[H.lp];omega,fun i hi=>?_⟩,⟨by rw[H.lq];omega,fun i hi=>?_⟩,?_⟩
 ·have:=H.ps i (by rw[<- H.lp];exact hi);exact yH this (by decide)
 ·obtain⟨E,F⟩:=zbJ.1 (H.qs i (by rw[<- H.lq];exact hi));refine⟨yH E (by decide),fun j D=>?_⟩;have:=(F _ (List.getElem_mem D)).2;have I:=zdj this;rw[ztM D];exact⟨by omega,I.2⟩
 ·exact⟨by have:=H.pt.few;omega,(zqI H.pt).big⟩
theorem zpX(hR:zhr)(X:Nat->Prop){W Z:Wl}{L:List (Int × Bool)}{S:List Int}{E:Int}(hB:zpi W)(hL:L.length<=9223372036854775807)(h1:zcT W L=E)(U:zck W L=Z)(h3:zer W L=S){n m:Nat}(hn:L.length=n)(hm:S.length=m){a0 a1 a2 a3 a4:Option Addr}{c0 c1 c2 c3 c4:Nat}{T:Option Addr}{lc:Nat}{V:World}(hX:∀ b,X b->b<V.heap.size)(hC:WlC ⟨a0,a1,a2,a3,a4,c0,c1,c2,c3,c4⟩ W)(hW:ziv X V ⟨a0,a1,a2,a3,a4,c0,c1,c2,c3,c4⟩ W)(hs:SlA T n lc)(hP:zdp V T L) :
  yM 20 #[.agg #[.slice a0 W.fs.length c0,.slice a1 W.rs.length c1,.slice a2 W.ps.length c2,.slice a3 W.qs.length c3,.slice a4 W.pt.length c4],.slice T n lc] V fun e w' => ∃ (D F I J M sa:Option Addr) (d0 d1 d2 d3 O sc:Nat),e=.returned (.tuple #[.agg #[.slice D Z.fs.length d0,.slice F Z.rs.length d1,.slice I Z.ps.length d2,.slice J Z.qs.length d3,.slice M Z.pt.length O],.slice sa m sc,.int .i64 E])/\Below V.heap.size V w' /\ WlC ⟨D,F,I,J,M,d0,d1,d2,d3,O⟩ Z/\ziv X w' ⟨D,F,I,J,M,d0,d1,d2,d3,O⟩ Z/\St X (fun w=>zaj w sa S) w' := by
 subst h1 U h3 hn hm;refine(hR X ⟨a0,a1,a2,a3,a4,c0,c1,c2,c3,c4⟩ W T lc L V hX hB hC hW hL hs hP).mono ?_;rintro e w' ⟨⟨D,F,I,J,M,d0,d1,d2,d3,O⟩,sa,sc,h1,U,h3,h4,h5⟩;exact⟨D,F,I,J,M,sa,d0,d1,d2,d3,O,sc,h1,U,h3,h4,h5⟩
theorem zdp.take{w:World}{a:Option Addr}{L:List (Int × Bool)}(h:zdp w a L)(k:Nat):zdp w a (L.take k):=fun i hi=>by
 have D:i<k/\i<L.length:=by rw[List.length_take] at hi;omega
 have e:pk (L.take k) i=pk L i:=by
  unfold pk;rw[zae _ _ hi,zae _ _ D.2,List.getElem_take]
 rw[e];exact h i D.2
theorem zdp.drop{w:World}{b o:Nat}{L:List (Int × Bool)}(h:zdp w (some ⟨b,o,none⟩) L)(k:Nat):zdp w (some ⟨b,o+k*2,none⟩) (L.drop k):=fun i hi=>by
 have D:k+i<L.length:=by rw[List.length_drop] at hi;omega
 obtain⟨E,F,e,c0,c1⟩:=h (k+i) D;cases e
 have e:pk (L.drop k) i=pk L (k+i):=by
  unfold pk;rw[zae _ _ hi,zae _ _ D,List.getElem_drop]
 rw[e];refine⟨_,_,rfl,?_,?_⟩
 ·rw[show o+k*2+i*2=o+(k+i)*2 by omega];exact c0
 ·rw[show o+k*2+i*2+1=o+(k+i)*2+1 by omega];exact c1
theorem zBa(E:Option Addr)(n D cap:Nat)(h1:D<=n)(h:SlA E n cap):∃ F,(∀ W,(Instr.slice 71 (.slice E n cap) none (some (.int .i64 (D:Int))) none).run Tryz.prog W=.ok (.slice E D F) W)/\SlA E D F:=by
 obtain⟨T,U,O⟩:=h
 cases E with
 | none =>
  have e:=T rfl;subst e;have J:n=0:=by omega
  have M:D=0:=by omega
  subst J;subst M;exact⟨0,fun W=>by go_simp,zcl⟩
 | some I =>
  obtain⟨b,o,s⟩:=I;have g1:(D:Int)<=(cap:Int):=by omega
  have g2:(0:Int)<=(D:Int):=by omega
  exact⟨cap,fun W=>by go_simp,(fun e=>by cases e),by omega,O⟩
theorem zBm(E:Option Addr)(L:List (Int × Bool))(n k cap:Nat)(hn:L.length=n)(hk:k<=n)(h:SlA E n cap):∃ D I,(∀ W,(Instr.slice 71 (.slice E n cap) (some (.int .i64 (k:Int))) none none).run Tryz.prog W=.ok (.slice D (n-k) I) W)/\SlA D (n-k) I/\∀ W,zdp W E L->zdp W D (L.drop k):=by
 subst hn;obtain⟨T,h2,h3⟩:=h;have nil:L.length-k=0->∀ W a,zdp W a (L.drop k):=fun h W a i hi=>by rw[List.length_drop] at hi;omega
 cases E with
 | none =>
  have e:=T rfl;subst e;have F:L.length=0:=by omega
  have O:k=0:=by omega
  subst O;rw[F];exact⟨none,0,fun W=>by go_simp,zcl,fun W _=>nil (by omega) W _⟩
 | some M =>
  obtain⟨b,o,s⟩:=M;have Z:(0:Int)<=(k:Int):=by omega
  have g1:(k:Int)<=(L.length:Int):=by omega
  have g2:(L.length:Int)<=(cap:Int):=by omega
  by_cases e:cap=k
  ·have F:L.length-k=0:=(by omega);have g3:(cap:Int)=(k:Int):=(by omega);refine⟨some ⟨b,o,s⟩,0,fun W=>?_,⟨(fun e=>by cases e),by omega,by decide⟩,fun W _=>nil F W _⟩;subst e;go_simp
  ·have g3:¬ ((cap:Int)=(k:Int)):=(by omega);refine⟨some ((⟨b,o,s⟩:Addr).add (k*2)),cap-k,fun W=>?_,⟨(fun e=>by cases e),by omega,by omega⟩,fun W J=>?_⟩
   ·go_simp
   ·cases L with
    | nil=>exact fun i hi=>by simp at hi
    | cons x l =>
     obtain⟨U,o', e,_⟩:=J 0 (by simp);cases e;rw[Addr.add_lit];exact J.drop k
theorem zoR{w:World}{B g n:Nat}{F:Nat->Value}(h:w.rowIs g 47 n F)(M:n<=1000)(I:B<=g):w.ownsRow B 47 1 (.slice (some ⟨g,0,none⟩) n n) n (grow n F):=by
 obtain⟨D,hc,hs,J⟩:=h;refine⟨by rw[zpA,Nat.mul_one],Or.inr ⟨g,n,D,rfl,I,hc,yj _,by unfold maxLen;omega,by omega,?_⟩⟩;rw[Nat.mul_one];refine List.ext_getElem? fun j=>?_;rw[List.getElem?_take];by_cases E:j<n
 ·rw[yb E,Array.getElem?_toList,J j (by omega),ztl E]
 ·rw[ya E,List.getElem?_eq_none (by rw[zpA];omega)]
theorem zlP{B:Nat}{G:List Cl}{K:Nat->Value}{v:Value}{w:World}(h:zib B G K v w):∃ a c,v=.slice a G.length c/\St (fun x=>x<B\/w.heap.size<=x) (fun w=>zaI w a G) w:=by
 obtain⟨a,c,e,_⟩:=h.cls;refine⟨a,c,e,fun w' F=>?_⟩;have E:=h.kept (w' := w') (fun j M hl _=>F.block j hl (by show ¬ (j<B\/w.heap.size<=j);omega));obtain⟨I,J,D,hc⟩:=E.cls;rw[e] at D;cases D;exact hc
theorem zwU{X:Nat->Prop}{B0 B:Nat}{L:List Pt}{K:Nat->Value}{lo hi:Nat->Nat}{W1 E:World}{q F vc:Nat}{J:Nat->Value}{I:Value}{va:Option Addr}{G:List Cl}(hX:∀ b,X b->b<B0)(h0:B0<=B)(hF:zxu L)(hq:q<L.length)(h:CpI B L K lo hi L.length W1)(h1:lo q<=F)(h2:F<hi q)
  (a7:∀ i,i<(pt L q).cm.length->∃ ga gc,J i=.slice ga (gr (pt L q).cm i).length gc/\St (fun x=>x<=F\/hi q<=x) (fun w=>zaI w ga (gr (pt L q).cm i)) W1) (ho:zaq (fun x=>x=F) W1 E)
  (M:E.ownsRow (lo q) 47 1 I ((pt L q).cm.length+1) (grow (pt L q).cm.length J++[.slice va G.length vc])) (hg:St (fun x=>x<B0\/x=B) (fun w=>zaI w va G) E) :
  SlA (some ⟨B,0,none⟩) L.length L.length/\zbK X (E.setCell ⟨B,q*5+3,none⟩ I) (some ⟨B,0,none⟩) (L.set q { pt L q with cm:=(pt L q).cm++[G] }):=by
 have a9:=(h.at' q hq).1;have a6:=zaK h.row (w' := E) (fun O Z=>by cases Z;exact ho.block B (h.row.lt B rfl).2 (by show ¬ B=F;omega));have a1:=zhV a6 (k:=q) (f:=3) (u:=I) (v:=I) (x:={ pt L q with cm:=(pt L q).cm++[G] }) hq (by omega) rfl;have oS:zaq (fun x=>x=B) E (E.setCell ⟨B,q*5+3,none⟩ I):=zaq.set (X:=fun x=>x=B) E _ rfl;have o2:zaq (fun x=>x=F\/x=B) W1 (E.setCell ⟨B,q*5+3,none⟩ I):=(ho.mono (fun _ h=>Or.inl h)).trans (oS.mono (fun _ h=>Or.inr h));have D:=zaK M (w' := E.setCell ⟨B,q*5+3,none⟩ I) (fun O Z=>yv _ _ _ _ (by show O≠B;have:=(M.lt O Z).1;omega))
 have U:St (fun x=>x<B0) (fun w=>zrV w I ((pt L q).cm++[G])) (E.setCell ⟨B,q*5+3,none⟩ I):=fun w' T=>by
  have a5:=zaK D (w' := w') (fun O Z=>T.block O (D.lt O Z).2 (by show ¬ O<B0;have:=(D.lt O Z).1;omega));have el:((pt L q).cm++[G]).length=(pt L q).cm.length+1:=by simp
  rw[ztm,<- el] at a5;refine zyz a5 (fun i a8=>?_);rw[el] at a8;by_cases e:i=(pt L q).cm.length
  ·simp only[yb e];subst e;rw[zol];exact⟨va,vc,rfl,hg w' ((oS.mono (fun _ h=>Or.inr h)).trans (T.mono (fun _ h=>Or.inl h)))⟩
  ·simp only[ya e];rw[zom (by omega)];obtain⟨ga,gc,e2,hs⟩:=a7 i (by omega);refine⟨ga,gc,e2,hs w' ((o2.mono (fun x U=>?_)).trans (T.mono (fun x U=>?_)))⟩
   ·show x<=F\/hi q<=x;rcases U with U|U
    ·exact Or.inl (by omega)
    ·exact Or.inl (by omega)
   ·show x<=F\/hi q<=x;have:x<B0:=U;exact Or.inl (by omega)
 have h3:=h.put (Y:=fun x=>x=F\/x=B) h0 hF hq a1 (fun i hi=>by simp only[ya hi]) o2 (fun b hb=>by
  rcases hb with hb|hb
  ·exact Or.inr (by omega)
  ·exact Or.inl (by omega)) (by simp only[if_true];exact U)
 exact⟨h3.1,zhd hX h3.2⟩
theorem zuw:zvr:=fun X a c L Fr k o t ga gc G w hX hN hB b1 hL g4 b5 hG=>by
 have DH:Hid (∀ o1:Obj,_):=fun o1=>zce a c L Fr k o t (w.alloc o1) hN hB b1 (hL.at.below (zaa _ _));have DG:Hid (∀ W,Below w.heap.size w W->_):=fun W hW=>ztd ga gc G W g4 b5 (hG.below hW);unfold zhT;by_cases hH:zaU L Fr k o t=0
 ·rw[hH] at DH;obtain⟨R,kk,rfl,hk,_⟩:=zco hH;obtain⟨q,hq,a9,j0,_⟩:=R.mate hk;have c6:=R.few;have hF:=zdt R;have g9:(kk:Int)<(L.length:Int):=by omega
  have h8:(q:Int)<(L.length:Int):=by omega
  have eM:zko L kk=pt L q:=by unfold zko;rw[yi,hq,yi]
  have eP:zhP L Fr kk o t G=if zav G≠0 then zav G else if (pt L q).s=true then 5 else if (pt L q).cm.length=16 then 1 else 0:=by unfold zhP;rw[hH,eM];rfl
  have eL:zix L kk G=L.set q { pt L q with cm:=(pt L q).cm++[zbt G] }:=by unfold zix;rw[eM,yi,hq,yi]
  obtain⟨b,oo,ea,_,_,c2,_⟩:=hL.at kk hk;obtain⟨b', j4,e8,_,_,_,ca,cc,d3,_,d4⟩:=hL.at q a9;subst ea;cases e8;rw[hq] at c2;have i9:b<w.heap.size:=yd _ _ c2;rw[eP];by_cases hE:zav G=0
  ·rw[ya (yJ hE)];rw[hE] at DG;have eR:zzs G=zbt G:=yb hE;rw[eR] at DG
   cases hs:(pt L q).s with
   | true =>
    rw[yb rfl,ya (show ¬ (5:Int)=0 by decide)];rw[hs] at d4;clear hL hB b1 hF R hH eP eL eM hE eR hs hG b5;generalize G.length=gl at *;generalize (pt L q).cm.length=cl at *;generalize L.length=n at *;generalize zbt G=cF at *
    go_enter Tryz.func145,Tryz.ntmps145
    go_wp2_with fail
    refine ye (DH.out _) ?_;rintro e w1 ⟨rfl,F⟩;have I:Hid (Below w.heap.size w w1):=(zaa _ _).trans (F.mono (by simp));have r1:w1.cell? ⟨w.heap.size,0,none⟩=some (.slice ga gl gc):=zab (zad w #[.slice ga gl gc] 47 0 rfl) F;have s1:w.heap.size<w1.heap.size:=yd _ _ r1;clear F DH
    go_wp2_with fail
    refine ye (DG.out _ I.out) ?_;rintro e w2 ⟨v2,rfl,O,Kc,T⟩;obtain⟨va,vc,rfl,a6⟩:=zlP T;have a7:Hid _:=a6;have D:Hid (Below w.heap.size w w2):=I.out.trans (O.mono I.out.size);have e2:=zab c2 D.out;have e3:=zab d3 D.out;have e4:=zab d4 D.out;have c9:b<w2.heap.size:=yd _ _ e2;obtain⟨vl,U⟩:∃ z,cF.length=z:=⟨_,rfl⟩;have b3:Hid (cF.length=vl):=U;rw[U];clear U O T a6 DG r1
    go_wp2_with fail
    exact yw (v:=.tuple #[.slice none 0 0,.int .i64 5]) (by simp[results,Tryz.results145,go_sem]) rfl ⟨none,0,rfl,D.out.alloc D.out.size _,zdc,zbv X _⟩
   | false =>
    rw[ya (show ¬ (false=true) by decide)];rw[hs] at d4;by_cases b4:(pt L q).cm.length=16
    ·rw[yb b4,ya (show ¬ (1:Int)=0 by decide)];rw[b4] at d3;clear hL hB b1 hF R hH eP eL eM hE eR hs hG b5 b4;generalize G.length=gl at *;generalize L.length=n at *;generalize zbt G=cF at *
     go_enter Tryz.func145,Tryz.ntmps145
     go_wp2_with fail
     refine ye (DH.out _) ?_;rintro e w1 ⟨rfl,F⟩;have I:Hid (Below w.heap.size w w1):=(zaa _ _).trans (F.mono (by simp));have r1:w1.cell? ⟨w.heap.size,0,none⟩=some (.slice ga gl gc):=zab (zad w #[.slice ga gl gc] 47 0 rfl) F;have s1:w.heap.size<w1.heap.size:=yd _ _ r1;clear F DH
     go_wp2_with fail
     refine ye (DG.out _ I.out) ?_;rintro e w2 ⟨v2,rfl,O,Kc,T⟩;obtain⟨va,vc,rfl,a6⟩:=zlP T;have a7:Hid _:=a6;have D:Hid (Below w.heap.size w w2):=I.out.trans (O.mono I.out.size);have e2:=zab c2 D.out;have e3:=zab d3 D.out;have e4:=zab d4 D.out;have c9:b<w2.heap.size:=yd _ _ e2;obtain⟨vl,U⟩:∃ z,cF.length=z:=⟨_,rfl⟩;have b3:Hid (cF.length=vl):=U;rw[U];clear U O T a6 DG r1
     go_wp2_with fail
     exact yw (v:=.tuple #[.slice none 0 0,.int .i64 1]) (by simp[results,Tryz.results145,go_sem]) rfl ⟨none,0,rfl,D.out.alloc D.out.size _,zdc,zbv X _⟩
    ·rw[ya b4,yb rfl];obtain⟨i0,g8,i1,i2,i3⟩:=info_parts ztt;have g7:(pt L q).cm.length<=16:=(zbj.1 (R.ok q a9)).2.2.2.2.1.1;have i7:decide (((pt L q).cm.length:Int)=16)=false:=yF (by omega);have i8:(((pt L q).cm.length:Int) == 16)=false:=(by simp;omega);have DP:Hid (∀ W,Below w.heap.size w W->_):=fun W hW=>zdX (some ⟨b,oo,none⟩) c L W c6 hF (hL.at.below hW);have ML:Hid ((zix L kk G).length=L.length):=(by show _=_;rw[eL];simp);have F:(pt L q).cm.length+1<=maxLen:=(by unfold maxLen;omega);have g6:((pt L q).cm.length+1)*24<=140737488355328:=by omega
     have OC:Hid (∀ (B:Nat) (W1:World) (K:Nat->Value) (lo hi:Nat->Nat),w.heap.size<=B->CpI B L K lo hi L.length W1->∃ bq cs,W1.cell? ⟨B,q*5+3,none⟩=some (.slice (some ⟨bq,0,none⟩) (pt L q).cm.length (pt L q).cm.length)/\(∀ o,W1.frozen? ⟨B,o,none⟩=false)/\B<lo q/\lo q<=bq/\lo q<=W1.heap.size/\W1.ownsRow (lo q) 47 1 (.slice (some ⟨bq,0,none⟩) (pt L q).cm.length (pt L q).cm.length) (pt L q).cm.length cs/\∀ (w9:World) (v9:Value) (va:Option Addr) (vc:Nat),zaq (fun x=>x=bq) W1 w9->w9.ownsRow (lo q) 47 1 v9 ((pt L q).cm.length+1) (cs++[.slice va (zbt G).length vc])->St (fun x=>x<w.heap.size\/x=B) (fun w=>zaI w va (zbt G)) w9->SlA (some ⟨B,0,none⟩) L.length L.length/\zbK X (w9.setCell ⟨B,q*5+3,none⟩ v9) (some ⟨B,0,none⟩) (zix L kk G)):=fun B W1 K lo hi g0 h=>by
      obtain⟨bq,J,h1,h2,h3,h4,h5⟩:=h.gs q a9;have h6:=(h.at' q a9).1;refine⟨bq,grow (pt L q).cm.length J,(h.cell a9 (show 3<5 by omega)).trans (by rw[h3];rfl),fun o=>h.row.frozenAt o,h6,h1,by have:=h4.lt;omega,zoR h4 (by omega) h1,fun w9 v9 va vc ho e5 hg=>?_⟩;rw[eL];exact zwU hX g0 hF a9 h h1 h2 h5 ho e5 hg
     clear hL hB b1 hF R hH eP eL eM hE eR hs hG b5 b4 hN;generalize zix L kk G=M at *;generalize (pt L q).cm.length=cl at *;generalize zbt G=cF at *;generalize G.length=gl at *;obtain⟨n,hn⟩:∃ z,L.length=z:=⟨_,rfl⟩;rw[hn] at hk g9 a9 h8 c6 DH DP OC ML;rw[hn];clear hn
     go_enter Tryz.func145,Tryz.ntmps145
     go_wp2_with fail
     refine ye (DH.out _) ?_;rintro e w1 ⟨rfl,F⟩;have I:Hid (Below w.heap.size w w1):=(zaa _ _).trans (F.mono (by simp));have r1:w1.cell? ⟨w.heap.size,0,none⟩=some (.slice ga gl gc):=zab (zad w #[.slice ga gl gc] 47 0 rfl) F;have s1:w.heap.size<w1.heap.size:=yd _ _ r1;clear F DH
     go_wp2_with fail
     refine ye (DG.out _ I.out) ?_;rintro e w2 ⟨v2,rfl,O,Kc,T⟩;obtain⟨va,vc,rfl,a6⟩:=zlP T;have a7:Hid _:=a6;have D:Hid (Below w.heap.size w w2):=I.out.trans (O.mono I.out.size);have e2:=zab c2 D.out;have e3:=zab d3 D.out;have e4:=zab d4 D.out;have c9:b<w2.heap.size:=yd _ _ e2;obtain⟨vl,U⟩:∃ z,cF.length=z:=⟨_,rfl⟩;have b3:Hid (cF.length=vl):=U;rw[U];clear U O T a6 DG r1
     go_wp2_with fail
     obtain⟨Z,hZ⟩:∃ Z,w2.alloc (.cells #[.slice va vl vc] 47)=Z:=⟨_,rfl⟩;have d5:Z.cell? ⟨w2.heap.size,0,none⟩=some (.slice va vl vc):=(by rw[<- hZ];exact zad w2 _ _ 0 rfl);have BZ:Hid (Below w2.heap.size w2 Z):=(by rw[<- hZ];exact zaa _ _);have b2:Hid (Below w.heap.size w Z):=D.out.trans (BZ.out.mono D.out.size);have sZ:w2.heap.size<Z.heap.size:=yd _ _ d5;rw[hZ];clear hZ;refine ye (DP.out _ b2.out) ?_;rintro e w3 ⟨K,lo,hi,rfl,b6,hc⟩;obtain⟨bq,cs,x3,fz,d9,e9,e1,a8,b0⟩:=OC.out _ _ _ _ _ b2.out.size hc;obtain⟨lq,h7⟩:∃ lq,lo q=lq:=⟨_,rfl⟩;rw[h7] at d9 e9 e1 a8 b0;obtain⟨B,b9⟩:∃ B,Z.heap.size=B:=⟨_,rfl⟩;rw[b9] at x3 fz d9 b0;obtain⟨sb,c8⟩:∃ sb,w2.heap.size=sb:=⟨_,rfl⟩;have c7:Hid (Below w.heap.size w w3):=b2.out.trans (b6.mono b2.out.size);have xs:w3.cell? ⟨sb,0,none⟩=some (.slice va vl vc):=(by rw[<- c8];exact zab d5 b6);have d7:Hid (w3.ownsRow lq 47 1 (.slice (some ⟨bq,0,none⟩) cl cl) cl cs):=a8;have sB:B<w3.heap.size:=yd _ _ x3;have j3:w.heap.size<=B:=(by rw[<- b9];exact b2.out.size);have j1:sb<B:=(by omega);have sq:bq<w3.heap.size:=(World.ownsRow.lt d7.out bq rfl).2
     have FF:Hid (∀ (w9:World) (v9:Value),zaq (fun x=>x=bq) w3 w9->w9.ownsRow lq 47 1 v9 (cl+1) (cs++[.slice va vl vc])->SlA (some ⟨B,0,none⟩) n n/\zbK X (w9.setCell ⟨B,q*5+3,none⟩ v9) (some ⟨B,0,none⟩) M):=fun w9 v9 h1 h2=>by
      refine b0 w9 v9 va vc h1 (by rw[b3.out];exact h2) ?_;have o1:zaq (fun x=>x<w1.heap.size\/w2.heap.size<=x) w2 w9:=((zaq.of_below BZ.out).trans (zaq.mk (yH (yj _) b6.size) (fun b hb _=>b6.block b (by omega)))).trans (h1.mono (fun x (hx:x=bq)=>Or.inr (by omega)))
      exact St.less (St.off a7.out o1) (fun x hx=>by
       have j2:=I.out.size;rcases hx with hx|hx
       ·exact Or.inl (by omega)
       ·exact Or.inr (by omega))
     rw[b9,c8];clear b9 c8 b6 hc a8 b0 DP OC a7 b3 d5
     go_wp2_with fail
     refine wp_region_noPanic ?_;refine zeR (S:=fun e6=>e6.cell? ⟨B,q*5+3,none⟩=some (.slice (some ⟨bq,0,none⟩) cl cl)/\e6.cell? ⟨sb,0,none⟩=some (.slice va vl vc)) 12 (by kernel_rfl) (by(try dsimp only);go_keep) (fun hHeld=>?_);refine zah (i:=0) ?_;simp[Act.put];refine zah (i:=1) ?_;simp[Act.put];refine zah (i:=2) ?_;simp[Act.put];refine zah (i:=3) ?_;simp[Act.put];refine zah (i:=4) ?_;simp[Act.put];refine zah (i:=5) ?_;simp[Act.put];refine zah (i:=6) ?_;simp[Act.put];refine zah (i:=7) ?_;simp[Act.put];refine zbz (i:=8) (by kernel_rfl) rfl (fun K hK=>?_);go_simp;refine hK.out _ _ ?_ (fun hHeld=>?_)
     ·exact⟨zab x3 ((yk w3.heap.size w3).drew.alloc (yj _) (.cells #[.slice va vl vc] 47)),zab xs ((yk w3.heap.size w3).drew.alloc (yj _) (.cells #[.slice va vl vc] 47))⟩
     clear hK K hHeld
     try simp[Act.put]
     refine zbz (i:=9) (by kernel_rfl) rfl (fun K hK=>?_);refine zjO rfl (.tmp 61) (.tmp 63) 119 rfl lq 47 i0 (.agg #[.slice none 0 0]) 1 24 Tryz.underlying119 g8 i1 i2 i3 rfl (by decide) (.slice (some ⟨bq,0,none⟩) cl cl) cl cs rfl (World.ownsRow.alloc (World.ownsRow.drew d7.out) _) (some ⟨w3.heap.size,0,none⟩) 1 1 [.slice va vl vc] (fun h=>by cases h) rfl rfl (fun ad e j u hj=>by cases e;exact zBd (zad w3.drew _ _ 0 rfl) j u hj) (by intro u hu;simp at hu;subst hu;rfl) F g6 (((yk w3.heap.size w3).drew.alloc (yj _) (.cells #[.slice va vl vc] 47)) |> fun h=>yH e1 h.size) ?_;intro v9 w9 b7 a5;have t3:w9.cell? ⟨B,q*5+3,none⟩=some (.slice (some ⟨bq,0,none⟩) cl cl):=a5.cell (a:=⟨B,q*5+3,none⟩) (zab x3 ((yk w3.heap.size w3).drew.alloc (yj _) (.cells #[.slice va vl vc] 47))) (by intro e;have e2:B=bq:=Option.some.inj e;omega);have t0:w9.cell? ⟨sb,0,none⟩=some (.slice va vl vc):=a5.cell (a:=⟨sb,0,none⟩) (zab xs ((yk w3.heap.size w3).drew.alloc (yj _) (.cells #[.slice va vl vc] 47))) (by intro e;have e2:sb=bq:=Option.some.inj e;omega);have f9:w9.frozen? ⟨B,q*5+3,none⟩=false:=(yD (a5.block B (by show B<(w3.drew.alloc _).heap.size;simp;omega) (by intro e;have e2:B=bq:=Option.some.inj e;omega))).trans (((yk w3.heap.size w3).drew.alloc (yj _) (.cells #[.slice va vl vc] 47)).frozen (show (⟨B,q*5+3,none⟩:Addr).block<w3.heap.size from sB) |>.trans (fz _))
     have o9:zaq (fun x=>x=bq) w3 w9:=(zaq.of_below ((yk w3.heap.size w3).drew.alloc (yj _) (.cells #[.slice va vl vc] 47))).trans (zaq.grown a5 (fun b hb=>by cases hb;rfl));have e7:Hid (Below w.heap.size w w9):=(c7.out.trans (((yk w3.heap.size w3).drew.alloc (yj _) (.cells #[.slice va vl vc] 47)).mono c7.out.size)).grown a5 (by show w.heap.size<=(w3.drew.alloc _).heap.size;simp;have:=c7.out.size;omega) (fun kk hk=>by cases hk;show w.heap.size<=bq;omega);have d6:Hid (w9.ownsRow lq 47 1 v9 (cl+1) (cs++[.slice va vl vc])):=b7;have b8:Hid _:=FF.out w9 v9 o9 b7;refine hK.out _ _ ?_ (fun hHeld=>?_)
     ·exact⟨t3,t0⟩
     obtain⟨i4,i5,h9⟩:∃ a c,v9=.slice a (cl+1) c:=by
      rcases d6.out.2 with ⟨e,e0⟩ |⟨g5,d8,i6,e,_⟩
      ·exact⟨none,0,by rw[e,e0]⟩
      ·exact⟨_,d8,e⟩
     subst h9;clear hK K hHeld b7 a5 d6 o9 FF
     try simp[Act.put]
     refine zbz (i:=10) (by kernel_rfl) rfl (fun K hK=>?_);go_simp;refine hK.out _ _ ?_ (fun hHeld=>?_)
     ·(try dsimp only)
      exact⟨t3,t0⟩
     clear hK K
     try simp[Act.put]
     refine zah (i:=11) ?_;simp[Act.put];refine zeQ (by kernel_rfl) rfl (fun K hK=>?_);go_simp;refine hK.out _ _ ?_;clear hK K
     try simp[Act.put]
     refine zeP (by kernel_rfl) ?_ _;refine NoPanic.normal ?_;have B9:Hid (Below w.heap.size w (w9.setCell ⟨B,q*5+3,none⟩ (.slice i4 (cl+1) i5))):=e7.out.setCell (by show w.heap.size<=B;omega) _;clear t3 t0 f9
     go_wp2_with fail
     exact yw (v:=.tuple #[.slice (some ⟨B,0,none⟩) n n,.int .i64 0]) (by simp[results,Tryz.results145,go_sem]) rfl (by first|exact⟨_,n,by rw[ML.out],B9.out,(by rw[ML.out];exact b8.out.1),b8.out.2⟩|exact⟨_,⟨n,by rw[ML.out]⟩,B9.out,(by rw[ML.out];exact b8.out.1),b8.out.2⟩)
  ·rw[yb hE,ya hE];have y1:decide (zav G=0)=false:=yF hE;have y2:(zav G == 0)=false:=(by simp[hE]);clear hL hB b1 hF R hH eP eL eM hG b5;generalize zav G=E at *;generalize G.length=gl at *;generalize (pt L q).cm.length=cl at *;generalize (pt L q).s=j5 at *;generalize L.length=n at *;generalize zzs G=cF at *
   go_enter Tryz.func145,Tryz.ntmps145
   go_wp2_with fail
   refine ye (DH.out _) ?_;rintro e w1 ⟨rfl,F⟩;have I:Hid (Below w.heap.size w w1):=(zaa _ _).trans (F.mono (by simp));have r1:w1.cell? ⟨w.heap.size,0,none⟩=some (.slice ga gl gc):=zab (zad w #[.slice ga gl gc] 47 0 rfl) F;have s1:w.heap.size<w1.heap.size:=yd _ _ r1;clear F DH
   go_wp2_with fail
   refine ye (DG.out _ I.out) ?_;rintro e w2 ⟨v2,rfl,O,Kc,T⟩;obtain⟨va,vc,rfl,a6⟩:=zlP T;have a7:Hid _:=a6;have D:Hid (Below w.heap.size w w2):=I.out.trans (O.mono I.out.size);have e2:=zab c2 D.out;have e3:=zab d3 D.out;have e4:=zab d4 D.out;have c9:b<w2.heap.size:=yd _ _ e2;obtain⟨vl,U⟩:∃ z,cF.length=z:=⟨_,rfl⟩;have b3:Hid (cF.length=vl):=U;rw[U];clear U O T a6 DG r1
   go_wp2_with fail
   exact yw (v:=.tuple #[.slice none 0 0,.int .i64 E]) (by simp[results,Tryz.results145,go_sem]) rfl ⟨none,0,rfl,D.out.alloc D.out.size _,zdc,zbv X _⟩
 ·have eP:zhP L Fr k o t G=zaU L Fr k o t:=by unfold zhP;rw[yb hH]
  rw[eP,ya hH];have y1:decide (zaU L Fr k o t=0)=false:=yF hH;have y2:(zaU L Fr k o t == 0)=false:=by simp[hH]
  clear hL hB b1 eP DG;generalize zaU L Fr k o t=E at *;generalize L.length=n at *;generalize G.length=gl at *
  go_enter Tryz.func145,Tryz.ntmps145
  go_wp2_with fail
  refine ye (DH.out _) ?_;rintro e w1 ⟨rfl,F⟩;have I:Hid (Below w.heap.size w w1):=(zaa _ _).trans (F.mono (by simp));clear F DH
  go_wp2_with fail
  exact yw (v:=.tuple #[.slice none 0 0,.int .i64 E]) (by simp[results,Tryz.results145,go_sem]) rfl ⟨none,0,rfl,I.out,zdc,zbv X _⟩
theorem ztu:(Tryz.prog.info? 61).map (fun i=>(i.zero,i.size,i.bytes))=some (some (.agg #[.int .i64 0,.int .i64 0]),2,16):=by kernel_rfl
theorem zoH(w:World):(Instr.makeSlice 44 (.int .i64 16) (.int .i64 16)).run Tryz.prog w=.ok (.slice (some ⟨w.heap.size,0,none⟩) 16 16) (w.alloc (.cells (madeCells #[.int .i64 0,.int .i64 0] 32) 61)):=by
 obtain⟨i,hi,D,E,F⟩:=info_parts ztu;have h:=run_make (P:=Tryz.prog) w 44 61 i _ Tryz.underlying44 hi D .i64 .i64 16 16 (by omega) (by omega) (by rw[F];omega) (by omega);rw[E] at h;exact h
theorem zpT(n i:Nat)(h:i<n):(List.replicate n ((0:Int),(0:Int))).getD i (0,0)=(0,0):=by
 rw[zae _ _ (by rw[List.length_replicate];exact h),List.getElem_replicate]
theorem znc(n j:Nat)(h:j<n):(madeCells #[.int .i64 0,.int .i64 0] n)[j]?=some (.int .i64 0):=by
 have D:j % 2=0\/j % 2=1:=by omega
 rcases D with D|D <;> simp[madeCells,h,D]
theorem zqM(W:World):zas (W.alloc (.cells (madeCells #[.int .i64 0,.int .i64 0] 32) 61)) (some ⟨W.heap.size,0,none⟩) (List.replicate 16 (0,0)):=fun i hi=>by
 rw[List.length_replicate] at hi;refine⟨W.heap.size,0,rfl,?_,?_⟩
 ·rw[zpT 16 i hi];exact zad W _ _ _ (znc _ _ (by omega))
 ·rw[zpT 16 i hi];exact zad W _ _ _ (znc _ _ (by omega))
theorem zmk{x:Int}(h:isH x):∃ p:Nat,x=p/\p<16:=⟨x.toNat,by have:=h.1;omega,by have:=h.2;have:=h.1;omega⟩
theorem zdV{w W:World}{t:Nat}{D v1 v2 E:Value}(F:Below (w.heap.size+1) (w.alloc (.cells #[D,v1,v2,E] t)) W):W.heap[w.heap.size]?=some (.cells #[D,v1,v2,E] t (0,0)):=(F.block _ (Nat.lt_succ_self _)).trans (zcc _ _ _ _ _ _)
theorem zeo:zsa:=fun A R w hB hW=>by
 obtain⟨a0,a1,a2,a3,c0,c1,c2,c3⟩:=A;obtain⟨hN,a7,hH,hI,a6,hT⟩:=hB;obtain⟨w0,w1,w2,w3⟩:=hW;have I:Hid (∀ o1,_):=fun o1=>zdW a0 c0 R.s (w.alloc o1) hN a7 (w0.below (zaa _ _));have M:Hid (∀ W,Below w.heap.size w W->_):=fun W hW=>zfN a2 c2 R.i W hI a6 (w2.below hW);clear w0 w1 w2 w3 a7 a6;dsimp only[rlV];unfold zaF;obtain⟨E0,h0⟩:∃ E,zbo R.s=E:=⟨_,rfl⟩;obtain⟨E1,h1⟩:∃ E,zav R.i=E:=⟨_,rfl⟩;rw[h0] at I |-;rw[h1] at M |-;clear h0 h1;generalize R.s.length=n0 at *;generalize R.i.length=n2 at *;generalize R.t.length=n3 at *;generalize R.hs.length=n1 at *;by_cases e0:E0=0
 ·subst e0;rw[yb rfl];by_cases e1:n1=16
  ·subst e1;rw[yb rfl];by_cases e2:E1=0
   ·subst e2;rw[yb rfl];by_cases e3:4800<n3
    ·rw[yb e3];have a9:(4800:Int)<(n3:Int):=by omega
     go_enter Tryz.func32,Tryz.ntmps32
     go_wp2_with fail
     refine ye (I.out _) ?_;rintro e V ⟨rfl,D⟩;have F:Hid (Below w.heap.size w V):=(zaa w _).trans (D.mono (by simp));simp only[yr] at D;have O:Hid _:=zdV D;obtain⟨U,Z,l2,l3,T,lt⟩:=zak O.out;clear D I
     go_wp2_with fail
     refine ye (M.out _ F.out) ?_;rintro e V2 ⟨rfl,D⟩;have J:Hid (Below w.heap.size w V2):=F.out.trans (D.mono F.out.size);have a5:Hid _:=zaA O.out D;clear U Z l2 l3 T lt;obtain⟨U,Z,l2,l3,T,lt⟩:=zak a5.out;clear D M
     go_wp2
     go_ret;exact⟨rfl,J.out⟩
    ·rw[ya e3];have a9:¬ (4800:Int)<(n3:Int):=by omega
     go_enter Tryz.func32,Tryz.ntmps32
     go_wp2_with fail
     refine ye (I.out _) ?_;rintro e V ⟨rfl,D⟩;have F:Hid (Below w.heap.size w V):=(zaa w _).trans (D.mono (by simp));simp only[yr] at D;have O:Hid _:=zdV D;obtain⟨U,Z,l2,l3,T,lt⟩:=zak O.out;clear D I
     go_wp2_with fail
     refine ye (M.out _ F.out) ?_;rintro e V2 ⟨rfl,D⟩;have J:Hid (Below w.heap.size w V2):=F.out.trans (D.mono F.out.size);have a5:Hid _:=zaA O.out D;clear U Z l2 l3 T lt;obtain⟨U,Z,l2,l3,T,lt⟩:=zak a5.out;clear D M
     go_wp2
     go_ret;exact⟨rfl,J.out⟩
   ·rw[ya e2];have hz:(E1 == 0)=false:=by simp[e2]
    go_enter Tryz.func32,Tryz.ntmps32
    go_wp2_with fail
    refine ye (I.out _) ?_;rintro e V ⟨rfl,D⟩;have F:Hid (Below w.heap.size w V):=(zaa w _).trans (D.mono (by simp));simp only[yr] at D;have O:Hid _:=zdV D;obtain⟨U,Z,l2,l3,T,lt⟩:=zak O.out;clear D I
    go_wp2_with fail
    refine ye (M.out _ F.out) ?_;rintro e V2 ⟨rfl,D⟩;have J:Hid (Below w.heap.size w V2):=F.out.trans (D.mono F.out.size);clear U Z l2 l3 T lt D M
    go_wp2
    go_ret;exact⟨rfl,J.out⟩
  ·rw[ya e1];have a8:¬ ((n1:Int)=16):=(by omega);have hz:((n1:Int) == 16)=false:=by simp[a8]
   go_enter Tryz.func32,Tryz.ntmps32
   go_wp2_with fail
   refine ye (I.out _) ?_;rintro e V ⟨rfl,D⟩;have F:Hid (Below w.heap.size w V):=(zaa w _).trans (D.mono (by simp));simp only[yr] at D;have O:Hid _:=zdV D;obtain⟨U,Z,l2,l3,T,lt⟩:=zak O.out;clear D I M
   go_wp2
   go_ret;exact⟨rfl,F.out⟩
 ·rw[ya e0];have hz:(E0 == 0)=false:=by simp[e0]
  go_enter Tryz.func32,Tryz.ntmps32
  go_wp2_with fail
  refine ye (I.out _) ?_;rintro e V ⟨rfl,D⟩;have F:Hid (Below w.heap.size w V):=(zaa w _).trans (D.mono (by simp));clear D I M
  go_wp2
  go_ret;exact⟨rfl,F.out⟩
theorem zyN(p:Int)(w:World)(D:p<0\/24<p) :
  yM 62 #[.int .i64 p] w fun e w' => e=.returned (.tuple #[.agg #[.slice none 0 0],.int .i64 2])/\Below w.heap.size w w' := by
 go_enter Tryz.func62,Tryz.ntmps62
 go_wp2_with (go_at_call 66;refine(zhj _ _ _ _ D).mono ?_;rintro e w' ⟨rfl,rfl⟩)
 first
  |(go_ret;exact⟨rfl,yk _ _⟩)
  |(go_ret;exact⟨rfl,(yk _ _).alloc (yj _) _⟩)
  |(refine yw (v:=.tuple #[.agg #[.slice none 0 0],.int .i64 2]) (by simp[results,Tryz.results62,go_sem]) rfl ⟨rfl,?_⟩;first|exact(yk _ _).alloc (yj _) _|exact((yk _ _).alloc (yj _) _).setCell (by simp) _|exact(((yk _ _).alloc (yj _) _).setCell (by simp) _).drew)
theorem ztR{w w' : World}{g n:Nat}(h:zai w (some ⟨g,0,none⟩) (List.replicate n zaZ))(I:w'.heap[g]?=w.heap[g]?):zai w' (some ⟨g,0,none⟩) (List.replicate n zaZ):=fun i hi=>by
 obtain⟨b,o,e,hn⟩:=h i hi;cases e;have D:i<n:=by simpa using hi
 rw[zfu n i _ D] at hn |-;obtain⟨c0,c1,c2,c3,c4,⟨ka,kc,c5,_⟩,E,F⟩:=hn;have hc:∀ o,w'.cell? ⟨g,o,none⟩=w.cell? ⟨g,o,none⟩:=fun o=>yC I;exact⟨g,0,rfl,(hc _).trans c0,(hc _).trans c1,(hc _).trans c2,(hc _).trans c3,(hc _).trans c4,⟨ka,kc,(hc _).trans c5,fun j J=>absurd J (yx _)⟩,(hc _).trans E,(hc _).trans F⟩
theorem zop{w w' : World}{g:Nat}{H:List (Int × Int)}(h:zas w (some ⟨g,0,none⟩) H)(D:w'.heap[g]?=w.heap[g]?):zas w' (some ⟨g,0,none⟩) H:=fun i hi=>by
 obtain⟨b,o,e,h1,E⟩:=h i hi;cases e;exact⟨g,0,rfl,(yC D).trans h1,(yC D).trans E⟩
theorem ztS(n:Nat)(w:World)(hn:n<=24):yM 28 #[.int .i64 (n:Int)] w fun e w' => ∃ (a0 a1:Option Addr) (c0:Nat),e=.returned (.tuple #[.agg #[.slice a0 n c0,.slice a1 16 16,.slice none 0 0,.slice none 0 0],.int .i64 0])/\Below w.heap.size w w' /\ St (fun b=>b<w.heap.size) (fun V=>zai V a0 (List.replicate n zaZ)/\zas V a1 (List.replicate 16 (0,0))) w' := by
 have D:Hid (∀ U,_):=fun U=>zwL n (w.alloc U) hn;clear hn;have a6:=zoH
 go_enter Tryz.func28,Tryz.ntmps28
 go_wp2_with fail
 refine ye (D.out _) ?_;rintro e V ⟨g,rfl,F,hn,M,a5⟩;have O:Hid (Below w.heap.size w V):=(zaa w _).trans (F.mono (by simp));have HN:Hid (zai V (some ⟨g,0,none⟩) (List.replicate n zaZ)):=hn;simp only[yr] at F M;have I:Hid _:=zdV F;obtain⟨l0,l1,l2,l3,fz,lt⟩:=zak I.out;clear F D hn
 go_wp2_with fail
 go_region
 go_wp2
 have SL:Hid (SlB V w.heap.size):=zAt I.out ⟨_,_,_,rfl⟩ ⟨_,_,_,rfl⟩ ⟨_,_,_,rfl⟩ ⟨_,_,_,rfl⟩;obtain⟨X,E⟩:∃ X,(((V.setCell ⟨w.heap.size,0,none⟩ (.slice (some ⟨g,0,none⟩) n n)).setCell ⟨w.heap.size,1,none⟩ (.slice (some ⟨V.heap.size+1,0,none⟩) 16 16)).setCell ⟨w.heap.size,2,none⟩ (.slice none 0 0)).setCell ⟨w.heap.size,3,none⟩ (.slice none 0 0)=X:=⟨_,rfl⟩;have x0:X.heap[w.heap.size]?=some (.cells #[.slice (some ⟨g,0,none⟩) n n,.slice (some ⟨V.heap.size+1,0,none⟩) 16 16,.slice none 0 0,.slice none 0 0] 50 (0,0)):=by rw[<- E];exact zcL I.out
 have x1:zai X (some ⟨g,0,none⟩) (List.replicate n zaZ):=by rw[<- E];exact HN.out.offB SL.out (zvi.refl _ _).set.set.set.set
 have x2:X.heap.size=V.heap.size:=by rw[<- E];simp
 have Z:Below w.heap.size w X:=by rw[<- E];exact(((O.out.setCell (yj _) _).setCell (yj _) _).setCell (yj _) _).setCell (yj _) _
 rw[E];clear E;have x4:=zqM (X.alloc (Obj.cells #[Value.slice (some ⟨g,0,none⟩) n n] 43));rw[yr,x2] at x4;have J:=(zaf X (Obj.cells #[Value.slice (some ⟨g,0,none⟩) n n] 43) (Obj.cells (madeCells #[Value.int IntKind.i64 0,Value.int IntKind.i64 0] 32) 61)).drew;have x5:=zaA x0 J;obtain⟨m0,m1,m2,m3,mf,ml⟩:=zak x5;refine yw (v:=.tuple #[.agg #[.slice (some ⟨g,0,none⟩) n n,.slice (some ⟨V.heap.size+1,0,none⟩) 16 16,.slice none 0 0,.slice none 0 0],.int .i64 0]) (by simp[results,Tryz.results28,go_sem,m0,m1,m2,m3]) rfl ⟨some ⟨g,0,none⟩,some ⟨V.heap.size+1,0,none⟩,n,by simp,Z.trans (J.mono Z.size),fun V' T=>⟨ztR (x1.below J) (T.block g (by simp;omega) (by omega)),zop (x4.below (yk _ _).drew) (T.block _ (by simp;omega) (by have:=O.out.size;omega))⟩⟩
theorem zyO:zpj:=fun p w=>by
 by_cases J:0<=p/\p<=24
 ·have F:zdl p=⟨List.replicate p.toNat zaZ,List.replicate 16 (0,0),[],[]⟩:=yb J;have I:zAP p=0:=yb J;rw[F,I];clear F I;obtain⟨n,rfl⟩:∃ n:Nat,p=n:=⟨p.toNat,by omega⟩;rw[yi];refine(ztS n w (by omega)).mono ?_;rintro e V ⟨a0,a1,c0,rfl,E,hs⟩;exact⟨⟨a0,a1,none,none,c0,16,0,0⟩,by simp[rlV],E,hs.at.1,hs.at.2,fun _ h=>absurd h (yx _),fun _ h=>absurd h (yx _)⟩
 ·have F:zdl p=zbE:=ya J;have I:zAP p=2:=ya J;rw[F,I];clear F I;have D:Hid (∀ U,_):=fun U=>zyN p (w.alloc U) (by omega);clear J
  go_enter Tryz.func28,Tryz.ntmps28
  go_wp2_with fail
  refine ye (D.out _) ?_;rintro e V ⟨rfl,E⟩;have HB:Hid (Below w.heap.size w V):=(zaa w _).trans (E.mono (by simp));simp only[yr] at E;have O:Hid _:=zdV E;obtain⟨l0,l1,l2,l3,fz,lt⟩:=zak O.out;clear E D
  go_wp2
  obtain⟨X,M⟩:∃ X,(((V.setCell ⟨w.heap.size,0,none⟩ (.slice none 0 0)).setCell ⟨w.heap.size,1,none⟩ (.slice none 0 0)).setCell ⟨w.heap.size,2,none⟩ (.slice none 0 0)).setCell ⟨w.heap.size,3,none⟩ (.slice none 0 0)=X:=⟨_,rfl⟩;have x0:X.heap[w.heap.size]?=some (.cells #[.slice none 0 0,.slice none 0 0,.slice none 0 0,.slice none 0 0] 50 (0,0)):=by rw[<- M];exact zcL O.out
  have Z:Below w.heap.size w X:=by rw[<- M];exact(((HB.out.setCell (yj _) _).setCell (yj _) _).setCell (yj _) _).setCell (yj _) _
  rw[M];clear M;have T:=zaa X (Obj.cells #[Value.slice none 0 0] 43);have x5:=zaA x0 T;obtain⟨m0,m1,m2,m3,mf,ml⟩:=zak x5;refine yw (v:=.tuple #[.agg #[.slice none 0 0,.slice none 0 0,.slice none 0 0,.slice none 0 0],.int .i64 2]) (by simp[results,Tryz.results28,go_sem,m0,m1,m2,m3]) rfl ⟨⟨none,none,none,none,0,0,0,0⟩,rfl,Z.trans (T.mono Z.size),zjF _ _⟩
theorem zcF(A:RA)(R:Rl)(k:Int)(w:World)(hl:R.hs.length=16) :
  yM 161 #[rlV A R,.int .i64 k] w fun e w' => e=.returned (.bool (decide (isH k)))/\Below w.heap.size w w' := by
 dsimp only[rlV];rw[hl];have D:Hid (∀ W,Calls _ _ _ _ _):=fun W=>zaR k 0 15 W;have hd:decide (0<=k/\k<=15)=decide (isH k):=rfl;rw[hd] at D;clear hd hl;generalize decide (isH k)=r at *
 go_enter Tryz.func161,Tryz.ntmps161
 go_wp2_with fail
 refine ye (D.out _) ?_;rintro e V ⟨rfl,E⟩;subst E
 go_wp2
 go_ret;exact⟨rfl,zaa _ _⟩
end Go.Proofs.YtcbcpomacdngmaaGreat
