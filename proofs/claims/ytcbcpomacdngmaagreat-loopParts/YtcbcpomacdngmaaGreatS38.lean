/-
  x
-/
import Derived.Test.YtcbcpomacdngmaaGreatS37
namespace Go.Proofs.YtcbcpomacdngmaaGreat
set_option maxRecDepth 100000
set_option maxHeartbeats 4000000
set_option linter.unusedVariables false
open Go.RowKit Go.ChangeShapes Go.WideShapes
theorem zwS{w:World}{g:Nat}{L:List Pt}(I:L.length<=12)(E:zxu L)(h:zaC zvB 121 5 L.length (RPt L) g L.length w):zcq w (some ⟨g,0,none⟩) L:=by
 obtain⟨K,lo,hi,c⟩:=zpq (by omega) h;obtain⟨a,c,e,F⟩:=zut c.row (fun i D=>(c.gs i D).grs (E i D).1);cases e;exact F
theorem zxk{w T E I J O V5 X:World}{W:Wl}{z:Nat}(H:zao W)(bV:Below w.heap.size w T)(b1:Below T.heap.size T E)(f1:E.heap[T.heap.size]?=some (.cells (zbw W.fs).toArray 65 (0,0)))
  (b2:Below E.heap.size E I) (e2:zaC zzq 50 4 W.rs.length (RRl W.rs) E.heap.size W.rs.length I) (b3:Below I.heap.size I J) (e3:zaC zyj 34 1 W.ps.length (RPg W.ps) I.heap.size W.ps.length J) (b4:Below J.heap.size J O) (e4:zaC zyk 51 1 W.qs.length (RQu W.qs) J.heap.size W.qs.length O)
  (b5:Below O.heap.size O V5) (e5:zaC zvB 121 5 W.pt.length (RPt W.pt) O.heap.size W.pt.length V5) (hz:z<T.heap.size) (hX:zaq (fun b=>b=z) V5 X) (bX:Below w.heap.size w X) :
  ∃ s:SD,(.cells #[.slice (some ⟨T.heap.size,0,none⟩) W.fs.length W.fs.length,.slice (some ⟨E.heap.size,0,none⟩) W.fs.length W.fs.length,.slice (some ⟨I.heap.size,0,none⟩) W.fs.length W.fs.length,.slice (some ⟨J.heap.size,0,none⟩) W.fs.length W.fs.length,.slice (some ⟨O.heap.size,0,none⟩) W.pt.length W.pt.length] 28:Obj)=.cells #[.slice s.a0 W.fs.length s.c0,.slice (some ⟨s.g1,0,none⟩) W.fs.length W.fs.length,.slice (some ⟨s.g2,0,none⟩) W.fs.length W.fs.length,.slice (some ⟨s.g3,0,none⟩) W.fs.length W.fs.length,.slice s.a4 W.pt.length s.c4] 28/\(∀ i,s.q i=none)/\WlC (s.wa W.fs.length) W/\∀ me,me<W.fs.length->SW ⟨w,fun V=>zbX V (s.P me).1 (prg W me)⟩ X.heap.size me W s (X.alloc (.cells #[.slice (some ⟨T.heap.size,0,none⟩) W.fs.length W.fs.length,.slice (some ⟨E.heap.size,0,none⟩) W.fs.length W.fs.length,.slice (some ⟨I.heap.size,0,none⟩) W.fs.length W.fs.length,.slice (some ⟨J.heap.size,0,none⟩) W.fs.length W.fs.length,.slice (some ⟨O.heap.size,0,none⟩) W.pt.length W.pt.length] 28)):=by
 have sV:=bV.size;have s1:=b1.size;have s2:=b2.size;have s3:=b3.size;have s4:=b4.size;have s5:=b5.size;have s6:=hX.size;have l1:=zaw f1;have bY:=zaa X (.cells #[.slice (some ⟨T.heap.size,0,none⟩) W.fs.length W.fs.length,.slice (some ⟨E.heap.size,0,none⟩) W.fs.length W.fs.length,.slice (some ⟨I.heap.size,0,none⟩) W.fs.length W.fs.length,.slice (some ⟨J.heap.size,0,none⟩) W.fs.length W.fs.length,.slice (some ⟨O.heap.size,0,none⟩) W.pt.length W.pt.length] 28);rw[H.lr] at e2;rw[H.lp] at e3;rw[H.lq] at e4;obtain⟨v,lo,hi,F,hF,hv⟩:=e2;obtain⟨v3,d6,d4,F3,a6,a9⟩:=e3;obtain⟨Z,b6,a8,F4,a7,U⟩:=e4;have b9:=hF.lt;have c6:=a6.lt;have c7:=a7.lt;obtain⟨f0,c9,F0,c8,_⟩:∃ x:Nat,x=O.heap.size/\∃ F,V5.rowIs x 121 (W.pt.length*5) F/\True:=by obtain⟨_,_,_,F,hF,_⟩:=e5;exact⟨_,rfl,F,hF,trivial⟩
 subst c9;have e8:=c8.lt;have gk:∀ i,i<W.fs.length->∃ G,St (fun b=>b<b6 i\/a8 i<=b) (QuF (Z i).qa (qu W.qs i) G) O:=fun i D=>(U i D).2.2.2.2.2.at.2.2.2;obtain⟨G,hG⟩:=zwQ (P:=fun i G=>St (fun b=>b<b6 i\/a8 i<=b) (QuF (Z i).qa (qu W.qs i) G) O) (fun _=>(none,0)) gk;have oZ:zaq (fun b=>b=z) V5 (X.alloc (.cells #[.slice (some ⟨T.heap.size,0,none⟩) W.fs.length W.fs.length,.slice (some ⟨E.heap.size,0,none⟩) W.fs.length W.fs.length,.slice (some ⟨I.heap.size,0,none⟩) W.fs.length W.fs.length,.slice (some ⟨J.heap.size,0,none⟩) W.fs.length W.fs.length,.slice (some ⟨O.heap.size,0,none⟩) W.pt.length W.pt.length] 28)):=hX.trans (zaq.of_below bY);have o4:zaq (fun b=>b=z) O (X.alloc (.cells #[.slice (some ⟨T.heap.size,0,none⟩) W.fs.length W.fs.length,.slice (some ⟨E.heap.size,0,none⟩) W.fs.length W.fs.length,.slice (some ⟨I.heap.size,0,none⟩) W.fs.length W.fs.length,.slice (some ⟨J.heap.size,0,none⟩) W.fs.length W.fs.length,.slice (some ⟨O.heap.size,0,none⟩) W.pt.length W.pt.length] 28)):=(zaq.of_below b5).trans oZ;have o3:zaq (fun b=>b=z) J (X.alloc (.cells #[.slice (some ⟨T.heap.size,0,none⟩) W.fs.length W.fs.length,.slice (some ⟨E.heap.size,0,none⟩) W.fs.length W.fs.length,.slice (some ⟨I.heap.size,0,none⟩) W.fs.length W.fs.length,.slice (some ⟨J.heap.size,0,none⟩) W.fs.length W.fs.length,.slice (some ⟨O.heap.size,0,none⟩) W.pt.length W.pt.length] 28)):=(zaq.of_below b4).trans o4
 have o2:zaq (fun b=>b=z) I (X.alloc (.cells #[.slice (some ⟨T.heap.size,0,none⟩) W.fs.length W.fs.length,.slice (some ⟨E.heap.size,0,none⟩) W.fs.length W.fs.length,.slice (some ⟨I.heap.size,0,none⟩) W.fs.length W.fs.length,.slice (some ⟨J.heap.size,0,none⟩) W.fs.length W.fs.length,.slice (some ⟨O.heap.size,0,none⟩) W.pt.length W.pt.length] 28)):=(zaq.of_below b3).trans o3;have o1:zaq (fun b=>b=z) E (X.alloc (.cells #[.slice (some ⟨T.heap.size,0,none⟩) W.fs.length W.fs.length,.slice (some ⟨E.heap.size,0,none⟩) W.fs.length W.fs.length,.slice (some ⟨I.heap.size,0,none⟩) W.fs.length W.fs.length,.slice (some ⟨J.heap.size,0,none⟩) W.fs.length W.fs.length,.slice (some ⟨O.heap.size,0,none⟩) W.pt.length W.pt.length] 28)):=(zaq.of_below b2).trans o2
 let s:SD:=⟨some ⟨T.heap.size,0,none⟩,W.fs.length,some ⟨O.heap.size,0,none⟩,W.pt.length,E.heap.size,I.heap.size,J.heap.size,fun i=>⟨(v i).sa,(v i).ha,(v i).ia,(v i).ta,(v i).sc,(v i).hc,(v i).ic,(v i).tc⟩,fun i=>((v3 i).pa,(v3 i).pc),fun i=>((Z i).qa,(Z i).qc),G,none,fun _=>none⟩
 have hs:∀ b,SX w.heap.size X.heap.size s b->b<w.heap.size\/b=X.heap.size\/b=E.heap.size\/b=I.heap.size\/b=J.heap.size:=fun b M=>by
  rcases M with h|h|h|h|h|h |⟨i,h⟩
  ·exact .inl h
  ·exact .inr (.inl h)
  ·exact .inr (.inr (.inl h))
  ·exact .inr (.inr (.inr (.inl h)))
  ·exact .inr (.inr (.inr (.inr h)))
  ·cases h
  ·cases h
 have n8:=H.fs.few
 have ra:∀ i,i<W.fs.length->(v i)=⟨(s.R i).a0,(rlm W i).s.length,(s.R i).c0,(s.R i).a1,(rlm W i).hs.length,(s.R i).c1,(s.R i).a2,(rlm W i).i.length,(s.R i).c2,(s.R i).a3,(rlm W i).t.length,(s.R i).c3⟩/\(s.R i).c3=(rlm W i).t.length/\(∃ b,(s.R i).a3=some ⟨b,0,none⟩)/\St (SX w.heap.size X.heap.size s) (fun V=>zcZ V (s.R i) (rlm W i)) (X.alloc (.cells #[.slice (some ⟨T.heap.size,0,none⟩) W.fs.length W.fs.length,.slice (some ⟨E.heap.size,0,none⟩) W.fs.length W.fs.length,.slice (some ⟨I.heap.size,0,none⟩) W.fs.length W.fs.length,.slice (some ⟨J.heap.size,0,none⟩) W.fs.length W.fs.length,.slice (some ⟨O.heap.size,0,none⟩) W.pt.length W.pt.length] 28)):=fun i D=>by
  obtain⟨_,h2,h3,h4,_,h6⟩:=hv i D;have b8:∀ b,SX w.heap.size X.heap.size s b->b<lo i\/hi i<=b:=fun b M=>by have:=hs b M;omega
  have h7:St (SX w.heap.size X.heap.size s) (RRl W.rs i (v i) (lo i) (hi i)) (X.alloc (.cells #[.slice (some ⟨T.heap.size,0,none⟩) W.fs.length W.fs.length,.slice (some ⟨E.heap.size,0,none⟩) W.fs.length W.fs.length,.slice (some ⟨I.heap.size,0,none⟩) W.fs.length W.fs.length,.slice (some ⟨J.heap.size,0,none⟩) W.fs.length W.fs.length,.slice (some ⟨O.heap.size,0,none⟩) W.pt.length W.pt.length] 28)):=(h6.off (o2.mono (fun b M=>Or.inl (by have:b=z:=M;omega)))).less b8;obtain⟨A,eA,c3,a3,_⟩:=h7.at
  have eR:s.R i=A:=by
   show (⟨(v i).sa,(v i).ha,(v i).ia,(v i).ta,(v i).sc,(v i).hc,(v i).ic,(v i).tc⟩:RA)=A;rw[eA]
  rw[eR];refine⟨eA,c3,a3,fun V' ho=>?_⟩;obtain⟨A', a5,_,_,h8⟩:=h7 V' ho
  have:A' = A:=by
   rw[eA] at a5;obtain⟨a0,a1,a2,d8,c0,c1,c2,e7⟩:=A';obtain⟨b0,d9,e0,e6,d0,d1,d2,d3⟩:=A;simp at a5;obtain⟨rfl,rfl,rfl,rfl,rfl,rfl,rfl,rfl⟩:=a5;rfl
  rw[this] at h8;exact h8
 have d7:W.pt.length<=12:=H.pt.few
 have d5:WlC (s.wa W.fs.length) W:=by
  refine⟨⟨(fun e=>by cases e),yj _,by show W.fs.length<=9223372036854775807;omega⟩,?_,?_,?_,⟨(fun e=>by cases e),yj _,by show W.pt.length<=9223372036854775807;omega⟩⟩
  ·rw[H.lr];exact⟨(fun e=>by cases e),yj _,by show W.fs.length<=9223372036854775807;omega⟩
  ·rw[H.lp];exact⟨(fun e=>by cases e),yj _,by show W.fs.length<=9223372036854775807;omega⟩
  ·rw[H.lq];exact⟨(fun e=>by cases e),yj _,by show W.fs.length<=9223372036854775807;omega⟩
 refine⟨s,rfl,fun _=>rfl,d5,fun me b7=>SWo.sw ⟨bX.trans (bY.mono bX.size),H,b7,⟨bX.size,by show _<=E.heap.size;omega,by show _<=I.heap.size;omega,by show _<=J.heap.size;omega,by show _≠E.heap.size;omega,by show _≠I.heap.size;omega,by show _≠J.heap.size;omega,by show E.heap.size≠I.heap.size;omega,by show E.heap.size≠J.heap.size;omega,by show I.heap.size≠J.heap.size;omega,(fun b M=>by cases M),(fun i b M=>by cases M)⟩,zfF _ _ _ _ _ _ _,?_,?_,?_,?_⟩⟩
 ·refine yE (hF.of_block (o2.block _ b9 (by show ¬ E.heap.size=z;omega))) (fun j hj=>?_);have h1:=(hv (j / 4) (by omega)).1 (j % 4) (by omega);rw[show j / 4*4+j % 4=j by omega,(ra (j / 4) (by omega)).1] at h1;rw[h1];unfold zpa;rcases(by omega:j % 4=0\/j % 4=1\/j % 4=2\/j % 4=3) with h|h|h|h
  ·rw[h,yb rfl];rfl
  ·rw[h,ya (by decide),yb rfl];rfl
  ·rw[h,ya (by decide),ya (by decide),yb rfl];rfl
  ·rw[h,ya (by decide),ya (by decide),ya (by decide)];rfl
 ·rw[Nat.mul_one] at a6;refine yE (a6.of_block (o3.block _ c6 (by show ¬ I.heap.size=z;omega))) (fun j hj=>?_);have h1:=(a9 j hj).1 0 (by omega);rw[Nat.mul_one,Nat.add_zero] at h1;rw[h1];show Value.slice (v3 j).pa (v3 j).pl (v3 j).pc=_;rw[(a9 j hj).2.2.2.2.2.at.1];rfl
 ·rw[Nat.mul_one] at a7;refine yE (a7.of_block (o4.block _ c7 (by show ¬ J.heap.size=z;omega))) (fun j hj=>?_);have h1:=(U j hj).1 0 (by omega);rw[Nat.mul_one,Nat.add_zero] at h1;rw[h1];show Value.slice (Z j).qa (Z j).ql (Z j).qc=_;rw[(U j hj).2.2.2.2.2.at.1];rfl
 ·have kf:∀ i,i<W.fs.length->∀ b,SX w.heap.size X.heap.size s b->b<b6 i\/a8 i<=b:=fun i D b M=>by
   obtain⟨_,h2,h3,h4,_⟩:=U i D;have:=hs b M;omega
  have kG:∀ i,i<W.fs.length->St (SX w.heap.size X.heap.size s) (QuF (Z i).qa (qu W.qs i) (G i)) (X.alloc (.cells #[.slice (some ⟨T.heap.size,0,none⟩) W.fs.length W.fs.length,.slice (some ⟨E.heap.size,0,none⟩) W.fs.length W.fs.length,.slice (some ⟨I.heap.size,0,none⟩) W.fs.length W.fs.length,.slice (some ⟨J.heap.size,0,none⟩) W.fs.length W.fs.length,.slice (some ⟨O.heap.size,0,none⟩) W.pt.length W.pt.length] 28)):=fun i D=>((hG i D).off (o4.mono (fun b M=>Or.inl (by have:b=z:=M;have:=(U i D).2.1;omega)))).less (kf i D);refine⟨fun V' ho=>?_,⟨(fun e=>by cases e),yj _,by show W.fs.length<=9223372036854775807;omega⟩,fun i D=>?_,fun i D _=>?_,?_,fun i D=>?_,fun i D j hj=>?_,fun i D=>?_,fun V' ho=>?_,⟨(fun e=>by cases e),yj _,by show W.pt.length<=9223372036854775807;have:=H.pt.few;omega⟩⟩
  ·have hr:E.rowIs T.heap.size 65 (W.fs.length*5) (frF W.fs):=zpK f1;refine zhC ((hr.of_block (o1.block _ l1 (by show ¬ T.heap.size=z;omega))).of_block (ho.block _ (by have:=o1.size;omega) (fun M=>?_))) (yj _) (fun _ _=>rfl);have:=hs _ M;omega
  ·exact(ra i D).2.2.2.imp (fun V h=>⟨h.1,h.2.1,h.2.2.1⟩)
  ·exact(ra i D).2.2.2.imp (fun V h=>h.2.2.2)
  ·obtain⟨_,c3,⟨b,a3⟩,h⟩:=ra me b7;refine⟨by simp,.inl ⟨rfl,c3,⟨(fun e=>by rw[a3] at e;cases e),(fun ad e=>by rw[a3] at e;cases e;exact⟨_,_,rfl⟩)⟩,fun V' ho ad e j u hu=>zpF (h V' ho).2.2.2 ad e j u hu⟩⟩
  ·obtain⟨_,h2,h3,h4,_,h6⟩:=a9 i D;exact((h6.off (o3.mono (fun b M=>Or.inl (by have:b=z:=M;omega)))).less (fun b M=>by have:=hs b M;show b<d6 i\/d4 i<=b;omega)).imp (fun V h=>h.2)
  ·exact(kG i D).imp (fun V h=>h.2 j hj)
  ·obtain⟨e1,e2,⟨b,e3⟩,_⟩:=(U i D).2.2.2.2.2.at;exact⟨zfT _ _,.inl ⟨rfl,e2,⟨(fun e=>by have e' :(Z i).qa=none:=e;rw[e3] at e'; cases e'),(fun ad e=>by have e' :(Z i).qa=some ad:=e;rw[e3] at e'; cases e'; exact⟨_,_,rfl⟩)⟩,(kG i D).imp (fun V h=>h.1)⟩⟩
  ·refine zwS H.pt.few (zdt H.pt) (e5.off (oZ.mono ?_ |>.trans (ho.mono ?_)))
   ·intro b M;have:b=z:=M;exact Or.inl (by omega)
   ·intro b M;have:=hs b M;show b<O.heap.size\/V5.heap.size<=b;omega
theorem zal{W:World}{b t:Nat}{D v1 v2 E F:Value}(h:W.heap[b]?=some (.cells #[D,v1,v2,E,F] t (0,0))):W.cell? ⟨b,0,none⟩=some D/\W.cell? ⟨b,1,none⟩=some v1/\W.cell? ⟨b,2,none⟩=some v2/\W.cell? ⟨b,3,none⟩=some E/\W.cell? ⟨b,4,none⟩=some F/\(∀ o,W.frozen? ⟨b,o,none⟩=false)/\b<W.heap.size :=
 ⟨by simp[World.cell?,h],by simp[World.cell?,h],by simp[World.cell?,h],by simp[World.cell?,h],by simp[World.cell?,h],fun o=>by simp[World.frozen?,h],zaw h⟩
theorem zll{W:World}{b t:Nat}{z0 Z F E D u0 u1 u2 u3 u4:Value}(h:W.heap[b]?=some (.cells #[z0,Z,F,E,D] t (0,0))):(((((W.setCell ⟨b,0,none⟩ u0).setCell ⟨b,1,none⟩ u1).setCell ⟨b,2,none⟩ u2).setCell ⟨b,3,none⟩ u3).setCell ⟨b,4,none⟩ u4).heap[b]?=some (.cells #[u0,u1,u2,u3,u4] t (0,0)):=by
 have M:(W.setCell ⟨b,0,none⟩ u0).heap[b]?=some (.cells #[u0,Z,F,E,D] t (0,0)):=zaS (i:=0) h;generalize W.setCell ⟨b,0,none⟩ u0=W0 at M |-;have O:(W0.setCell ⟨b,1,none⟩ u1).heap[b]?=some (.cells #[u0,u1,F,E,D] t (0,0)):=zaS (i:=1) M;generalize W0.setCell ⟨b,1,none⟩ u1=I at O |-;have T:(I.setCell ⟨b,2,none⟩ u2).heap[b]?=some (.cells #[u0,u1,u2,E,D] t (0,0)):=zaS (i:=2) O;generalize I.setCell ⟨b,2,none⟩ u2=J at T |-;have U:(J.setCell ⟨b,3,none⟩ u3).heap[b]?=some (.cells #[u0,u1,u2,u3,D] t (0,0)):=zaS (i:=3) T;generalize J.setCell ⟨b,3,none⟩ u3=W3 at U |-;exact zaS (i:=4) U
theorem zlY{b:Nat}(W:World)(u0 u1 u2 u3 u4:Value):zaq (fun x=>x=b) W (((((W.setCell ⟨b,0,none⟩ u0).setCell ⟨b,1,none⟩ u1).setCell ⟨b,2,none⟩ u2).setCell ⟨b,3,none⟩ u3).setCell ⟨b,4,none⟩ u4) :=
 ((((zaq.set (X:=fun x=>x=b) _ _ rfl).trans (zaq.set (X:=fun x=>x=b) _ _ rfl)).trans (zaq.set (X:=fun x=>x=b) _ _ rfl)).trans (zaq.set (X:=fun x=>x=b) _ _ rfl)).trans (zaq.set (X:=fun x=>x=b) _ _ rfl)
theorem zBv{n:Nat}{q:List Ml}(h:zbT n q=0):q.length<=1000/\∀ j,j<q.length->(ml q j).g.length<=1000/\∀ m,m<(ml q j).g.length->(cl (ml q j).g m).ks.length<=1000:=by
 obtain⟨h1,F⟩:=zbJ.1 h;refine⟨by omega,fun j D=>?_⟩;have E:=(F (ml q j) (by rw[ztM D];exact List.getElem_mem D)).2;exact⟨by have:=(zdj E).1;omega,zkK E⟩
theorem zgL(A:WA)(W:Wl)(w:World)(H:zao W)(hW:zeY w A W) :
  yM 39 #[wlV A W] w fun e w' => ∃ s:SD,e=.returned (wlV (s.wa W.fs.length) W)/\Below w.heap.size w w' /\(∀ i,s.q i=none)/\WlC (s.wa W.fs.length) W/\∀ me,me<W.fs.length->SW ⟨w,fun V=>zbX V (s.P me).1 (prg W me)⟩ w'.heap.size me W s (w'.alloc (.cells #[.slice s.a0 W.fs.length s.c0,.slice (some ⟨s.g1,0,none⟩) W.fs.length W.fs.length,.slice (some ⟨s.g2,0,none⟩) W.fs.length W.fs.length,.slice (some ⟨s.g3,0,none⟩) W.fs.length W.fs.length,.slice s.a4 W.pt.length s.c4] 28)):=by
 obtain⟨a0,a1,a2,a3,a4,c0,c1,c2,c3,c4⟩:=A;have hn:=H.fs.few;have D0:Hid (∀ V,Below w.heap.size w V->Calls _ _ _ _ _):=fun V U=>zye a0 c0 W.fs.length (zbw W.fs) V (by omega) (zdY _) (zxI (w:=V) (P:=fun _ _ _=>True) (fun j hj=>by obtain⟨b,o,e,_⟩:=hW.fs j hj;exact⟨b,o,e,trivial⟩)) (zyv (hW.fs.below U)) (zhz _);have D1:Hid (∀ V,Below w.heap.size w V->Calls _ _ _ _ _):=fun V U=>zod a1 c1 W.rs V (by rw[H.lr];omega) (fun i hi=>H.rs i (by rw[<- H.lr];exact hi)) (hW.rs.below U);have D2:Hid (∀ V,Below w.heap.size w V->Calls _ _ _ _ _):=fun V U=>zqB a2 c2 W.ps V (by rw[H.lp];omega) (fun i hi=>H.ps i (by rw[<- H.lp];exact hi)) (hW.ps.below U);have D3:Hid (∀ V,Below w.heap.size w V->Calls _ _ _ _ _):=fun V U=>zoc a3 c3 W.qs V (by rw[H.lq];omega) (fun i hi=>zBv (H.qs i (by rw[<- H.lq];exact hi))) (hW.qs.below U);have D4:Hid (∀ V,Below w.heap.size w V->Calls _ _ _ _ _):=fun V U=>ziY a4 c4 W.pt V H.pt.few (zdt H.pt) (hW.pt.below U)
 have HS:Hid (∀ (M D F I J V5 X:World) (z:Nat),Below w.heap.size w M->Below M.heap.size M D->D.heap[M.heap.size]?=some (.cells (zbw W.fs).toArray 65 (0,0))->Below D.heap.size D F->zaC zzq 50 4 W.rs.length (RRl W.rs) D.heap.size W.rs.length F->Below F.heap.size F I->zaC zyj 34 1 W.ps.length (RPg W.ps) F.heap.size W.ps.length I->Below I.heap.size I J->zaC zyk 51 1 W.qs.length (RQu W.qs) I.heap.size W.qs.length J->Below J.heap.size J V5->zaC zvB 121 5 W.pt.length (RPt W.pt) J.heap.size W.pt.length V5->z<M.heap.size->zaq (fun b=>b=z) V5 X->Below w.heap.size w X->_):=fun M D F I J V5 X z h1 h2 h3 h4 h5 h6 h7 h8 h9 b4 b5 b6 b7 b8=>zxk H h1 h2 h3 h4 h5 h6 h7 h8 h9 b4 b5 b6 b7 b8;dsimp only[wlV];rw[H.lr] at D1 |-;rw[H.lp] at D2 |-;rw[H.lq] at D3 |-;rw[H.lr,H.lp,H.lq] at HS;clear hW hn H;generalize W.fs.length=n at *;generalize W.pt.length=nt at *
 go_enter Tryz.func39,Tryz.ntmps39
 go_wp2_with fail
 obtain⟨M,U⟩:∃ V,(w.alloc (.cells #[.slice a0 n c0,.slice a1 n c1,.slice a2 n c2,.slice a3 n c3,.slice a4 nt c4] 28)).alloc (.cells #[.slice none 0 0,.slice none 0 0,.slice none 0 0,.slice none 0 0,.slice none 0 0] 28)=V:=⟨_,rfl⟩;have XR:Hid _:=zaA (zfF w 28 (.slice a0 n c0) (.slice a1 n c1) (.slice a2 n c2) (.slice a3 n c3) (.slice a4 nt c4)) (zaa _ (.cells #[.slice none 0 0,.slice none 0 0,.slice none 0 0,.slice none 0 0,.slice none 0 0] 28));have XZ:Hid _:=zfF (w.alloc (.cells #[.slice a0 n c0,.slice a1 n c1,.slice a2 n c2,.slice a3 n c3,.slice a4 nt c4] 28)) 28 (.slice none 0 0) (.slice none 0 0) (.slice none 0 0) (.slice none 0 0) (.slice none 0 0);rw[yr] at XZ;have Z:Hid (Below w.heap.size w M):=by rw[<- U];exact zaf _ _ _
 rw[U] at XR XZ |-;clear U;obtain⟨l0,l1,l2,l3,l4,lf,ll⟩:=zal XR.out
 go_region_held3 (fun a5=>a5.cell? ⟨w.heap.size,0,none⟩=some (.slice a0 n c0)/\a5.cell? ⟨w.heap.size,1,none⟩=some (.slice a1 n c1)/\a5.cell? ⟨w.heap.size,2,none⟩=some (.slice a2 n c2)/\a5.cell? ⟨w.heap.size,3,none⟩=some (.slice a3 n c3)/\a5.cell? ⟨w.heap.size,4,none⟩=some (.slice a4 nt c4)) (go_keep) (first|(go_at_call 71;refine ye (D0.out _ Z.out.drew) ?_;rintro e D ⟨rfl,O,T⟩;have B1:Hid (Below M.heap.size M D):=(yk _ _).drew.trans O;have R1:Hid _:=T;have a6:Hid (Below w.heap.size w D):=Z.out.trans (B1.out.mono Z.out.size);have p0:=zab l0 B1.out;have p1:=zab l1 B1.out;have p2:=zab l2 B1.out;have p3:=zab l3 B1.out;have p4:=zab l4 B1.out;clear O T)|(go_at_call 72;refine ye (D1.out _ a6.out) ?_;rintro e F ⟨rfl,O,T⟩;have B2:Hid (Below D.heap.size D F):=O;have R2:Hid _:=T;have a7:Hid (Below w.heap.size w F):=a6.out.trans (B2.out.mono a6.out.size);have q0:=zab p0 B2.out;have q1:=zab p1 B2.out;have q2:=zab p2 B2.out;have q3:=zab p3 B2.out;have q4:=zab p4 B2.out;clear O T)|(go_at_call 74;refine ye (D2.out _ a7.out) ?_;rintro e I ⟨rfl,O,T⟩;have B3:Hid (Below F.heap.size F I):=O;have R3:Hid _:=T;have a8:Hid (Below w.heap.size w I):=a7.out.trans (B3.out.mono a7.out.size);have r0:=zab q0 B3.out;have r1:=zab q1 B3.out;have r2:=zab q2 B3.out;have r3:=zab q3 B3.out;have r4:=zab q4 B3.out;clear O T)|(go_at_call 76;refine ye (D3.out _ a8.out) ?_;rintro e J ⟨rfl,O,T⟩;have B4:Hid (Below I.heap.size I J):=O;have R4:Hid _:=T;have a9:Hid (Below w.heap.size w J):=a8.out.trans (B4.out.mono a8.out.size);have t0:=zab r0 B4.out;have t1:=zab r1 B4.out;have t2:=zab r2 B4.out;have t3:=zab r3 B4.out;have t4:=zab r4 B4.out;clear O T)|(go_at_call 78;refine ye (D4.out _ a9.out) ?_;rintro e V5 ⟨rfl,O,T⟩;have B5:Hid (Below J.heap.size J V5):=O;have R5:Hid _:=T;have b1:Hid (Below w.heap.size w V5):=a9.out.trans (B5.out.mono a9.out.size);have u0:=zab t0 B5.out;have u1:=zab t1 B5.out;have u2:=zab t2 B5.out;have u3:=zab t3 B5.out;have u4:=zab t4 B5.out;clear O T;have b0:Hid _:=zaA (zaA (zaA (zaA (zaA XZ.out B1.out) B2.out) B3.out) B4.out) B5.out;obtain⟨c6,c7,c8,c9,d4,tf,tl⟩:=zal b0.out))
 clear l0 l1 l2 l3 l4 lf ll p0 p1 p2 p3 p4 q0 q1 q2 q3 q4 r0 r1 r2 r3 r4 t0 t1 t2 t3 t4 u0 u1 u2 u3 u4 c6 c7 c8 c9 d4 tf tl;obtain⟨X,hX⟩:∃ X,((((V5.setCell ⟨w.heap.size+1,0,none⟩ (.slice (some ⟨M.heap.size,0,none⟩) n n)).setCell ⟨w.heap.size+1,1,none⟩ (.slice (some ⟨D.heap.size,0,none⟩) n n)).setCell ⟨w.heap.size+1,2,none⟩ (.slice (some ⟨F.heap.size,0,none⟩) n n)).setCell ⟨w.heap.size+1,3,none⟩ (.slice (some ⟨I.heap.size,0,none⟩) n n)).setCell ⟨w.heap.size+1,4,none⟩ (.slice (some ⟨J.heap.size,0,none⟩) nt nt)=X:=⟨_,rfl⟩;have x0:X.heap[w.heap.size+1]?=some (.cells #[.slice (some ⟨M.heap.size,0,none⟩) n n,.slice (some ⟨D.heap.size,0,none⟩) n n,.slice (some ⟨F.heap.size,0,none⟩) n n,.slice (some ⟨I.heap.size,0,none⟩) n n,.slice (some ⟨J.heap.size,0,none⟩) nt nt] 28 (0,0)):=by rw[<- hX];exact zll b0.out
 have xo:zaq (fun b=>b=w.heap.size+1) V5 X:=by rw[<- hX];exact zlY _ _ _ _ _ _
 have xb:Below w.heap.size w X:=by
  rw[<- hX];exact((((b1.out.setCell (by simp) _).setCell (by simp) _).setCell (by simp) _).setCell (by simp) _).setCell (by simp) _
 rw[hX];clear hX;obtain⟨s,es,hq,b2,hs⟩:=HS.out M D F I J V5 X (w.heap.size+1) Z.out B1.out R1.out B2.out R2.out B3.out R3.out B4.out R4.out B5.out R5.out (zaw XZ.out) xo xb;have HH:Hid _:=hs;have HQ:Hid _:=hq;have b3:Hid _:=b2;have XB:Hid (Below w.heap.size w X):=xb;obtain⟨m0,m1,m2,m3,m4,mf,ml⟩:=zal x0;have E:Hid _:=es;clear xo xb x0 R1 R2 R3 R4 R5 B1 B2 B3 B4 B5 a6 a7 a8 a9 b1 Z b0 XZ XR HS D0 D1 D2 D3 D4 hs es hq b2
 go_wp2
 refine yw (v:=.agg #[.slice (some ⟨M.heap.size,0,none⟩) n n,.slice (some ⟨D.heap.size,0,none⟩) n n,.slice (some ⟨F.heap.size,0,none⟩) n n,.slice (some ⟨I.heap.size,0,none⟩) n n,.slice (some ⟨J.heap.size,0,none⟩) nt nt]) (by simp[results,Tryz.results39,go_sem,m0,m1,m2,m3,m4]) rfl ⟨s,?_,XB.out,HQ.out,b3.out,fun me b9=>?_⟩
 ·have:=E.out;simp at this;obtain⟨⟨h1,h2⟩,h3,h4,h5,h6,h7⟩:=this;simp[h1,h2,h3,h4,h5,h6,h7]
 ·have h1:=HH.out me b9;rw[E.out] at h1;exact h1
theorem zuq(x y:Pt):x=y↔(x.o=y.o/\x.t=y.t/\x.m=y.m/\x.s=y.s/\x.cm=y.cm):=by
 constructor
 ·rintro rfl;exact⟨rfl,rfl,rfl,rfl,rfl⟩
 ·obtain⟨a,b,c,d,e⟩:=x;obtain⟨D,E,F,I,J⟩:=y;rintro⟨rfl,rfl,rfl,rfl,rfl⟩;rfl
theorem zoo:zsd 15:=fun x y ka D kc E W J I h1 F=>zjc ka D kc E x y W J I h1 F
theorem zrG:zsg 90:=by
 intro x y ka b0 kc b1 W Z hB h1 U;have E:Hid (x=y↔(x.o=y.o/\x.t=y.t/\x.m=y.m/\x.s=y.s/\x.cm=y.cm)):=zuq x y;have d:=fun(o1 o2:Obj)=>zmE 15 (yK Tryz.func15 (by kernel_rfl) rfl) zoo ka b0 kc b1 x.cm y.cm ((W.alloc o1).alloc o2) Z hB (h1.below (zaf _ _ _)) (U.below (zaf _ _ _));have D:Hid _:=d;clear h1 U d hB;obtain⟨F,J,M,xc,I⟩:=x;obtain⟨yo,yt,ym,yc,O⟩:=y;dsimp only at E D |-;obtain⟨xl,a7⟩:∃ z,xc.length=z:=⟨_,rfl⟩;obtain⟨yl,a8⟩:∃ z,yc.length=z:=⟨_,rfl⟩;rw[a7,a8] at D;rw[a7,a8];clear a7 a8 Z;by_cases h0:F=yo
 ·subst h0;by_cases h1:J=yt
  ·subst h1;by_cases U:M=ym
   ·subst U;by_cases hs:I=O
    ·subst hs;have a9:Hid ((⟨F,J,M,xc,I⟩:Pt)=⟨F,J,M,yc,I⟩↔xc=yc):=(by show _↔_;rw[E.out];simp);clear E
     go_enter Tryz.func90,Tryz.ntmps90
     go_wp2_with fail
     refine ye (D.out _ _) ?_;rintro e w1 ⟨r,rfl,hb,hr⟩;have HB:Hid (Below W.heap.size W w1):=(zaf _ _ _).trans (hb.mono (by simp;omega));have T:Hid _:=hr.trans a9.out.symm;clear hb hr
     go_wp2_with fail
     go_ret;exact⟨r,rfl,HB.out,T.out⟩
    ·have T:Hid (¬ (⟨F,J,M,xc,I⟩:Pt)=⟨F,J,M,yc,O⟩):=fun h=>hs (E.out.1 h).2.2.2.1;have hd:decide (I=O)=false:=yF hs;have a5:(I == O)=false:=by cases I <;> cases O <;> simp_all
     have a6:(I != O)=true:=by cases I <;> cases O <;> simp_all
     clear E
     go_enter Tryz.func90,Tryz.ntmps90
     go_wp2_with fail
     go_ret;exact⟨false,rfl,zaf _ _ _,⟨fun h=>(by cases h),fun h=>absurd h T.out⟩⟩
   ·have T:Hid (¬ (⟨F,J,M,xc,I⟩:Pt)=⟨F,J,ym,yc,O⟩):=fun h=>U (E.out.1 h).2.2.1;have hd:decide (M=ym)=false:=yF U;have a5:(M == ym)=false:=(by simp[U]);have a6:(M != ym)=true:=(by simp[U]);clear E
    go_enter Tryz.func90,Tryz.ntmps90
    go_wp2_with fail
    go_ret;exact⟨false,rfl,zaf _ _ _,⟨fun h=>(by cases h),fun h=>absurd h T.out⟩⟩
  ·have T:Hid (¬ (⟨F,J,M,xc,I⟩:Pt)=⟨F,yt,ym,yc,O⟩):=fun h=>h1 (E.out.1 h).2.1;have hd:decide (J=yt)=false:=yF h1;have a5:(J == yt)=false:=(by simp[h1]);have a6:(J != yt)=true:=(by simp[h1]);clear E
   go_enter Tryz.func90,Tryz.ntmps90
   go_wp2_with fail
   go_ret;exact⟨false,rfl,zaf _ _ _,⟨fun h=>(by cases h),fun h=>absurd h T.out⟩⟩
 ·have T:Hid (¬ (⟨F,J,M,xc,I⟩:Pt)=⟨yo,yt,ym,yc,O⟩):=fun h=>h0 (E.out.1 h).1;have hd:decide (F=yo)=false:=yF h0;have a5:(F == yo)=false:=by simp[h0]
  have a6:(F != yo)=true:=by simp[h0]
  clear E
  go_enter Tryz.func90,Tryz.ntmps90
  go_wp2_with fail
  go_ret;exact⟨false,rfl,zaf _ _ _,⟨fun h=>(by cases h),fun h=>absurd h T.out⟩⟩
theorem zuL(a E:Option Addr)(c F:Nat)(S D:List Pt)(w:World)(U:S.length<=9223372036854775807)(J:znF S)(h1:zcq w a S)(I:zcq w E D) :
  yM 57 #[.slice a S.length c,.slice E D.length F] w fun e w' => ∃ r:Bool,e=.returned (.bool r)/\Below w.heap.size w w' /\(r=true↔S=D):=by
 have O:Hid _:=zmG 90 (yK Tryz.func90 (by kernel_rfl) rfl) zrG a E c F S D w U J h1 I;clear h1 I J;generalize S.length=n at *;generalize D.length=n' at *
 go_enter Tryz.func57,Tryz.ntmps57
 go_wp2_with fail
 refine ye O.out ?_;rintro e w1 ⟨r,rfl,Z,M⟩;have T:Hid _:=M;clear M
 go_wp2_with fail
 go_ret;exact⟨r,rfl,Z,T.out⟩
theorem zup:zvo:=fun a E c F S D w M J h1 I=>zuL a E c F S D w M J h1 I
theorem zyM{S D:List Nd}(hl:S.length=D.length)(h:∀ i,i<S.length->nd S i=nd D i):S=D :=
 List.ext_getElem hl fun i hi E=>by
  have:=h i hi
  rwa [zbf hi,zbf E] at this
theorem ztQ(x y:Nd):x=y↔(x.u=y.u/\x.n=y.n/\x.t=y.t/\x.m=y.m/\x.p=y.p/\x.ks=y.ks/\x.h=y.h/\x.c=y.c):=by
 constructor
 ·rintro rfl;exact⟨rfl,rfl,rfl,rfl,rfl,rfl,rfl,rfl⟩
 ·obtain⟨a1,a2,a3,a4,D,E,F,I⟩:=x;obtain⟨J,M,O,T,U,Z,b7,b8⟩:=y;rintro⟨rfl,rfl,rfl,rfl,rfl,rfl,rfl,rfl⟩;rfl
theorem zpb(x y:Nd)(ka D:Option Addr)(kc F:Nat)(w:World)(E:x.ks.length<=9223372036854775807)(h1:zaj w ka x.ks)(I:zaj w D y.ks) :
  yM 87 #[.agg #[.bool x.u,.int .i64 x.n,.int .i64 x.t,.int .i64 x.m,.int .i64 x.p,.slice ka x.ks.length kc,.int .i64 x.h,.bool x.c],.agg #[.bool y.u,.int .i64 y.n,.int .i64 y.t,.int .i64 y.m,.int .i64 y.p,.slice D y.ks.length F,.int .i64 y.h,.bool y.c]] w fun e w' => ∃ r:Bool,e=.returned (.bool r)/\Below w.heap.size w w' /\(r=true↔x=y):=by
 refine(zio x.u y.u x.n y.n x.t y.t x.m y.m x.p y.p x.ks y.ks ka D kc F x.h y.h x.c y.c w E h1 I).mono ?_;rintro e w' ⟨rfl,J⟩;exact⟨_,rfl,J,by rw[decide_eq_true_iff,ztQ]⟩
theorem zki(a a' : Option Addr)(c c' : Nat)(S D:List Nd)(w:World)(hN:S.length<=9223372036854775807)(hB:Big S)(h1:zai w a S)(h2:zai w a' D) :
  yM 86 #[.slice a S.length c,.slice a' D.length c', .func (.func 87) #[] #[]] w fun e w' => ∃ r:Bool,e=.returned (.bool r)/\Below w.heap.size w w' /\(r=true↔S=D):=by
 have eg:=yK Tryz.func87 (by kernel_rfl) rfl;by_cases hl:S.length=D.length
 ·have E1:Hid ((∀ i,i<S.length->nd S i=nd D i)->S=D):=fun h=>zyM hl h;have E2:Hid (∀ i,nd S i≠nd D i->S≠D):=fun i h e=>h (by rw[e]);have H1:Hid (zai w a S):=h1;have H2:Hid (zai w a' D):=h2;have HB:Hid (Big S):=hB;have HL:Hid (D.length=S.length):=hl.symm;rw[<- hl];clear h1 h2 hB hl;generalize hn:S.length=n at *;have HN:Hid _:=hn;clear hn
  go_enter Tryz.func86,Tryz.ntmps86
  go_wp2
  go_loopg [17] n (fun g s17 wr=>∃ k:Nat,k<=n/\n-k<=g/\s17=.int .i64 k/\Below w.heap.size w wr/\Hid (∀ i,i<k->nd S i=nd D i))
  case atStart=>exact⟨0,by omega,by omega,rfl,yk _ _,fun i hi=>by omega⟩
  case round =>
   obtain⟨k,hk,hg,rfl,E,A⟩:=hrel;by_cases F:k<n
   ·have a8:(k:Int)<(n:Int):=(by omega);obtain⟨b,o,rfl,c0,c1,c2,c3,c4,⟨ka,kc,c5,J⟩,c6,c7⟩:=(H1.out.below E) k (by rw[HN.out];exact F);obtain⟨b', o', rfl,e0,e1,e2,e3,e4,⟨a5,a6,e5,M⟩,e6,e7⟩:=(H2.out.below E) k (by rw[HL.out];exact F);have a9:=yd _ _ c0;have a7:=yd _ _ e0;have d1:=fun o1 o2=>zpb (nd S k) (nd D k) ka a5 kc a6 ((wr.alloc o1).alloc o2) (HB.out k (by rw[HN.out];exact F)) (J.below (zbr _ _ _)) (M.below (zbr _ _ _));have EK:=E2.out k;have T:Hid _:=EK
    have KK:Hid (nd S k=nd D k->∀ i,i<k+1->nd S i=nd D i):=fun h i hi=>by
     by_cases e:i=k
     ·subst e;exact h
     ·exact A.out i (by omega)
    clear EK J M;have D1:Hid _:=d1;clear d1;generalize nd S k=x at *;generalize nd D k=y at *
    go_wp2_with fail
    refine(D1.out _ _).mono ?_;rintro e w3 ⟨r,rfl,I,O⟩
    cases r with
    | true =>
     have Z:Hid _:=O.1 rfl;clear O
     go_wp2
     go_roundg (n-(k+1))
     case measure=>omega
     case rel=>exact⟨k+1,by omega,by omega,by go_num,(E.trans ((zbr _ _ _).mono E.size)).trans (I.mono (by simp;have:=E.size;omega)),KK.out Z.out⟩
    | false =>
     have Z:Hid (S≠D):=T.out fun e=>by have:=O.2 e;cases this
     clear O
     go_wp2
     go_ret;exact⟨false,rfl,(E.trans ((zbr _ _ _).mono E.size)).trans (I.mono (by simp;have:=E.size;omega)),⟨fun h=>(by cases h),fun h=>absurd h Z.out⟩⟩
   ·have:k=n:=(by omega);subst this
    go_wp2
    go_ret;exact⟨true,rfl,E,⟨fun _=>E1.out A.out,fun _=>rfl⟩⟩
 ·have b0:¬ ((S.length:Int)=(D.length:Int)):=by omega
  have U:Hid (S≠D):=fun e=>hl (by rw[e]);clear h1 h2 hB;generalize S.length=n at *;generalize D.length=n' at *
  go_enter Tryz.func86,Tryz.ntmps86
  go_wp2
  go_ret;exact⟨false,rfl,yk _ _,⟨fun h=>(by cases h),fun h=>absurd h U.out⟩⟩
theorem zxa(a E:Option Addr)(c F:Nat)(S D:List Nd)(w:World)(U:S.length<=9223372036854775807)(J:Big S)(h1:zai w a S)(I:zai w E D) :
  yM 48 #[.agg #[.slice a S.length c],.agg #[.slice E D.length F]] w fun e w' => ∃ r:Bool,e=.returned (.bool r)/\Below w.heap.size w w' /\(r=true↔S=D):=by
 have O:Hid _:=fun o1 o2=>zki a E c F S D ((w.alloc o1).alloc o2) U J (h1.below (zbr _ _ _)) (I.below (zbr _ _ _));clear h1 I J;generalize S.length=n at *;generalize D.length=n' at *
 go_enter Tryz.func48,Tryz.ntmps48
 go_wp2_with (go_at_call 86;refine(O.out _ _).mono ?_;rintro e w1 ⟨r,rfl,Z,M⟩;have T:Hid _:=M;clear M)
 go_ret;exact⟨r,rfl,(zbr _ _ _).trans (Z.mono (by simp;omega)),T.out⟩
end Go.Proofs.YtcbcpomacdngmaaGreat
