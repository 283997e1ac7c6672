/-
  x
-/
import Derived.Test.YtcbcpomacdngmaaGreatM39
import Derived.Deep.AppendLies
import Derived.ArgAppend
namespace Go.Proofs.YtcbcpomacdngmaaGreat
set_option maxRecDepth 100000
set_option maxHeartbeats 4000000
set_option linter.unusedVariables false
open Go.RowKit Go.ChangeShapes Go.WideShapes
theorem zwE{w:World}{g:Nat}{L:List Pt}(I:L.length<=12)(E:zxe L)(h:zaA zvl 121 5 L.length (RPt L) g L.length w):zdr w (some ⟨g,0,none⟩) L:=by
 obtain⟨K,lo,hi,c⟩:=zoZ (by omega) h;obtain⟨a,c,e,F⟩:=zuf c.row (fun i D=>(c.gs i D).grs (E i D).1);cases e;exact F
theorem zwU{w T E I J O V5 X:World}{W:Wl}{z:Nat}(H:zan W)(bV:Below w.heap.size w T)(b1:Below T.heap.size T E)(f1:E.heap[T.heap.size]?=some (.cells (zbA W.fs).toArray 65 (0,0)))
  (b2:Below E.heap.size E I) (e2:zaA zza 50 4 W.rs.length (RRl W.rs) E.heap.size W.rs.length I) (b3:Below I.heap.size I J) (e3:zaA zxS 34 1 W.ps.length (RPg W.ps) I.heap.size W.ps.length J) (b4:Below J.heap.size J O) (e4:zaA zxT 51 1 W.qs.length (RQu W.qs) J.heap.size W.qs.length O)
  (b5:Below O.heap.size O V5) (e5:zaA zvl 121 5 W.pt.length (RPt W.pt) O.heap.size W.pt.length V5) (hz:z<T.heap.size) (hX:zar (fun b=>b=z) V5 X) (bX:Below w.heap.size w X) :
  ∃ s:SD,(.cells #[.slice (some ⟨T.heap.size,0,none⟩) W.fs.length W.fs.length,.slice (some ⟨E.heap.size,0,none⟩) W.fs.length W.fs.length,.slice (some ⟨I.heap.size,0,none⟩) W.fs.length W.fs.length,.slice (some ⟨J.heap.size,0,none⟩) W.fs.length W.fs.length,.slice (some ⟨O.heap.size,0,none⟩) W.pt.length W.pt.length] 28:Obj)=.cells #[.slice s.a0 W.fs.length s.c0,.slice (some ⟨s.g1,0,none⟩) W.fs.length W.fs.length,.slice (some ⟨s.g2,0,none⟩) W.fs.length W.fs.length,.slice (some ⟨s.g3,0,none⟩) W.fs.length W.fs.length,.slice s.a4 W.pt.length s.c4] 28/\(∀ i,s.q i=none)/\WlC (s.wa W.fs.length) W/\∀ me,me<W.fs.length->SW ⟨w,fun V=>zbE V (s.P me).1 (prg W me)⟩ X.heap.size me W s (X.alloc (.cells #[.slice (some ⟨T.heap.size,0,none⟩) W.fs.length W.fs.length,.slice (some ⟨E.heap.size,0,none⟩) W.fs.length W.fs.length,.slice (some ⟨I.heap.size,0,none⟩) W.fs.length W.fs.length,.slice (some ⟨J.heap.size,0,none⟩) W.fs.length W.fs.length,.slice (some ⟨O.heap.size,0,none⟩) W.pt.length W.pt.length] 28)):=by
 have sV:=bV.size;have s1:=b1.size;have s2:=b2.size;have s3:=b3.size;have s4:=b4.size;have s5:=b5.size;have s6:=hX.size;have l1:=zau f1;have bY:=zaa X (.cells #[.slice (some ⟨T.heap.size,0,none⟩) W.fs.length W.fs.length,.slice (some ⟨E.heap.size,0,none⟩) W.fs.length W.fs.length,.slice (some ⟨I.heap.size,0,none⟩) W.fs.length W.fs.length,.slice (some ⟨J.heap.size,0,none⟩) W.fs.length W.fs.length,.slice (some ⟨O.heap.size,0,none⟩) W.pt.length W.pt.length] 28);rw[H.lr] at e2;rw[H.lp] at e3;rw[H.lq] at e4;obtain⟨v,lo,hi,F,hF,hv⟩:=e2;obtain⟨v3,d6,d4,F3,a6,a9⟩:=e3;obtain⟨Z,b6,a8,F4,a7,U⟩:=e4;have b9:=hF.lt;have c6:=a6.lt;have c7:=a7.lt;obtain⟨f0,c9,F0,c8,_⟩:∃ x:Nat,x=O.heap.size/\∃ F,V5.rowIs x 121 (W.pt.length*5) F/\True:=by obtain⟨_,_,_,F,hF,_⟩:=e5;exact⟨_,rfl,F,hF,trivial⟩
 subst c9;have e8:=c8.lt;have gk:∀ i,i<W.fs.length->∃ G,St (fun b=>b<b6 i\/a8 i<=b) (QuF (Z i).qa (qu W.qs i) G) O:=fun i D=>(U i D).2.2.2.2.2.at.2.2.2;obtain⟨G,hG⟩:=zwA (P:=fun i G=>St (fun b=>b<b6 i\/a8 i<=b) (QuF (Z i).qa (qu W.qs i) G) O) (fun _=>(none,0)) gk;have oZ:zar (fun b=>b=z) V5 (X.alloc (.cells #[.slice (some ⟨T.heap.size,0,none⟩) W.fs.length W.fs.length,.slice (some ⟨E.heap.size,0,none⟩) W.fs.length W.fs.length,.slice (some ⟨I.heap.size,0,none⟩) W.fs.length W.fs.length,.slice (some ⟨J.heap.size,0,none⟩) W.fs.length W.fs.length,.slice (some ⟨O.heap.size,0,none⟩) W.pt.length W.pt.length] 28)):=hX.trans (zar.of_below bY);have o4:zar (fun b=>b=z) O (X.alloc (.cells #[.slice (some ⟨T.heap.size,0,none⟩) W.fs.length W.fs.length,.slice (some ⟨E.heap.size,0,none⟩) W.fs.length W.fs.length,.slice (some ⟨I.heap.size,0,none⟩) W.fs.length W.fs.length,.slice (some ⟨J.heap.size,0,none⟩) W.fs.length W.fs.length,.slice (some ⟨O.heap.size,0,none⟩) W.pt.length W.pt.length] 28)):=(zar.of_below b5).trans oZ;have o3:zar (fun b=>b=z) J (X.alloc (.cells #[.slice (some ⟨T.heap.size,0,none⟩) W.fs.length W.fs.length,.slice (some ⟨E.heap.size,0,none⟩) W.fs.length W.fs.length,.slice (some ⟨I.heap.size,0,none⟩) W.fs.length W.fs.length,.slice (some ⟨J.heap.size,0,none⟩) W.fs.length W.fs.length,.slice (some ⟨O.heap.size,0,none⟩) W.pt.length W.pt.length] 28)):=(zar.of_below b4).trans o4
 have o2:zar (fun b=>b=z) I (X.alloc (.cells #[.slice (some ⟨T.heap.size,0,none⟩) W.fs.length W.fs.length,.slice (some ⟨E.heap.size,0,none⟩) W.fs.length W.fs.length,.slice (some ⟨I.heap.size,0,none⟩) W.fs.length W.fs.length,.slice (some ⟨J.heap.size,0,none⟩) W.fs.length W.fs.length,.slice (some ⟨O.heap.size,0,none⟩) W.pt.length W.pt.length] 28)):=(zar.of_below b3).trans o3;have o1:zar (fun b=>b=z) E (X.alloc (.cells #[.slice (some ⟨T.heap.size,0,none⟩) W.fs.length W.fs.length,.slice (some ⟨E.heap.size,0,none⟩) W.fs.length W.fs.length,.slice (some ⟨I.heap.size,0,none⟩) W.fs.length W.fs.length,.slice (some ⟨J.heap.size,0,none⟩) W.fs.length W.fs.length,.slice (some ⟨O.heap.size,0,none⟩) W.pt.length W.pt.length] 28)):=(zar.of_below b2).trans o2
 let s:SD:=⟨some ⟨T.heap.size,0,none⟩,W.fs.length,some ⟨O.heap.size,0,none⟩,W.pt.length,E.heap.size,I.heap.size,J.heap.size,fun i=>⟨(v i).sa,(v i).ha,(v i).ia,(v i).ta,(v i).sc,(v i).hc,(v i).ic,(v i).tc⟩,fun i=>((v3 i).pa,(v3 i).pc),fun i=>((Z i).qa,(Z i).qc),G,none,fun _=>none⟩
 have hs:∀ b,SX w.heap.size X.heap.size s b->b<w.heap.size\/b=X.heap.size\/b=E.heap.size\/b=I.heap.size\/b=J.heap.size:=fun b M=>by
  rcases M with h|h|h|h|h|h |⟨i,h⟩
  ·exact .inl h
  ·exact .inr (.inl h)
  ·exact .inr (.inr (.inl h))
  ·exact .inr (.inr (.inr (.inl h)))
  ·exact .inr (.inr (.inr (.inr h)))
  ·cases h
  ·cases h
 have n8:=H.fs.few
 have ra:∀ i,i<W.fs.length->(v i)=⟨(s.R i).a0,(rlm W i).s.length,(s.R i).c0,(s.R i).a1,(rlm W i).hs.length,(s.R i).c1,(s.R i).a2,(rlm W i).i.length,(s.R i).c2,(s.R i).a3,(rlm W i).t.length,(s.R i).c3⟩/\(s.R i).c3=(rlm W i).t.length/\(∃ b,(s.R i).a3=some ⟨b,0,none⟩)/\St (SX w.heap.size X.heap.size s) (fun V=>zdd V (s.R i) (rlm W i)) (X.alloc (.cells #[.slice (some ⟨T.heap.size,0,none⟩) W.fs.length W.fs.length,.slice (some ⟨E.heap.size,0,none⟩) W.fs.length W.fs.length,.slice (some ⟨I.heap.size,0,none⟩) W.fs.length W.fs.length,.slice (some ⟨J.heap.size,0,none⟩) W.fs.length W.fs.length,.slice (some ⟨O.heap.size,0,none⟩) W.pt.length W.pt.length] 28)):=fun i D=>by
  obtain⟨_,h2,h3,h4,_,h6⟩:=hv i D;have b8:∀ b,SX w.heap.size X.heap.size s b->b<lo i\/hi i<=b:=fun b M=>by have:=hs b M;omega
  have h7:St (SX w.heap.size X.heap.size s) (RRl W.rs i (v i) (lo i) (hi i)) (X.alloc (.cells #[.slice (some ⟨T.heap.size,0,none⟩) W.fs.length W.fs.length,.slice (some ⟨E.heap.size,0,none⟩) W.fs.length W.fs.length,.slice (some ⟨I.heap.size,0,none⟩) W.fs.length W.fs.length,.slice (some ⟨J.heap.size,0,none⟩) W.fs.length W.fs.length,.slice (some ⟨O.heap.size,0,none⟩) W.pt.length W.pt.length] 28)):=(h6.off (o2.mono (fun b M=>Or.inl (by have:b=z:=M;omega)))).less b8;obtain⟨A,eA,c3,a3,_⟩:=h7.at
  have eR:s.R i=A:=by
   show (⟨(v i).sa,(v i).ha,(v i).ia,(v i).ta,(v i).sc,(v i).hc,(v i).ic,(v i).tc⟩:RA)=A;rw[eA]
  rw[eR];refine⟨eA,c3,a3,fun V' ho=>?_⟩;obtain⟨A', a5,_,_,h8⟩:=h7 V' ho
  have:A' = A:=by
   rw[eA] at a5;obtain⟨a0,a1,a2,d8,c0,c1,c2,e7⟩:=A';obtain⟨b0,d9,e0,e6,d0,d1,d2,d3⟩:=A;simp at a5;obtain⟨rfl,rfl,rfl,rfl,rfl,rfl,rfl,rfl⟩:=a5;rfl
  rw[this] at h8;exact h8
 have d7:W.pt.length<=12:=H.pt.few
 have d5:WlC (s.wa W.fs.length) W:=by
  refine⟨⟨(fun e=>by cases e),yj _,by show W.fs.length<=9223372036854775807;omega⟩,?_,?_,?_,⟨(fun e=>by cases e),yj _,by show W.pt.length<=9223372036854775807;omega⟩⟩
  ·rw[H.lr];exact⟨(fun e=>by cases e),yj _,by show W.fs.length<=9223372036854775807;omega⟩
  ·rw[H.lp];exact⟨(fun e=>by cases e),yj _,by show W.fs.length<=9223372036854775807;omega⟩
  ·rw[H.lq];exact⟨(fun e=>by cases e),yj _,by show W.fs.length<=9223372036854775807;omega⟩
 refine⟨s,rfl,fun _=>rfl,d5,fun me b7=>SWo.sw ⟨bX.trans (bY.mono bX.size),H,b7,⟨bX.size,by show _<=E.heap.size;omega,by show _<=I.heap.size;omega,by show _<=J.heap.size;omega,by show _≠E.heap.size;omega,by show _≠I.heap.size;omega,by show _≠J.heap.size;omega,by show E.heap.size≠I.heap.size;omega,by show E.heap.size≠J.heap.size;omega,by show I.heap.size≠J.heap.size;omega,(fun b M=>by cases M),(fun i b M=>by cases M)⟩,ziz _ _ _ _ _ _ _,?_,?_,?_,?_⟩⟩
 ·refine yD (hF.of_block (o2.block _ b9 (by show ¬ E.heap.size=z;omega))) (fun j hj=>?_);have h1:=(hv (j / 4) (by omega)).1 (j % 4) (by omega);rw[show j / 4*4+j % 4=j by omega,(ra (j / 4) (by omega)).1] at h1;rw[h1];unfold zoN;rcases(by omega:j % 4=0\/j % 4=1\/j % 4=2\/j % 4=3) with h|h|h|h
  ·rw[h,yb rfl];rfl
  ·rw[h,ya (by decide),yb rfl];rfl
  ·rw[h,ya (by decide),ya (by decide),yb rfl];rfl
  ·rw[h,ya (by decide),ya (by decide),ya (by decide)];rfl
 ·rw[Nat.mul_one] at a6;refine yD (a6.of_block (o3.block _ c6 (by show ¬ I.heap.size=z;omega))) (fun j hj=>?_);have h1:=(a9 j hj).1 0 (by omega);rw[Nat.mul_one,Nat.add_zero] at h1;rw[h1];show Value.slice (v3 j).pa (v3 j).pl (v3 j).pc=_;rw[(a9 j hj).2.2.2.2.2.at.1];rfl
 ·rw[Nat.mul_one] at a7;refine yD (a7.of_block (o4.block _ c7 (by show ¬ J.heap.size=z;omega))) (fun j hj=>?_);have h1:=(U j hj).1 0 (by omega);rw[Nat.mul_one,Nat.add_zero] at h1;rw[h1];show Value.slice (Z j).qa (Z j).ql (Z j).qc=_;rw[(U j hj).2.2.2.2.2.at.1];rfl
 ·have kf:∀ i,i<W.fs.length->∀ b,SX w.heap.size X.heap.size s b->b<b6 i\/a8 i<=b:=fun i D b M=>by
   obtain⟨_,h2,h3,h4,_⟩:=U i D;have:=hs b M;omega
  have kG:∀ i,i<W.fs.length->St (SX w.heap.size X.heap.size s) (QuF (Z i).qa (qu W.qs i) (G i)) (X.alloc (.cells #[.slice (some ⟨T.heap.size,0,none⟩) W.fs.length W.fs.length,.slice (some ⟨E.heap.size,0,none⟩) W.fs.length W.fs.length,.slice (some ⟨I.heap.size,0,none⟩) W.fs.length W.fs.length,.slice (some ⟨J.heap.size,0,none⟩) W.fs.length W.fs.length,.slice (some ⟨O.heap.size,0,none⟩) W.pt.length W.pt.length] 28)):=fun i D=>((hG i D).off (o4.mono (fun b M=>Or.inl (by have:b=z:=M;have:=(U i D).2.1;omega)))).less (kf i D);refine⟨fun V' ho=>?_,⟨(fun e=>by cases e),yj _,by show W.fs.length<=9223372036854775807;omega⟩,fun i D=>?_,fun i D _=>?_,?_,fun i D=>?_,fun i D j hj=>?_,fun i D=>?_,fun V' ho=>?_,⟨(fun e=>by cases e),yj _,by show W.pt.length<=9223372036854775807;have:=H.pt.few;omega⟩⟩
  ·have hr:E.rowIs T.heap.size 65 (W.fs.length*5) (frF W.fs):=zpt f1;refine zhy ((hr.of_block (o1.block _ l1 (by show ¬ T.heap.size=z;omega))).of_block (ho.block _ (by have:=o1.size;omega) (fun M=>?_))) (yj _) (fun _ _=>rfl);have:=hs _ M;omega
  ·exact(ra i D).2.2.2.imp (fun V h=>⟨h.1,h.2.1,h.2.2.1⟩)
  ·exact(ra i D).2.2.2.imp (fun V h=>h.2.2.2)
  ·obtain⟨_,c3,⟨b,a3⟩,h⟩:=ra me b7;refine⟨by simp,.inl ⟨rfl,c3,⟨(fun e=>by rw[a3] at e;cases e),(fun ad e=>by rw[a3] at e;cases e;exact⟨_,_,rfl⟩)⟩,fun V' ho ad e j u hu=>zpo (h V' ho).2.2.2 ad e j u hu⟩⟩
  ·obtain⟨_,h2,h3,h4,_,h6⟩:=a9 i D;exact((h6.off (o3.mono (fun b M=>Or.inl (by have:b=z:=M;omega)))).less (fun b M=>by have:=hs b M;show b<d6 i\/d4 i<=b;omega)).imp (fun V h=>h.2)
  ·exact(kG i D).imp (fun V h=>h.2 j hj)
  ·obtain⟨e1,e2,⟨b,e3⟩,_⟩:=(U i D).2.2.2.2.2.at;exact⟨zfN _ _,.inl ⟨rfl,e2,⟨(fun e=>by have e' :(Z i).qa=none:=e;rw[e3] at e'; cases e'),(fun ad e=>by have e' :(Z i).qa=some ad:=e;rw[e3] at e'; cases e'; exact⟨_,_,rfl⟩)⟩,(kG i D).imp (fun V h=>h.1)⟩⟩
  ·refine zwE H.pt.few (zdw H.pt) (e5.off (oZ.mono ?_ |>.trans (ho.mono ?_)))
   ·intro b M;have:b=z:=M;exact Or.inl (by omega)
   ·intro b M;have:=hs b M;show b<O.heap.size\/V5.heap.size<=b;omega
theorem zaj{W:World}{b t:Nat}{D v1 v2 E F:Value}(h:W.heap[b]?=some (.cells #[D,v1,v2,E,F] t (0,0))):W.cell? ⟨b,0,none⟩=some D/\W.cell? ⟨b,1,none⟩=some v1/\W.cell? ⟨b,2,none⟩=some v2/\W.cell? ⟨b,3,none⟩=some E/\W.cell? ⟨b,4,none⟩=some F/\(∀ o,W.frozen? ⟨b,o,none⟩=false)/\b<W.heap.size :=
 ⟨by simp[World.cell?,h],by simp[World.cell?,h],by simp[World.cell?,h],by simp[World.cell?,h],by simp[World.cell?,h],fun o=>by simp[World.frozen?,h],zau h⟩
theorem ziA{W:World}{b t:Nat}{z0 Z F E D u0 u1 u2 u3 u4:Value}(h:W.heap[b]?=some (.cells #[z0,Z,F,E,D] t (0,0))):(((((W.setCell ⟨b,0,none⟩ u0).setCell ⟨b,1,none⟩ u1).setCell ⟨b,2,none⟩ u2).setCell ⟨b,3,none⟩ u3).setCell ⟨b,4,none⟩ u4).heap[b]?=some (.cells #[u0,u1,u2,u3,u4] t (0,0)):=by
 have M:(W.setCell ⟨b,0,none⟩ u0).heap[b]?=some (.cells #[u0,Z,F,E,D] t (0,0)):=zaG (i:=0) h;generalize W.setCell ⟨b,0,none⟩ u0=W0 at M |-;have O:(W0.setCell ⟨b,1,none⟩ u1).heap[b]?=some (.cells #[u0,u1,F,E,D] t (0,0)):=zaG (i:=1) M;generalize W0.setCell ⟨b,1,none⟩ u1=I at O |-;have T:(I.setCell ⟨b,2,none⟩ u2).heap[b]?=some (.cells #[u0,u1,u2,E,D] t (0,0)):=zaG (i:=2) O;generalize I.setCell ⟨b,2,none⟩ u2=J at T |-;have U:(J.setCell ⟨b,3,none⟩ u3).heap[b]?=some (.cells #[u0,u1,u2,u3,D] t (0,0)):=zaG (i:=3) T;generalize J.setCell ⟨b,3,none⟩ u3=W3 at U |-;exact zaG (i:=4) U
theorem ziJ{b:Nat}(W:World)(u0 u1 u2 u3 u4:Value):zar (fun x=>x=b) W (((((W.setCell ⟨b,0,none⟩ u0).setCell ⟨b,1,none⟩ u1).setCell ⟨b,2,none⟩ u2).setCell ⟨b,3,none⟩ u3).setCell ⟨b,4,none⟩ u4) :=
 ((((zar.set (X:=fun x=>x=b) _ _ rfl).trans (zar.set (X:=fun x=>x=b) _ _ rfl)).trans (zar.set (X:=fun x=>x=b) _ _ rfl)).trans (zar.set (X:=fun x=>x=b) _ _ rfl)).trans (zar.set (X:=fun x=>x=b) _ _ rfl)
theorem zAR{n:Nat}{q:List Ml}(h:zbW n q=0):q.length<=1000/\∀ j,j<q.length->(ml q j).g.length<=1000/\∀ m,m<(ml q j).g.length->(cl (ml q j).g m).ks.length<=1000:=by
 obtain⟨h1,F⟩:=zbs.1 h;refine⟨by omega,fun j D=>?_⟩;have E:=(F (ml q j) (by rw[ztB D];exact List.getElem_mem D)).2;exact⟨by have:=(zcA E).1;omega,zkG E⟩
theorem zgL(A:WA)(W:Wl)(w:World)(H:zan W)(hW:zgb w A W) :
  yL 39 #[wlV A W] w fun e w' => ∃ s:SD,e=.returned (wlV (s.wa W.fs.length) W)/\Below w.heap.size w w' /\(∀ i,s.q i=none)/\WlC (s.wa W.fs.length) W/\∀ me,me<W.fs.length->SW ⟨w,fun V=>zbE V (s.P me).1 (prg W me)⟩ w'.heap.size me W s (w'.alloc (.cells #[.slice s.a0 W.fs.length s.c0,.slice (some ⟨s.g1,0,none⟩) W.fs.length W.fs.length,.slice (some ⟨s.g2,0,none⟩) W.fs.length W.fs.length,.slice (some ⟨s.g3,0,none⟩) W.fs.length W.fs.length,.slice s.a4 W.pt.length s.c4] 28)):=by
 obtain⟨a0,a1,a2,a3,a4,c0,c1,c2,c3,c4⟩:=A;have hn:=H.fs.few;have D0:Hid (∀ V,Below w.heap.size w V->Calls _ _ _ _ _):=fun V U=>zxN a0 c0 W.fs.length (zbA W.fs) V (by omega) (zdY _) (zxt (w:=V) (P:=fun _ _ _=>True) (fun j hj=>by obtain⟨b,o,e,_⟩:=hW.fs j hj;exact⟨b,o,e,trivial⟩)) (zyf (hW.fs.below U)) (zhv _);have D1:Hid (∀ V,Below w.heap.size w V->Calls _ _ _ _ _):=fun V U=>znS a1 c1 W.rs V (by rw[H.lr];omega) (fun i hi=>H.rs i (by rw[<- H.lr];exact hi)) (hW.rs.below U);have D2:Hid (∀ V,Below w.heap.size w V->Calls _ _ _ _ _):=fun V U=>zqp a2 c2 W.ps V (by rw[H.lp];omega) (fun i hi=>H.ps i (by rw[<- H.lp];exact hi)) (hW.ps.below U);have D3:Hid (∀ V,Below w.heap.size w V->Calls _ _ _ _ _):=fun V U=>znR a3 c3 W.qs V (by rw[H.lq];omega) (fun i hi=>zAR (H.qs i (by rw[<- H.lq];exact hi))) (hW.qs.below U);have D4:Hid (∀ V,Below w.heap.size w V->Calls _ _ _ _ _):=fun V U=>ziS a4 c4 W.pt V H.pt.few (zdw H.pt) (hW.pt.below U)
 have HS:Hid (∀ (M D F I J V5 X:World) (z:Nat),Below w.heap.size w M->Below M.heap.size M D->D.heap[M.heap.size]?=some (.cells (zbA W.fs).toArray 65 (0,0))->Below D.heap.size D F->zaA zza 50 4 W.rs.length (RRl W.rs) D.heap.size W.rs.length F->Below F.heap.size F I->zaA zxS 34 1 W.ps.length (RPg W.ps) F.heap.size W.ps.length I->Below I.heap.size I J->zaA zxT 51 1 W.qs.length (RQu W.qs) I.heap.size W.qs.length J->Below J.heap.size J V5->zaA zvl 121 5 W.pt.length (RPt W.pt) J.heap.size W.pt.length V5->z<M.heap.size->zar (fun b=>b=z) V5 X->Below w.heap.size w X->_):=fun M D F I J V5 X z h1 h2 h3 h4 h5 h6 h7 h8 h9 b4 b5 b6 b7 b8=>zwU H h1 h2 h3 h4 h5 h6 h7 h8 h9 b4 b5 b6 b7 b8;dsimp only[wlV];rw[H.lr] at D1 |-;rw[H.lp] at D2 |-;rw[H.lq] at D3 |-;rw[H.lr,H.lp,H.lq] at HS;clear hW hn H;generalize W.fs.length=n at *;generalize W.pt.length=nt at *
 go_enter Tryz.func39,Tryz.ntmps39
 go_wp2_with fail
 obtain⟨M,U⟩:∃ V,(w.alloc (.cells #[.slice a0 n c0,.slice a1 n c1,.slice a2 n c2,.slice a3 n c3,.slice a4 nt c4] 28)).alloc (.cells #[.slice none 0 0,.slice none 0 0,.slice none 0 0,.slice none 0 0,.slice none 0 0] 28)=V:=⟨_,rfl⟩;have XR:Hid _:=zav (ziz w 28 (.slice a0 n c0) (.slice a1 n c1) (.slice a2 n c2) (.slice a3 n c3) (.slice a4 nt c4)) (zaa _ (.cells #[.slice none 0 0,.slice none 0 0,.slice none 0 0,.slice none 0 0,.slice none 0 0] 28));have XZ:Hid _:=ziz (w.alloc (.cells #[.slice a0 n c0,.slice a1 n c1,.slice a2 n c2,.slice a3 n c3,.slice a4 nt c4] 28)) 28 (.slice none 0 0) (.slice none 0 0) (.slice none 0 0) (.slice none 0 0) (.slice none 0 0);rw[yr] at XZ;have Z:Hid (Below w.heap.size w M):=by rw[<- U];exact zam _ _ _
 rw[U] at XR XZ |-;clear U;obtain⟨l0,l1,l2,l3,l4,lf,ll⟩:=zaj XR.out
 go_region_held3 (fun a5=>a5.cell? ⟨w.heap.size,0,none⟩=some (.slice a0 n c0)/\a5.cell? ⟨w.heap.size,1,none⟩=some (.slice a1 n c1)/\a5.cell? ⟨w.heap.size,2,none⟩=some (.slice a2 n c2)/\a5.cell? ⟨w.heap.size,3,none⟩=some (.slice a3 n c3)/\a5.cell? ⟨w.heap.size,4,none⟩=some (.slice a4 nt c4)) (go_keep) (first|(go_at_call 71;refine ye (D0.out _ Z.out.drew) ?_;rintro e D ⟨rfl,O,T⟩;have B1:Hid (Below M.heap.size M D):=(yk _ _).drew.trans O;have R1:Hid _:=T;have a6:Hid (Below w.heap.size w D):=Z.out.trans (B1.out.mono Z.out.size);have p0:=zab l0 B1.out;have p1:=zab l1 B1.out;have p2:=zab l2 B1.out;have p3:=zab l3 B1.out;have p4:=zab l4 B1.out;clear O T)|(go_at_call 72;refine ye (D1.out _ a6.out) ?_;rintro e F ⟨rfl,O,T⟩;have B2:Hid (Below D.heap.size D F):=O;have R2:Hid _:=T;have a7:Hid (Below w.heap.size w F):=a6.out.trans (B2.out.mono a6.out.size);have q0:=zab p0 B2.out;have q1:=zab p1 B2.out;have q2:=zab p2 B2.out;have q3:=zab p3 B2.out;have q4:=zab p4 B2.out;clear O T)|(go_at_call 74;refine ye (D2.out _ a7.out) ?_;rintro e I ⟨rfl,O,T⟩;have B3:Hid (Below F.heap.size F I):=O;have R3:Hid _:=T;have a8:Hid (Below w.heap.size w I):=a7.out.trans (B3.out.mono a7.out.size);have r0:=zab q0 B3.out;have r1:=zab q1 B3.out;have r2:=zab q2 B3.out;have r3:=zab q3 B3.out;have r4:=zab q4 B3.out;clear O T)|(go_at_call 76;refine ye (D3.out _ a8.out) ?_;rintro e J ⟨rfl,O,T⟩;have B4:Hid (Below I.heap.size I J):=O;have R4:Hid _:=T;have a9:Hid (Below w.heap.size w J):=a8.out.trans (B4.out.mono a8.out.size);have t0:=zab r0 B4.out;have t1:=zab r1 B4.out;have t2:=zab r2 B4.out;have t3:=zab r3 B4.out;have t4:=zab r4 B4.out;clear O T)|(go_at_call 78;refine ye (D4.out _ a9.out) ?_;rintro e V5 ⟨rfl,O,T⟩;have B5:Hid (Below J.heap.size J V5):=O;have R5:Hid _:=T;have b1:Hid (Below w.heap.size w V5):=a9.out.trans (B5.out.mono a9.out.size);have u0:=zab t0 B5.out;have u1:=zab t1 B5.out;have u2:=zab t2 B5.out;have u3:=zab t3 B5.out;have u4:=zab t4 B5.out;clear O T;have b0:Hid _:=zav (zav (zav (zav (zav XZ.out B1.out) B2.out) B3.out) B4.out) B5.out;obtain⟨c6,c7,c8,c9,d4,tf,tl⟩:=zaj b0.out))
 clear l0 l1 l2 l3 l4 lf ll p0 p1 p2 p3 p4 q0 q1 q2 q3 q4 r0 r1 r2 r3 r4 t0 t1 t2 t3 t4 u0 u1 u2 u3 u4 c6 c7 c8 c9 d4 tf tl;obtain⟨X,hX⟩:∃ X,((((V5.setCell ⟨w.heap.size+1,0,none⟩ (.slice (some ⟨M.heap.size,0,none⟩) n n)).setCell ⟨w.heap.size+1,1,none⟩ (.slice (some ⟨D.heap.size,0,none⟩) n n)).setCell ⟨w.heap.size+1,2,none⟩ (.slice (some ⟨F.heap.size,0,none⟩) n n)).setCell ⟨w.heap.size+1,3,none⟩ (.slice (some ⟨I.heap.size,0,none⟩) n n)).setCell ⟨w.heap.size+1,4,none⟩ (.slice (some ⟨J.heap.size,0,none⟩) nt nt)=X:=⟨_,rfl⟩;have x0:X.heap[w.heap.size+1]?=some (.cells #[.slice (some ⟨M.heap.size,0,none⟩) n n,.slice (some ⟨D.heap.size,0,none⟩) n n,.slice (some ⟨F.heap.size,0,none⟩) n n,.slice (some ⟨I.heap.size,0,none⟩) n n,.slice (some ⟨J.heap.size,0,none⟩) nt nt] 28 (0,0)):=by rw[<- hX];exact ziA b0.out
 have xo:zar (fun b=>b=w.heap.size+1) V5 X:=by rw[<- hX];exact ziJ _ _ _ _ _ _
 have xb:Below w.heap.size w X:=by
  rw[<- hX];exact((((b1.out.setCell (by simp) _).setCell (by simp) _).setCell (by simp) _).setCell (by simp) _).setCell (by simp) _
 rw[hX];clear hX;obtain⟨s,es,hq,b2,hs⟩:=HS.out M D F I J V5 X (w.heap.size+1) Z.out B1.out R1.out B2.out R2.out B3.out R3.out B4.out R4.out B5.out R5.out (zau XZ.out) xo xb;have HH:Hid _:=hs;have HQ:Hid _:=hq;have b3:Hid _:=b2;have XB:Hid (Below w.heap.size w X):=xb;obtain⟨m0,m1,m2,m3,m4,mf,ml⟩:=zaj x0;have E:Hid _:=es;clear xo xb x0 R1 R2 R3 R4 R5 B1 B2 B3 B4 B5 a6 a7 a8 a9 b1 Z b0 XZ XR HS D0 D1 D2 D3 D4 hs es hq b2
 go_wp2
 refine yv (v:=.agg #[.slice (some ⟨M.heap.size,0,none⟩) n n,.slice (some ⟨D.heap.size,0,none⟩) n n,.slice (some ⟨F.heap.size,0,none⟩) n n,.slice (some ⟨I.heap.size,0,none⟩) n n,.slice (some ⟨J.heap.size,0,none⟩) nt nt]) (by simp[results,Tryz.results39,go_sem,m0,m1,m2,m3,m4]) rfl ⟨s,?_,XB.out,HQ.out,b3.out,fun me b9=>?_⟩
 ·have:=E.out;simp at this;obtain⟨⟨h1,h2⟩,h3,h4,h5,h6,h7⟩:=this;simp[h1,h2,h3,h4,h5,h6,h7]
 ·have h1:=HH.out me b9;rw[E.out] at h1;exact h1
theorem RlO.off{n:Nat}{V D:World}{A:RA}{R:Rl}(h:RlO n V A R)(E:zar (fun b=>b<n) V D):RlO n D A R:=⟨h.a3,h.c3,h.t0,h.tr.of_block (E.block _ h.tr.lt (by have:=h.t0;omega)),h.st.off (E.mono (fun b F=>.inl F))⟩
theorem RlO.mono{n m:Nat}{V:World}{A:RA}{R:Rl}(h:RlO n V A R)(D:m<=n):RlO m V A R:=⟨h.a3,h.c3,yG D h.t0,h.tr,h.st.less (fun b E=>by omega)⟩
theorem SW.own{E:W0}{d me:Nat}{W:Wl}{s:SD}{V:World}(I:SW E d me W s V){N:Nat}{A:RA}{Q:Rl}(M:zaE Q=0)(h:RlO N V A Q)(J:∀ b,SX E.heap.size d s b->b<N){F:World}
  (O:F=(((V.setCell ⟨s.g1,me*4,none⟩ (.slice A.a0 Q.s.length A.c0)).setCell ⟨s.g1,me*4+1,none⟩ (.slice A.a1 Q.hs.length A.c1)).setCell ⟨s.g1,me*4+2,none⟩ (.slice A.a2 Q.i.length A.c2)).setCell ⟨s.g1,me*4+3,none⟩ (.slice A.a3 Q.t.length A.c3)):∃ U,SW E d me (setR W me Q) U F:=by
 refine⟨_,I.realm I.sf M (h.st.less (fun b D=>.inl (J b D))) (fun Z T=>?_) (fun _=>⟨h.c3,fun ad e=>?_⟩) O⟩
 ·rw[h.a3];exact zgX (h.tr.of_block (T.block _ h.tr.lt (fun D=>by have:=J _ D;have:=h.t0;omega)))
 ·rw[h.a3] at e;cases e;exact⟨_,_,rfl⟩
theorem zcx(V:World)(J E F I M:Int):∃ D,V.alloc (.cells #[.int .i64 J,.int .i64 E,.int .i64 F,.int .i64 I,.int .i64 M] 36)=D/\Hid (Below V.heap.size V D)/\D.cell? ⟨V.heap.size,0,none⟩=some (.int .i64 J)/\D.cell? ⟨V.heap.size,1,none⟩=some (.int .i64 E)/\D.cell? ⟨V.heap.size,2,none⟩=some (.int .i64 F)/\D.cell? ⟨V.heap.size,3,none⟩=some (.int .i64 I)/\D.cell? ⟨V.heap.size,4,none⟩=some (.int .i64 M)/\V.heap.size<D.heap.size:=by
 obtain⟨h0,h1,O,T,U,_,hl⟩:=zaj (yK V (.cells #[.int .i64 J,.int .i64 E,.int .i64 F,.int .i64 I,.int .i64 M] 36));exact⟨_,rfl,zaa _ _,h0,h1,O,T,U,hl⟩
def zdM(D:W0)(d me:Nat)(q:Ws)(e:Ending)(V:World):Prop:=∃ (o:Int) (s:SD),e=.returned (.tuple #[.int .i64 o,.int .i64 q.e])/\(q.e=0->o=q.o)/\SW D d me q.w s V
theorem zdM.ok{D:W0}{d me:Nat}{W:Wl}{o:Int}{s:SD}{V:World}(h:SW D d me W s V):zdM D d me ⟨0,W,o⟩ (.returned (.tuple #[.int .i64 o,.int .i64 0])) V:=⟨o,s,rfl,fun _=>rfl,h⟩
theorem zdM.no{F:W0}{d me:Nat}{W:Wl}{E o D:Int}{s:SD}{V:World}(h:SW F d me W s V)(I:E≠0):zdM F d me ⟨E,W,o⟩ (.returned (.tuple #[.int .i64 D,.int .i64 E])) V:=⟨D,s,rfl,fun h=>absurd h I,h⟩
def zhn(K:Nat)(D:Array Value)(C:World->Prop)(me:Nat)(W:Wl)(x:Ac)(q:Ws):Prop:=∀ (E:W0) (d:Nat) (s:SD) (V:World),SW E d me W s V->C V ->
 yL K (#[.pointer (some ⟨d,0,none⟩),.int .i64 (me:Int),acV x] ++ D) V (zdM E d me q)
theorem zAi(Es:List Int)(W V:Wl)(o:Int):(zeN Es W V o).e=zao Es:=by
 unfold zeN;split
 ·rename_i h;exact h.symm
 ·rfl
theorem zyM{Es:List Int}(W V:Wl)(o:Int)(h:zao Es=0):(zeN Es W V o).w=V/\(zeN Es W V o).o=o:=by unfold zeN;rw[yb h];exact⟨rfl,rfl⟩
theorem zyL{Es:List Int}(W V:Wl)(o:Int)(h:zao Es≠0):(zeN Es W V o).w=W:=by unfold zeN;rw[ya h]
theorem zkD(E:Int):zao [E]=E:=by
 show (if E=0 then 0 else E)=E;split
 ·omega
 ·rfl
def QIs(q:Ws)(E:Int)(W V:Wl)(o:Int):Prop:=q.e=E/\(E=0->q.w=V/\q.o=o)/\(E≠0->q.w=W)
theorem zeO(Es:List Int)(W V:Wl)(o:Int):QIs (zeN Es W V o) (zao Es) W V o:=⟨zAi _ _ _ _,fun h=>zyM _ _ _ h,fun h=>zyL _ _ _ h⟩
theorem zpJ{b n:Nat}(D:b<n)(W:World)(u0 u1 u2 u3:Value):zar (fun x=>x<n) W ((((W.setCell ⟨b,0,none⟩ u0).setCell ⟨b,1,none⟩ u1).setCell ⟨b,2,none⟩ u2).setCell ⟨b,3,none⟩ u3) :=
 (((zar.set (X:=fun x=>x<n) _ _ D).trans (zar.set (X:=fun x=>x<n) _ _ D)).trans (zar.set (X:=fun x=>x<n) _ _ D)).trans (zar.set (X:=fun x=>x<n) _ _ D)
theorem zxI{W:World}{b t:Nat}{D v1 v2 E:Value}(h:W.heap[b]?=some (.cells #[D,v1,v2,E] t (0,0))):W.cell? ⟨b,0,none⟩=some D/\W.cell? ⟨b,1,none⟩=some v1/\W.cell? ⟨b,2,none⟩=some v2/\W.cell? ⟨b,3,none⟩=some E/\b<W.heap.size :=
 ⟨by simp[World.cell?,h],by simp[World.cell?,h],by simp[World.cell?,h],by simp[World.cell?,h],zau h⟩
theorem SW.rat{F:W0}{d me:Nat}{W:Wl}{s:SD}{V:World}(I:SW F d me W s V){i:Nat}(hi:i<W.fs.length):zdd V (s.R i) (rlm W i):=by
 obtain⟨h1,D,E⟩:=(I.dp.rl i hi).at;refine⟨h1,D,E,?_⟩;by_cases e:i=me
 ·subst e;exact zlh I.dp.ts
 ·exact(I.dp.tl i hi e).at
theorem SW.rcells{D:W0}{d me:Nat}{W:Wl}{s:SD}{V:World}(I:SW D d me W s V){i:Nat}(hi:i<W.fs.length):V.cell? ⟨s.g1,i*4,none⟩=some (.slice (s.R i).a0 (rlm W i).s.length (s.R i).c0)/\V.cell? ⟨s.g1,i*4+1,none⟩=some (.slice (s.R i).a1 (rlm W i).hs.length (s.R i).c1)/\V.cell? ⟨s.g1,i*4+2,none⟩=some (.slice (s.R i).a2 (rlm W i).i.length (s.R i).c2)/\V.cell? ⟨s.g1,i*4+3,none⟩=some (.slice (s.R i).a3 (rlm W i).t.length (s.R i).c3)/\(∀ o,V.frozen? ⟨s.g1,o,none⟩=false)/\s.g1<V.heap.size :=
 ⟨by rw[I.r1.cell (by omega),zik],by rw[I.r1.cell (by omega),zil],by rw[I.r1.cell (by omega),zjw],by rw[I.r1.cell (by omega),zjx],fun o=>I.r1.frozen o,I.r1.lt⟩
theorem zvt(me:Nat)(W:Wl)(x:Ac):zhn 124 #[] (fun _=>True) me W x (wDo W me x):=fun w0 d s V I _=>by
 have QI:=zeO [(doF (rlm W me) x).e] W (setR W me (doF (rlm W me) x).r) (doF (rlm W me) x).o;rw[zkD] at QI;change QIs (wDo W me x) _ _ _ _ at QI;obtain⟨xk,Z,xb,xc,xn⟩:=x;have II:Hid (SW w0 d me W s V):=I;have b0:=I.lt;have b1:Hid _:=b0;obtain⟨l0,l1,l2,l3,l4,lf,ll⟩:=zaj I.box;have d7:d<V.heap.size:=ll;have n8:W.fs.length<=8:=I.rt.fs.few;have c8:me<W.fs.length:=I.sf;clear b0;have a7:=zdU (I.rt.rs me I.sf);have D:Hid (∀ V2,Below V.heap.size V V2->Calls _ _ _ _ _):=fun V2 hV=>zxU (s.R me) (rlm W me) ⟨xk,Z,xb,xc,xn⟩ V2 a7 ((I.rat I.sf).below hV);obtain⟨k0,k1,k2,k3,kf,kl⟩:=I.rcells I.sf;have RK:Hid ((doF (rlm W me) ⟨xk,Z,xb,xc,xn⟩).e=0->zaE (doF (rlm W me) ⟨xk,Z,xb,xc,xn⟩).r=0):=fun h=>(znT h).2.2;dsimp only[rlV,acV] at D;clear a7;show yL _ #[.pointer (some ⟨d,0,none⟩),.int .i64 (me:Int),.agg #[.int .i64 xk,.int .i64 Z,.int .i64 xb,.int .i64 xc,.int .i64 xn]] V _;obtain⟨n,hn⟩:∃ n,W.fs.length=n:=⟨_,rfl⟩;have HN:Hid (W.fs.length=n):=hn;obtain⟨nt,a5⟩:∃ n,W.pt.length=n:=⟨_,rfl⟩;have d5:Hid (W.pt.length=nt):=a5;rw[a5] at l4;rw[hn] at l0 l1 l2 l3 n8 c8;clear hn a5 I;generalize doF (rlm W me) ⟨xk,Z,xb,xc,xn⟩=q at *;obtain⟨E,r,o⟩:=q;dsimp only at D RK QI;generalize wDo W me ⟨xk,Z,xb,xc,xn⟩=q at *;obtain⟨qe,qw,qo⟩:=q;obtain⟨a8,Q0,Q1⟩:=QI;dsimp only at a8 Q0 Q1 |-;subst a8;have Q0:Hid _:=Q0;have Q1:Hid _:=Q1;generalize (rlm W me).s.length=r0 at *;generalize (rlm W me).hs.length=r1 at *;generalize (rlm W me).i.length=r2 at *;generalize (rlm W me).t.length=r3 at *;have d4:(me:Int)<(n:Int):=by omega
 go_enter Tryz.func124,Tryz.ntmps124
 go_upto_region 1 with fail
 obtain⟨J,a6,O,y0,y1,y2,y3,y4,sV⟩:=zcx V xk Z xb xc xn;rw[a6];clear a6;replace l0:=zab l0 O.out;replace l1:=zab l1 O.out;replace l2:=zab l2 O.out;replace l3:=zab l3 O.out;replace l4:=zab l4 O.out;replace k0:=zab k0 O.out;replace k1:=zab k1 O.out;replace k2:=zab k2 O.out;replace k3:=zab k3 O.out;have n0:¬ J.heap.size=d:=by omega
 have o0:¬ d=J.heap.size:=by omega
 have n1:¬ J.heap.size=s.g1:=by omega
 have o1:¬ s.g1=J.heap.size:=by omega
 have n2:¬ J.heap.size=V.heap.size:=by omega
 have o2:¬ V.heap.size=J.heap.size:=by omega
 have d8:d<J.heap.size:=by omega
 have d9:s.g1<J.heap.size:=by omega
 go_cut [8,9,10] (fun s8 s9 s10 wx=>∃ (b:Nat) (B:RA),s8=.pointer (some ⟨b,0,none⟩)/\s9=.int .i64 o/\s10=.int .i64 qe/\Hid (Below J.heap.size J wx)/\Hid (wx.heap[b]?=some (.cells #[.slice B.a0 r.s.length B.c0,.slice B.a1 r.hs.length B.c1,.slice B.a2 r.i.length B.c2,.slice B.a3 r.t.length B.c3] 50 (0,0)))/\J.heap.size<=b/\Hid (qe=0->RlO J.heap.size wx B r))
 case first =>
  go_region_held3 (fun M=>M.cell? ⟨d,1,none⟩=some (.slice (some ⟨s.g1,0,none⟩) n n)/\M.cell? ⟨s.g1,me*4,none⟩=some (.slice (s.R me).a0 r0 (s.R me).c0)/\M.cell? ⟨s.g1,me*4+1,none⟩=some (.slice (s.R me).a1 r1 (s.R me).c1)/\M.cell? ⟨s.g1,me*4+2,none⟩=some (.slice (s.R me).a2 r2 (s.R me).c2)/\M.cell? ⟨s.g1,me*4+3,none⟩=some (.slice (s.R me).a3 r3 (s.R me).c3)/\M.cell? ⟨V.heap.size,0,none⟩=some (.int .i64 xk)/\M.cell? ⟨V.heap.size,1,none⟩=some (.int .i64 Z)/\M.cell? ⟨V.heap.size,2,none⟩=some (.int .i64 xb)/\M.cell? ⟨V.heap.size,3,none⟩=some (.int .i64 xc)/\M.cell? ⟨V.heap.size,4,none⟩=some (.int .i64 xn)) (go_keep) (first|(go_at_call 148;refine ye (D.out J.drew O.out.drew) ?_;rintro e w3 ⟨B,rfl,T,_,U⟩;have F:Hid (Below J.heap.size J w3):=(yk _ _).drew.trans T;have O3:Hid (qe=0->RlO J.heap.size w3 B r):=U;have b6:=zab l1 F.out;have b2:=zab k0 F.out;have b3:=zab k1 F.out;have b4:=zab k2 F.out;have b5:=zab k3 F.out;have b7:=zab y0 F.out;have b8:=zab y1 F.out;have b9:=zab y2 F.out;have c6:=zab y3 F.out;have c7:=zab y4 F.out;clear T U)|(go_at_call 148;refine ye (D.out (J.alloc (.cells #[.slice none 0 0,.slice none 0 0,.slice none 0 0,.slice none 0 0] 50)).drew (O.out.trans ((zaa J _).mono O.out.size)).drew) ?_;rintro e w3 ⟨B,rfl,T,_,U⟩;have F:Hid (Below J.heap.size J w3):=(zaa J _).drew.trans (T.mono (by simp));have O3:Hid (qe=0->RlO (J.heap.size+1) w3 B r):=(by have h:=U;simp only[yr,World.size_drew] at h;exact h);have b6:=zab l1 F.out;have b2:=zab k0 F.out;have b3:=zab k1 F.out;have b4:=zab k2 F.out;have b5:=zab k3 F.out;have b7:=zab y0 F.out;have b8:=zab y1 F.out;have b9:=zab y2 F.out;have c6:=zab y3 F.out;have c7:=zab y4 F.out;have X3:Hid (w3.heap[J.heap.size]?=some (.cells #[.slice none 0 0,.slice none 0 0,.slice none 0 0,.slice none 0 0] 50 (0,0))):=zav (W:=(J.alloc (.cells #[.slice none 0 0,.slice none 0 0,.slice none 0 0,.slice none 0 0] 50)).drew) (yK J _) T;obtain⟨x0,x1,x2,x3,xf,xl⟩:=zai X3.out;clear T U))
  ·go_wp2_with fail
   go_meet
   case rel=>exact⟨_,B,rfl,rfl,rfl,F.out.trans ((zaa _ _).mono F.out.size),zcd _ _ _ _ _ _,F.out.size,fun h=>(O3.out h).off (zar.of_below (zaa _ _))⟩
  ·go_wp2_with fail
   go_meet
   case rel=>exact⟨_,B,rfl,rfl,rfl,(((F.out.setCell (yj _) _).setCell (yj _) _).setCell (yj _) _).setCell (yj _) _,zcN X3.out,yj _,fun h=>((O3.out h).off (zpJ (Nat.lt_succ_self _) _ _ _ _ _)).mono (Nat.le_succ _)⟩
 case rest =>
  obtain⟨b,B,rfl,rfl,rfl,HB,HX,d6,HO⟩:=hcut;have I2:Hid _:=II.out.below (O.out.trans (HB.out.mono O.out.size));obtain⟨e6,c9,e7,e8,e9,g0,g4⟩:=zaj I2.out.box;rw[HN.out] at c9;obtain⟨e0,e1,e2,e3,e4,e5⟩:=I2.out.rcells I2.out.sf;obtain⟨m0,m1,m2,m3,ml⟩:=zxI HX.out;clear l0 l1 l2 l3 l4 k0 k1 k2 k3 D y0 y1 y2 y3 y4;have ng:¬ s.g1=b:=by omega
  have g6:¬ b=s.g1:=by omega
  have nd:¬ d=b:=by omega
  have g5:¬ b=d:=by omega
  by_cases hE:qe=0
  ·subst hE;obtain⟨rfl,rfl⟩:=Q0.out rfl;obtain⟨s', a9⟩:=I2.out.own (RK.out rfl) (HO.out rfl) (fun b hb=>yx (b1.out b hb) O.out.size) rfl;have HS:Hid _:=a9;clear a9
   go_wp2_with fail
   go_region
   go_wp2
   exact yv (v:=.tuple #[.int .i64 qo,.int .i64 0]) (by simp[results,Tryz.results124,go_sem]) rfl (zdM.ok (HS.out.below (yk _ _).drew))
  ·obtain rfl:=Q1.out hE;have hz:(qe == 0)=false:=by simp[hE]
   go_wp2
   exact yv (v:=.tuple #[.int .i64 0,.int .i64 qe]) (by simp[results,Tryz.results124,go_sem]) rfl (zdM.no I2.out hE)
def N1:List Fr:=[⟨-1,0,7,0,false⟩,⟨0,1,7,0,false⟩]
def N3:List Fr:=[⟨-1,0,7,0,false⟩,⟨0,5,7,1,false⟩,⟨1,1,7,0,true⟩]
def mkF(R:Rl)(m h k j:Nat):Value :=
 if j=0 then .int .i64 (m:Int) else if j=1 then .slice (some ⟨h,0,none⟩) m m
 else if j % 2=0 then (if j / 2-1<k then .int .i64 (nd R.s (hd R ((j / 2-1:Nat):Int)).1.toNat).m else .int .i64 0) else .slice none 0 0
def kdF(k j:Nat):Value:=if j<k then .int .i64 ((j:Int)+1) else .int .i64 0
structure MkI (w:World) (A:RA) (R:Rl) (m k:Nat) (V:World):Prop where
 bel:Below w.heap.size w V
 r:V.heap[w.heap.size]?=some (.cells #[.slice A.a0 R.s.length A.c0,.slice A.a1 R.hs.length A.c1,.slice A.a2 R.i.length A.c2,.slice A.a3 R.t.length A.c3] 50 (0,0))
 z:V.heap[w.heap.size+1]?=some (.cells #[.slice none 0 0] 47 (0,0))
 g:V.rowIs (w.heap.size+1+1) 55 ((m+1)*2) (mkF R m (w.heap.size+1+1+1) k)
 h:V.rowIs (w.heap.size+1+1+1) 3 m (kdF k)
 ok:∀ i:Nat,i<k->zaC R.s (hd R i).1 (hd R i).2=0
theorem MkI.below{w:World}{A:RA}{R:Rl}{m k:Nat}{V E:World}(I:MkI w A R m k V)(D:Below V.heap.size V E):MkI w A R m k E:=⟨I.bel.trans (D.mono I.bel.size),zav I.r D,zav I.z D,I.g.of_block (D.block _ I.g.lt),I.h.of_block (D.block _ I.h.lt),I.ok⟩
theorem MkI.step{w:World}{A:RA}{R:Rl}{m k:Nat}{V:World}(I:MkI w A R m k V)(hk:k<m)(U:zaC R.s (hd R k).1 (hd R k).2=0):MkI w A R m (k+1) (((V.setCell ⟨w.heap.size+1+1+1,k,none⟩ (.int .i64 ((k:Int)+1))).setCell ⟨w.heap.size+1+1,(k+1)*2,none⟩ (.int .i64 (nd R.s (hd R (k:Int)).1.toNat).m)).setCell ⟨w.heap.size+1+1,(k+1)*2+1,none⟩ (.slice none 0 0)):=by
 have h0:∀ b,b≠w.heap.size+1+1->b≠w.heap.size+1+1+1->(((V.setCell ⟨w.heap.size+1+1+1,k,none⟩ (.int .i64 ((k:Int)+1))).setCell ⟨w.heap.size+1+1,(k+1)*2,none⟩ (.int .i64 (nd R.s (hd R (k:Int)).1.toNat).m)).setCell ⟨w.heap.size+1+1,(k+1)*2+1,none⟩ (.slice none 0 0)).heap[b]?=V.heap[b]?:=fun b h1 T=>by
  rw[ys _ _ _ _ h1,ys _ _ _ _ h1,ys _ _ _ _ T]
 refine⟨((I.bel.setCell (by simp;omega) _).setCell (by simp;omega) _).setCell (by simp;omega) _,(h0 _ (by omega) (by omega)).trans I.r,(h0 _ (by omega) (by omega)).trans I.z,?_,?_,fun i hi=>?_⟩
 ·refine yD (((I.g.setOther (by simp) _).set ((k+1)*2) _).set ((k+1)*2+1) _) (fun j Z=>?_);unfold mkF;by_cases M:j=(k+1)*2+1
  ·rw[yb M,ya (by omega),ya (by omega),ya (by omega)]
  ·rw[ya M];by_cases D:j=(k+1)*2
   ·rw[yb D,ya (by omega),ya (by omega),yb (by omega),show j / 2-1=k by omega,yb (by omega)]
   ·rw[ya D];by_cases E:j=0
    ·rw[yb E,yb E]
    ·rw[ya E,ya E];by_cases F:j=1
     ·rw[yb F,yb F]
     ·rw[ya F,ya F];by_cases J:j % 2=0
      ·rw[yb J,yb J];by_cases O:j / 2-1<k
       ·rw[yb O,yb (by omega)]
       ·rw[ya O,ya (by omega)]
      ·rw[ya J,ya J]
 ·refine yD (((I.h.set k _).setOther (by simp) _).setOther (by simp) _) (fun j Z=>?_);unfold kdF;by_cases e:j=k
  ·subst e;rw[yb rfl,yb (by omega)]
  ·rw[ya e];by_cases D:j<k
   ·rw[yb D,yb (by omega)]
   ·rw[ya D,ya (by omega)]
 ·by_cases e:i=k
  ·rw[e];exact U
  ·exact I.ok i (by omega)
theorem zty{R:Rl}{n:Int}(h:¬ (0<=n/\n<=8)):zbk R n=2:=ya h
theorem ztx{R:Rl}{m:Nat}(E:m<=8)(h:∀ i:Nat,i<m->zaC R.s (hd R i).1 (hd R i).2=0):zbk R m=0:=by
 have key:∀ n,n<=m->zcq R n=0:=fun n=>by
  induction n with
  | zero=>intro _;rfl
  | succ n D=>intro hn;unfold zcq;rw[yb (D (by omega))];exact h n (by omega)
 unfold zbk;rw[yb (by omega),yi];exact key m (yj _)
theorem zwq{R:Rl}{m k:Nat}(J:m<=8)(M:k<m)(h:∀ i:Nat,i<k->zaC R.s (hd R i).1 (hd R i).2=0)(F:zaC R.s (hd R k).1 (hd R k).2≠0):zbk R m=zaC R.s (hd R k).1 (hd R k).2:=by
 have key:∀ n,n<=k->zcq R n=0:=fun n=>by
  induction n with
  | zero=>intro _;rfl
  | succ n E=>intro hn;unfold zcq;rw[yb (E (by omega))];exact h n (by omega)
 have I:zcq R (k+1)=zaC R.s (hd R k).1 (hd R k).2:=by unfold zcq;rw[yb (key k (yj _))]
 have D:∀ n,zcq R (k+1+n)=zaC R.s (hd R k).1 (hd R k).2:=fun n=>by
  induction n with
  | zero=>exact I
  | succ n E=>show (if zcq R (k+1+n)=0 then _ else zcq R (k+1+n))=_;rw[E,ya F]
 unfold zbk;rw[yb (by omega),yi,show m=k+1+(m-k-1) by omega];exact D _
def mkG(R:Rl)(n:Int):List Cl:=if zbk R n=0 then zaW R n.toNat else []
theorem zyE{P:Program}(w:World)(t ty:TypeId)(e:TypeId)(i:TypeInfo)(z:Value)(size bytes:Nat)(ht:P.underlying t=some (.slice e))(hi:P.info? e=some i)(hz:i.zero=some z)
  (F:i.size=size) (J:i.bytes=bytes) (O:z.cells.size=size) (M:0<size)
  {X:Nat->Prop} {B:Nat} (av:Option Addr) (n cv:Nat) (Z:List Value) (tt:Option Nat) (hA:App X B e size av n cv Z tt w) (hB:B<=w.heap.size)
  (T:Addr) (m c:Nat) (news:List Value) (hl:news.length=m*size) (E:∀ j u,news[j]?=some u->w.cell? (T.add j)=some u) (h1:∀ u ∈ news,u.oneCell' = true)
  (hm:0<m) (I:n+m<=maxLen) (D:(n+m)*bytes<=140737488355328) :
  ∃ g cap w',(Builtin.append_ #[t,t] ty #[.slice av n cv,.slice (some T) m c]).run P w=.ok (.slice (some ⟨g,0,none⟩) (n+m) cap) w' /\
   w'.ownsRow B e size (.slice (some ⟨g,0,none⟩) (n+m) cap) (n+m) (Z++news)/\w.grownBy w' tt/\(tt=some g\/w.heap.size<=g)/\g<w'.heap.size:=by
 rcases hA.2 with ⟨rfl,rfl,h3,h4⟩ |⟨b,rfl,rfl,h3⟩
 ·cases av with
  | some b =>
   obtain⟨v', w', U,r1,r2⟩:=run_append_arg_grows (P:=P) w t ty e i z size bytes ht hi hz F J O M b cv cv Z hA.1 (h4.at b rfl) T m c news hl E (by omega) I D;obtain⟨g,cap,rfl,h5,h6⟩:=r1.form (by omega);exact⟨g,cap,w', U,zaV r1 hB,r2,.inr h5,h6⟩
  | none =>
   obtain rfl:=h3.1 rfl;obtain rfl:Z=[]:=List.eq_nil_of_length_eq_zero (by simpa using hA.1);obtain⟨g,cap,w', U,r1,r2,r3,r4⟩:=run_append_lies (P:=P) w t ty w.heap.size e i z size bytes ht hi hz F J O M (.slice none 0 0) 0 [] (World.ownsRow_nil w _ e size) T m c news hl E h1 hm I D (yj _) _ rfl;refine⟨g,cap,w', U,zaV r1 hB,r2,?_,r4⟩;rcases r3 with r3|r3
   ·cases r3
   ·exact .inr (by omega)
 ·obtain⟨g,cap,w', U,r1,r2,r3,r4⟩:=run_append_lies (P:=P) w t ty B e i z size bytes ht hi hz F J O M (.slice (some ⟨b,0,none⟩) n cv) n Z h3 T m c news hl E h1 hm I D hB _ rfl;refine⟨g,cap,w', U,r1,r2,?_,r4⟩;rcases r3 with r3|r3
  ·exact .inl r3
  ·exact .inr (by omega)
theorem zAk{P:Program}(w:World){o:Oper}{a:Act}{K:Act->World->Prop}{Q:Exit->Act->World->Prop}(s x:Operand)(t:TypeId)
  (ho:o.op=.call { callee:=.builtin .append,args:=#[s,x],argTypes:=#[t,t] })
  (e:TypeId) (i:TypeInfo) (z:Value) (size bytes:Nat) (ht:P.underlying t=some (.slice e)) (hi:P.info? e=some i) (hz:i.zero=some z)
  (F:i.size=size) (O:i.bytes=bytes) (U:z.cells.size=size) (T:0<size)
  {X:Nat->Prop} {B:Nat} (J:Option Addr) (n cv:Nat) (Z:List Value) (tt:Option Nat) (hA:App X B e size J n cv Z tt w) (hB:B<=w.heap.size) (hs:a.eval s=.slice J n cv)
  (I:Addr) (m c:Nat) (news:List Value) (hx:a.eval x=.slice (some I) m c) (hl:news.length=m*size) (E:∀ j u,news[j]?=some u->w.cell? (I.add j)=some u) (h1:∀ u ∈ news,u.oneCell' = true)
  (hm:0<m) (M:n+m<=maxLen) (D:(n+m)*bytes<=140737488355328)
  (h:∀ g cap w', w'.ownsRow B e size (.slice (some ⟨g,0,none⟩) (n+m) cap) (n+m) (Z++news)->w.grownBy w' tt->(tt=some g\/w.heap.size<=g)->g<w'.heap.size->K (a.put o.dst (.slice (some ⟨g,0,none⟩) (n+m) cap)) w'):o.wp P a w K Q:=by
 obtain⟨g,cap,w', hr,h2,h3,h4,h5⟩:=zyE (P:=P) w t o.type e i z size bytes ht hi hz F O U T J n cv Z tt hA hB I m c news hl E h1 hm M D;unfold Oper.wp execOp;simp only[ho,resolve,invoke,builtin,Sem.run_bind,Sem.run_pure,Result.andThen_ok,List.map_toArray,List.map_cons,List.map_nil,hs,hx,hr];exact h g cap w' h2 h3 h4 h5
theorem zlX{P:Program}(w:World){ops:Array Oper}{o:Oper}{a:Act}{K:Act->World->Prop}{Q:Exit->Act->World->Prop}{E:Prop}(U:o.guard=none)(s x:Operand)(t:TypeId)
  (ho:o.op=.call { callee:=.builtin .append,args:=#[s,x],argTypes:=#[t,t] })
  (e:TypeId) (i:TypeInfo) (z:Value) (size bytes:Nat) (ht:P.underlying t=some (.slice e)) (hi:P.info? e=some i) (hz:i.zero=some z)
  (I:i.size=size) (T:i.bytes=bytes) (a5:z.cells.size=size) (Z:0<size)
  {X:Nat->Prop} {B:Nat} (M:Option Addr) (n cv:Nat) (xs:List Value) (tt:Option Nat) (hA:App X B e size M n cv xs tt w) (hB:B<=w.heap.size) (hs:a.eval s=.slice M n cv)
  (J:Addr) (m c:Nat) (news:List Value) (hx:a.eval x=.slice (some J) m c) (hl:news.length=m*size) (F:∀ j u,news[j]?=some u->w.cell? (J.add j)=some u) (h1:∀ u ∈ news,u.oneCell' = true)
  (hm:0<m) (O:n+m<=maxLen) (D:(n+m)*bytes<=140737488355328)
  (h:∀ g cap w', w'.ownsRow B e size (.slice (some ⟨g,0,none⟩) (n+m) cap) (n+m) (xs++news)->w.grownBy w' tt->(tt=some g\/w.heap.size<=g)->g<w'.heap.size->K (a.put o.dst (.slice (some ⟨g,0,none⟩) (n+m) cap)) w') :
  if Region.wanted o (yielded ops a.tmps)=true then Oper.wp P o a w K Q else E:=by
 have hw:Region.wanted o (yielded ops a.tmps)=true:=by simp[Region.wanted,U]
 rw[yb hw];exact zAk w s x t ho e i z size bytes ht hi hz I T a5 Z M n cv xs tt hA hB hs J m c news hx hl F h1 hm O D h
end Go.Proofs.YtcbcpomacdngmaaGreat
