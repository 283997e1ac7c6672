/-
  x
-/
import Derived.Test.YtcbcpomacdngmaaGreatA38
import Derived.Deep.AppendLies
import Derived.ArgAppend
namespace Go.Proofs.YtcbcpomacdngmaaGreat
set_option maxRecDepth 100000
set_option maxHeartbeats 4000000
set_option linter.unusedVariables false
open Go.RowKit Go.ChangeShapes Go.WideShapes Tryz
variable{b B t:Nat}{X:Nat->Prop}{w W:Wd}{D E F:Value}
theorem Wn{g:Nat}{L:List Pt}(I:L.length<=12)(E:qU L)(h:aN pQ 121 5 L.length (RPt L) g L.length w):cK w (some ⟨g,0,none⟩) L:=by
 obtain⟨K,lo,hi,c⟩:=WW oaa h;obtain⟨a,c,e,F⟩:=VL c.row (fun i D=>(c.gs i D).grs (E i D).1);cases e;exact F
theorem Wo{O E I J M V5 X:Wd}{W:Wl}{z:Nat}(H:aI W)(bV:Bl w O)(b1:Bl O E)(f1:E.heap[O.heap.size]?=some (.cells (dW W.fs).toArray 65 (0,0)))
  (b2:Bl E I) (e2:aN vZ 50 4 W.rs.length (RRl W.rs) E.heap.size W.rs.length I) (b3:Bl I J) (e3:aN sU 34 1 W.ps.length (RPg W.ps) I.heap.size W.ps.length J) (b4:Bl J M) (e4:aN sW 51 1 W.qs.length (RQu W.qs) J.heap.size W.qs.length M)
  (b5:Bl M V5) (e5:aN pQ 121 5 W.pt.length (RPt W.pt) M.heap.size W.pt.length V5) (hz:z<O.heap.size) (hX:aC (fun b=>b=z) V5 X) (bX:Bl w X) :
  ∃ s:SD,(.cells #[.slice (some ⟨O.heap.size,0,none⟩) W.fs.length W.fs.length,.slice (some ⟨E.heap.size,0,none⟩) W.fs.length W.fs.length,.slice (some ⟨I.heap.size,0,none⟩) W.fs.length W.fs.length,.slice (some ⟨J.heap.size,0,none⟩) W.fs.length W.fs.length,.slice (some ⟨M.heap.size,0,none⟩) W.pt.length W.pt.length] 28:Obj)=.cells #[.slice s.a0 W.fs.length s.c0,.slice (some ⟨s.g1,0,none⟩) W.fs.length W.fs.length,.slice (some ⟨s.g2,0,none⟩) W.fs.length W.fs.length,.slice (some ⟨s.g3,0,none⟩) W.fs.length W.fs.length,.slice s.a4 W.pt.length s.c4] 28/\(∀ i,s.q i=none)/\WlC (s.wa W.fs.length) W/\∀ me,me<W.fs.length->SW ⟨w,fun V=>dY V (s.P me).1 (prg W me)⟩ X.heap.size me W s (X.alloc (.cells #[.slice (some ⟨O.heap.size,0,none⟩) W.fs.length W.fs.length,.slice (some ⟨E.heap.size,0,none⟩) W.fs.length W.fs.length,.slice (some ⟨I.heap.size,0,none⟩) W.fs.length W.fs.length,.slice (some ⟨J.heap.size,0,none⟩) W.fs.length W.fs.length,.slice (some ⟨M.heap.size,0,none⟩) W.pt.length W.pt.length] 28)):=by
 have sV:=bV.size;have s1:=b1.size;have s2:=b2.size;have s3:=b3.size;have s4:=b4.size;have s5:=b5.size;have s6:=hX.size;have l1:=aR f1;have bY:=aB X (.cells #[.slice (some ⟨O.heap.size,0,none⟩) W.fs.length W.fs.length,.slice (some ⟨E.heap.size,0,none⟩) W.fs.length W.fs.length,.slice (some ⟨I.heap.size,0,none⟩) W.fs.length W.fs.length,.slice (some ⟨J.heap.size,0,none⟩) W.fs.length W.fs.length,.slice (some ⟨M.heap.size,0,none⟩) W.pt.length W.pt.length] 28);rw[H.lr] at e2;rw[H.lp] at e3;rw[H.lq] at e4;obtain⟨v,lo,hi,F,hF,hv⟩:=e2;obtain⟨v3,d6,d4,F3,a6,a9⟩:=e3;obtain⟨U,b6,a8,F4,a7,T⟩:=e4;have b9:=hF.lt;have c6:=a6.lt;have c7:=a7.lt;obtain⟨f0,c9,F0,c8,_⟩:∃ x:Nat,x=M.heap.size/\∃ F,V5.rowIs x 121 (W.pt.length*5) F/\True:=by obtain⟨_,_,_,F,hF,_⟩:=e5;exact⟨_,rfl,F,hF,trivial⟩
 subst c9;have e8:=c8.lt;have gk:∀ i,i<W.fs.length->∃ G,St (fun b=>b<b6 i\/a8 i<=b) (QuF (U i).qa (qu W.qs i) G) M:=fun i D=>(T i D).2.2.2.2.2.at.2.2.2;obtain⟨G,hG⟩:=GI (P:=fun i G=>St (fun b=>b<b6 i\/a8 i<=b) (QuF (U i).qa (qu W.qs i) G) M) (fun _=>(none,0)) gk;have oZ:aC (fun b=>b=z) V5 (X.alloc (.cells #[.slice (some ⟨O.heap.size,0,none⟩) W.fs.length W.fs.length,.slice (some ⟨E.heap.size,0,none⟩) W.fs.length W.fs.length,.slice (some ⟨I.heap.size,0,none⟩) W.fs.length W.fs.length,.slice (some ⟨J.heap.size,0,none⟩) W.fs.length W.fs.length,.slice (some ⟨M.heap.size,0,none⟩) W.pt.length W.pt.length] 28)):=hX.trans (aC.of_below bY);have o4:aC (fun b=>b=z) M (X.alloc (.cells #[.slice (some ⟨O.heap.size,0,none⟩) W.fs.length W.fs.length,.slice (some ⟨E.heap.size,0,none⟩) W.fs.length W.fs.length,.slice (some ⟨I.heap.size,0,none⟩) W.fs.length W.fs.length,.slice (some ⟨J.heap.size,0,none⟩) W.fs.length W.fs.length,.slice (some ⟨M.heap.size,0,none⟩) W.pt.length W.pt.length] 28)):=(aC.of_below b5).trans oZ;have o3:aC (fun b=>b=z) J (X.alloc (.cells #[.slice (some ⟨O.heap.size,0,none⟩) W.fs.length W.fs.length,.slice (some ⟨E.heap.size,0,none⟩) W.fs.length W.fs.length,.slice (some ⟨I.heap.size,0,none⟩) W.fs.length W.fs.length,.slice (some ⟨J.heap.size,0,none⟩) W.fs.length W.fs.length,.slice (some ⟨M.heap.size,0,none⟩) W.pt.length W.pt.length] 28)):=(aC.of_below b4).trans o4
 have o2:aC (fun b=>b=z) I (X.alloc (.cells #[.slice (some ⟨O.heap.size,0,none⟩) W.fs.length W.fs.length,.slice (some ⟨E.heap.size,0,none⟩) W.fs.length W.fs.length,.slice (some ⟨I.heap.size,0,none⟩) W.fs.length W.fs.length,.slice (some ⟨J.heap.size,0,none⟩) W.fs.length W.fs.length,.slice (some ⟨M.heap.size,0,none⟩) W.pt.length W.pt.length] 28)):=(aC.of_below b3).trans o3;have o1:aC (fun b=>b=z) E (X.alloc (.cells #[.slice (some ⟨O.heap.size,0,none⟩) W.fs.length W.fs.length,.slice (some ⟨E.heap.size,0,none⟩) W.fs.length W.fs.length,.slice (some ⟨I.heap.size,0,none⟩) W.fs.length W.fs.length,.slice (some ⟨J.heap.size,0,none⟩) W.fs.length W.fs.length,.slice (some ⟨M.heap.size,0,none⟩) W.pt.length W.pt.length] 28)):=(aC.of_below b2).trans o2
 let s:SD:=⟨some ⟨O.heap.size,0,none⟩,W.fs.length,some ⟨M.heap.size,0,none⟩,W.pt.length,E.heap.size,I.heap.size,J.heap.size,fun i=>⟨(v i).sa,(v i).ha,(v i).ia,(v i).ta,(v i).sc,(v i).hc,(v i).ic,(v i).tc⟩,fun i=>((v3 i).pa,(v3 i).pc),fun i=>((U i).qa,(U i).qc),G,none,fun _=>none⟩
 have hs:∀ b,SX w.heap.size X.heap.size s b->b<w.heap.size\/b=X.heap.size\/b=E.heap.size\/b=I.heap.size\/b=J.heap.size:=fun b hb=>by
  rcases hb with h|h|h|h|h|h |⟨i,h⟩
  ·exact .inl h
  ·exact .inr (.inl h)
  ·exact .inr (.inr (.inl h))
  ·exact .inr (.inr (.inr (.inl h)))
  ·exact .inr (.inr (.inr (.inr h)))
  ·cases h
  ·cases h
 have n8:=H.fs.few
 have ra:∀ i,i<W.fs.length->(v i)=⟨(s.R i).a0,(rlm W i).s.length,(s.R i).c0,(s.R i).a1,(rlm W i).hs.length,(s.R i).c1,(s.R i).a2,(rlm W i).i.length,(s.R i).c2,(s.R i).a3,(rlm W i).t.length,(s.R i).c3⟩/\(s.R i).c3=(rlm W i).t.length/\(∃ b,(s.R i).a3=some ⟨b,0,none⟩)/\St (SX w.heap.size X.heap.size s) (fun V=>aU V (s.R i) (rlm W i)) (X.alloc (.cells #[.slice (some ⟨O.heap.size,0,none⟩) W.fs.length W.fs.length,.slice (some ⟨E.heap.size,0,none⟩) W.fs.length W.fs.length,.slice (some ⟨I.heap.size,0,none⟩) W.fs.length W.fs.length,.slice (some ⟨J.heap.size,0,none⟩) W.fs.length W.fs.length,.slice (some ⟨M.heap.size,0,none⟩) W.pt.length W.pt.length] 28)):=fun i D=>by
  obtain⟨_,h2,h3,h4,_,h6⟩:=hv i D;have b8:∀ b,SX w.heap.size X.heap.size s b->b<lo i\/hi i<=b:=fun b hb=>by have:=hs b hb;omega
  have h7:St (SX w.heap.size X.heap.size s) (RRl W.rs i (v i) (lo i) (hi i)) (X.alloc (.cells #[.slice (some ⟨O.heap.size,0,none⟩) W.fs.length W.fs.length,.slice (some ⟨E.heap.size,0,none⟩) W.fs.length W.fs.length,.slice (some ⟨I.heap.size,0,none⟩) W.fs.length W.fs.length,.slice (some ⟨J.heap.size,0,none⟩) W.fs.length W.fs.length,.slice (some ⟨M.heap.size,0,none⟩) W.pt.length W.pt.length] 28)):=(h6.off (o2.mono (fun b hb=>Or.inl (by have:b=z:=hb;omega)))).less b8;obtain⟨A,eA,c3,a3,_⟩:=h7.at
  have eR:s.R i=A:=by
   show (⟨(v i).sa,(v i).ha,(v i).ia,(v i).ta,(v i).sc,(v i).hc,(v i).ic,(v i).tc⟩:RA)=A;rw[eA]
  rw[eR];refine⟨eA,c3,a3,fun V' ho=>?_⟩;obtain⟨A', a5,_,_,h8⟩:=h7 V' ho
  have:A' = A:=by
   rw[eA] at a5;obtain⟨a0,a1,a2,d8,c0,c1,c2,e7⟩:=A';obtain⟨b0,d9,e0,e6,d0,d1,d2,d3⟩:=A;simp at a5;obtain⟨rfl,rfl,rfl,rfl,rfl,rfl,rfl,rfl⟩:=a5;rfl
  rw[this] at h8;exact h8
 have d7:W.pt.length<=12:=H.pt.few
 have d5:WlC (s.wa W.fs.length) W:=by
  refine⟨⟨(fun e=>by cases e),yr _,by show W.fs.length<=9223372036854775807;omega⟩,?_,?_,?_,⟨(fun e=>by cases e),yr _,by show W.pt.length<=9223372036854775807;omega⟩⟩
  ·rw[H.lr];exact⟨(fun e=>by cases e),yr _,by show W.fs.length<=9223372036854775807;omega⟩
  ·rw[H.lp];exact⟨(fun e=>by cases e),yr _,by show W.fs.length<=9223372036854775807;omega⟩
  ·rw[H.lq];exact⟨(fun e=>by cases e),yr _,by show W.fs.length<=9223372036854775807;omega⟩
 refine⟨s,rfl,fun _=>rfl,d5,fun me b7=>SWo.sw ⟨bX.trans (bY.mono bX.size),H,b7,⟨bX.size,by show _<=E.heap.size;omega,by show _<=I.heap.size;omega,by show _<=J.heap.size;omega,by show _≠E.heap.size;omega,by show _≠I.heap.size;omega,by show _≠J.heap.size;omega,by show E.heap.size≠I.heap.size;omega,by show E.heap.size≠J.heap.size;omega,by show I.heap.size≠J.heap.size;omega,(fun b hb=>by cases hb),(fun i b hb=>by cases hb)⟩,GK _ _ _ _ _ _ _,?_,?_,?_,?_⟩⟩
 ·refine yG (hF.of_block (o2.block _ b9 (by show ¬ E.heap.size=z;omega))) (fun j Z=>?_);have h1:=(hv (j / 4) oaa).1 (j % 4) oaa;rw[show j / 4*4+j % 4=j by omega,(ra (j / 4) oaa).1] at h1;rw[h1];unfold jW;rcases(by omega:j % 4=0\/j % 4=1\/j % 4=2\/j % 4=3) with h|h|h|h
  ·rw[h,ye rfl];rfl
  ·rw[h,yd oae,ye rfl];rfl
  ·rw[h,yd oae,yd oae,ye rfl];rfl
  ·rw[h,yd oae,yd oae,yd oae];rfl
 ·rw[Nat.mul_one] at a6;refine yG (a6.of_block (o3.block _ c6 (by show ¬ I.heap.size=z;omega))) (fun j Z=>?_);have h1:=(a9 j Z).1 0 oaa;rw[Nat.mul_one,Nat.add_zero] at h1;rw[h1];show Value.slice (v3 j).pa (v3 j).pl (v3 j).pc=_;rw[(a9 j Z).2.2.2.2.2.at.1];rfl
 ·rw[Nat.mul_one] at a7;refine yG (a7.of_block (o4.block _ c7 (by show ¬ J.heap.size=z;omega))) (fun j Z=>?_);have h1:=(T j Z).1 0 oaa;rw[Nat.mul_one,Nat.add_zero] at h1;rw[h1];show Value.slice (U j).qa (U j).ql (U j).qc=_;rw[(T j Z).2.2.2.2.2.at.1];rfl
 ·have kf:∀ i,i<W.fs.length->∀ b,SX w.heap.size X.heap.size s b->b<b6 i\/a8 i<=b:=fun i D b hb=>by
   obtain⟨_,h2,h3,h4,_⟩:=T i D;have:=hs b hb;omega
  have kG:∀ i,i<W.fs.length->St (SX w.heap.size X.heap.size s) (QuF (U i).qa (qu W.qs i) (G i)) (X.alloc (.cells #[.slice (some ⟨O.heap.size,0,none⟩) W.fs.length W.fs.length,.slice (some ⟨E.heap.size,0,none⟩) W.fs.length W.fs.length,.slice (some ⟨I.heap.size,0,none⟩) W.fs.length W.fs.length,.slice (some ⟨J.heap.size,0,none⟩) W.fs.length W.fs.length,.slice (some ⟨M.heap.size,0,none⟩) W.pt.length W.pt.length] 28)):=fun i D=>((hG i D).off (o4.mono (fun b hb=>Or.inl (by have:b=z:=hb;have:=(T i D).2.1;omega)))).less (kf i D);refine⟨fun V' ho=>?_,⟨(fun e=>by cases e),yr _,by show W.fs.length<=9223372036854775807;omega⟩,fun i D=>?_,fun i D _=>?_,?_,fun i D=>?_,fun i D j Z=>?_,fun i D=>?_,fun V' ho=>?_,⟨(fun e=>by cases e),yr _,by show W.pt.length<=9223372036854775807;have:=H.pt.few;omega⟩⟩
  ·have hr:E.rowIs O.heap.size 65 (W.fs.length*5) (frF W.fs):=ZB f1;refine KP ((hr.of_block (o1.block _ l1 (by show ¬ O.heap.size=z;omega))).of_block (ho.block _ (by have:=o1.size;omega) (fun hb=>?_))) (yr _) (fun _ _=>rfl);have:=hs _ hb;omega
  ·exact(ra i D).2.2.2.imp (fun V h=>⟨h.1,h.2.1,h.2.2.1⟩)
  ·exact(ra i D).2.2.2.imp (fun V h=>h.2.2.2)
  ·obtain⟨_,c3,⟨b,a3⟩,h⟩:=ra me b7;refine⟨oac,.inl ⟨rfl,c3,⟨(fun e=>by rw[a3] at e;cases e),(fun ad e=>by rw[a3] at e;cases e;exact⟨_,_,rfl⟩)⟩,fun V' ho ad e j u hu=>YF (h V' ho).2.2.2 ad e j u hu⟩⟩
  ·obtain⟨_,h2,h3,h4,_,h6⟩:=a9 i D;exact((h6.off (o3.mono (fun b hb=>Or.inl (by have:b=z:=hb;omega)))).less (fun b hb=>by have:=hs b hb;show b<d6 i\/d4 i<=b;omega)).imp (fun V h=>h.2)
  ·exact(kG i D).imp (fun V h=>h.2 j Z)
  ·obtain⟨e1,e2,⟨b,e3⟩,_⟩:=(T i D).2.2.2.2.2.at;exact⟨GR _ _,.inl ⟨rfl,e2,⟨(fun e=>by have e' :(U i).qa=none:=e;rw[e3] at e'; cases e'),(fun ad e=>by have e' :(U i).qa=some ad:=e;rw[e3] at e'; cases e'; exact⟨_,_,rfl⟩)⟩,(kG i D).imp (fun V h=>h.1)⟩⟩
  ·refine Wn H.pt.few (sN H.pt) (e5.off (oZ.mono ?_ |>.trans (ho.mono ?_)))
   ·intro b hb;have:b=z:=hb;exact Or.inl oaa
   ·intro b hb;have:=hs b hb;show b<M.heap.size\/V5.heap.size<=b;omega
theorem bH{v1 v2:Value}(h:W.heap[b]?=some (.cells #[D,v1,v2,E,F] t (0,0))):W.cell? ⟨b,0,none⟩=some D/\W.cell? ⟨b,1,none⟩=some v1/\W.cell? ⟨b,2,none⟩=some v2/\W.cell? ⟨b,3,none⟩=some E/\W.cell? ⟨b,4,none⟩=some F/\(∀ o,W.frozen? ⟨b,o,none⟩=false)/\b<W.heap.size :=
 ⟨by simp[World.cell?,h],by simp[World.cell?,h],by simp[World.cell?,h],by simp[World.cell?,h],by simp[World.cell?,h],fun o=>by simp[World.frozen?,h],aR h⟩
theorem NQ{z0 Z u0 u1 u2 u3 u4:Value}(h:W.heap[b]?=some (.cells #[z0,Z,F,E,D] t (0,0))):(((((W.setCell ⟨b,0,none⟩ u0).setCell ⟨b,1,none⟩ u1).setCell ⟨b,2,none⟩ u2).setCell ⟨b,3,none⟩ u3).setCell ⟨b,4,none⟩ u4).heap[b]?=some (.cells #[u0,u1,u2,u3,u4] t (0,0)):=by
 have M:(W.setCell ⟨b,0,none⟩ u0).heap[b]?=some (.cells #[u0,Z,F,E,D] t (0,0)):=bR (i:=0) h;generalize W.setCell ⟨b,0,none⟩ u0=W0 at M |-;have O:(W0.setCell ⟨b,1,none⟩ u1).heap[b]?=some (.cells #[u0,u1,F,E,D] t (0,0)):=bR (i:=1) M;generalize W0.setCell ⟨b,1,none⟩ u1=I at O |-;have T:(I.setCell ⟨b,2,none⟩ u2).heap[b]?=some (.cells #[u0,u1,u2,E,D] t (0,0)):=bR (i:=2) O;generalize I.setCell ⟨b,2,none⟩ u2=J at T |-;have U:(J.setCell ⟨b,3,none⟩ u3).heap[b]?=some (.cells #[u0,u1,u2,u3,D] t (0,0)):=bR (i:=3) T;generalize J.setCell ⟨b,3,none⟩ u3=W3 at U |-;exact bR (i:=4) U
theorem NT(W:Wd)(u0 u1 u2 u3 u4:Value):aC (fun x=>x=b) W (((((W.setCell ⟨b,0,none⟩ u0).setCell ⟨b,1,none⟩ u1).setCell ⟨b,2,none⟩ u2).setCell ⟨b,3,none⟩ u3).setCell ⟨b,4,none⟩ u4) :=
 ((((aC.set (X:=fun x=>x=b) _ _ rfl).trans (aC.set (X:=fun x=>x=b) _ _ rfl)).trans (aC.set (X:=fun x=>x=b) _ _ rfl)).trans (aC.set (X:=fun x=>x=b) _ _ rfl)).trans (aC.set (X:=fun x=>x=b) _ _ rfl)
theorem Wp{n:Nat}{q:List Ml}(h:dX n q=0):q.length<=1000/\∀ j,j<q.length->(ml q j).g.length<=1000/\∀ m,m<(ml q j).g.length->(cl (ml q j).g m).ks.length<=1000:=by
 obtain⟨h1,F⟩:=nA.1 h;refine⟨oaa,fun j D=>?_⟩;have E:=(F (ml q j) (by rw[VN D];exact List.getElem_mem D)).2;exact⟨by have:=(uR E).1;omega,YE E⟩
theorem ZE(A:WA)(W:Wl)(w:Wd)(H:aI W)(hW:gP w A W) :
  yO 39 #[wlV A W] w fun e w' => ∃ s:SD,e=.returned (wlV (s.wa W.fs.length) W)/\Below w.heap.size w w' /\(∀ i,s.q i=none)/\WlC (s.wa W.fs.length) W/\∀ me,me<W.fs.length->SW ⟨w,fun V=>dY V (s.P me).1 (prg W me)⟩ w'.heap.size me W s (w'.alloc (.cells #[.slice s.a0 W.fs.length s.c0,.slice (some ⟨s.g1,0,none⟩) W.fs.length W.fs.length,.slice (some ⟨s.g2,0,none⟩) W.fs.length W.fs.length,.slice (some ⟨s.g3,0,none⟩) W.fs.length W.fs.length,.slice s.a4 W.pt.length s.c4] 28)):=by
 obtain⟨a0,a1,a2,a3,a4,c0,c1,c2,c3,c4⟩:=A;have hn:=H.fs.few;have D0:Hid (∀ V,Bl w V->Calls _ _ _ _ _):=fun V T=>Vw a0 c0 W.fs.length (dW W.fs) V oaa (xZ _) (ZC (w:=V) (P:=fun _ _ _=>True) (fun j hj=>by obtain⟨b,o,e,_⟩:=hW.fs j hj;exact⟨b,o,e,trivial⟩)) (Vm (hW.fs.below T)) (KQ _);have D1:Hid (∀ V,Bl w V->Calls _ _ _ _ _):=fun V T=>Wm a1 c1 W.rs V (by rw[H.lr];omega) (fun i hi=>H.rs i (by rw[<- H.lr];exact hi)) (hW.rs.below T);have D2:Hid (∀ V,Bl w V->Calls _ _ _ _ _):=fun V T=>Vx a2 c2 W.ps V (by rw[H.lp];omega) (fun i hi=>H.ps i (by rw[<- H.lp];exact hi)) (hW.ps.below T);have D3:Hid (∀ V,Bl w V->Calls _ _ _ _ _):=fun V T=>Wj a3 c3 W.qs V (by rw[H.lq];omega) (fun i hi=>Wp (H.qs i (by rw[<- H.lq];exact hi))) (hW.qs.below T);have D4:Hid (∀ V,Bl w V->Calls _ _ _ _ _):=fun V T=>WX a4 c4 W.pt V H.pt.few (sN H.pt) (hW.pt.below T)
 have HS:Hid (∀ (M D F I J V5 X:Wd) (z:Nat),Bl w M->Bl M D->D.heap[M.heap.size]?=some (.cells (dW W.fs).toArray 65 (0,0))->Bl D F->aN vZ 50 4 W.rs.length (RRl W.rs) D.heap.size W.rs.length F->Bl F I->aN sU 34 1 W.ps.length (RPg W.ps) F.heap.size W.ps.length I->Bl I J->aN sW 51 1 W.qs.length (RQu W.qs) I.heap.size W.qs.length J->Bl J V5->aN pQ 121 5 W.pt.length (RPt W.pt) J.heap.size W.pt.length V5->z<M.heap.size->aC (fun b=>b=z) V5 X->Bl w X->_):=fun M D F I J V5 X z h1 h2 h3 h4 h5 h6 h7 h8 h9 b3 b4 b5 b6 b7=>Wo H h1 h2 h3 h4 h5 h6 h7 h8 h9 b3 b4 b5 b6 b7;dsimp only[wlV];rw[H.lr] at D1 |-;rw[H.lp] at D2 |-;rw[H.lq] at D3 |-;rw[H.lr,H.lp,H.lq] at HS;clear hW hn H;generalize W.fs.length=n at *;generalize W.pt.length=nt at *
 go_enter func39,ntmps39
 go_wp2_with fail
 obtain⟨M,T⟩:∃ V,(w.alloc (.cells #[.slice a0 n c0,.slice a1 n c1,.slice a2 n c2,.slice a3 n c3,.slice a4 nt c4] 28)).alloc (.cells #[.slice none 0 0,.slice none 0 0,.slice none 0 0,.slice none 0 0,.slice none 0 0] 28)=V:=⟨_,rfl⟩;have XR:Hid _:=aH (GK w 28 (.slice a0 n c0) (.slice a1 n c1) (.slice a2 n c2) (.slice a3 n c3) (.slice a4 nt c4)) (aB _ (.cells #[.slice none 0 0,.slice none 0 0,.slice none 0 0,.slice none 0 0,.slice none 0 0] 28));have XZ:Hid _:=GK (w.alloc (.cells #[.slice a0 n c0,.slice a1 n c1,.slice a2 n c2,.slice a3 n c3,.slice a4 nt c4] 28)) 28 (.slice none 0 0) (.slice none 0 0) (.slice none 0 0) (.slice none 0 0) (.slice none 0 0);rw[yw] at XZ;have U:Hid (Bl w M):=by rw[<- T];exact aM _ _ _
 rw[T] at XR XZ |-;clear T;obtain⟨l0,l1,l2,l3,l4,lf,ll⟩:=bH XR.out
 go_region_held3 (fun Z=>Z.cell? ⟨w.heap.size,0,none⟩=some (.slice a0 n c0)/\Z.cell? ⟨w.heap.size,1,none⟩=some (.slice a1 n c1)/\Z.cell? ⟨w.heap.size,2,none⟩=some (.slice a2 n c2)/\Z.cell? ⟨w.heap.size,3,none⟩=some (.slice a3 n c3)/\Z.cell? ⟨w.heap.size,4,none⟩=some (.slice a4 nt c4)) (go_keep) (first|(go_at_call 71;refine yj (D0 _ U.drew) ?_;rintro e D ⟨rfl,hb,O⟩;have B1:Hid (Bl M D):=(yv _ _).drew.trans hb;have R1:Hid _:=O;have a5:Hid (Bl w D):=U.trans (B1.mono U.size);have p0:=aA l0 B1;have p1:=aA l1 B1;have p2:=aA l2 B1;have p3:=aA l3 B1;have p4:=aA l4 B1;clear hb O)|(go_at_call 72;refine yj (D1 _ a5.out) ?_;rintro e F ⟨rfl,hb,O⟩;have B2:Hid (Bl D F):=hb;have R2:Hid _:=O;have a6:Hid (Bl w F):=a5.trans (B2.mono a5.size);have q0:=aA p0 B2;have q1:=aA p1 B2;have q2:=aA p2 B2;have q3:=aA p3 B2;have q4:=aA p4 B2;clear hb O)|(go_at_call 74;refine yj (D2 _ a6.out) ?_;rintro e I ⟨rfl,hb,O⟩;have B3:Hid (Bl F I):=hb;have R3:Hid _:=O;have a7:Hid (Bl w I):=a6.trans (B3.mono a6.size);have r0:=aA q0 B3;have r1:=aA q1 B3;have r2:=aA q2 B3;have r3:=aA q3 B3;have r4:=aA q4 B3;clear hb O)|(go_at_call 76;refine yj (D3 _ a7.out) ?_;rintro e J ⟨rfl,hb,O⟩;have B4:Hid (Bl I J):=hb;have R4:Hid _:=O;have a8:Hid (Bl w J):=a7.trans (B4.mono a7.size);have t0:=aA r0 B4;have t1:=aA r1 B4;have t2:=aA r2 B4;have t3:=aA r3 B4;have t4:=aA r4 B4;clear hb O)|(go_at_call 78;refine yj (D4 _ a8.out) ?_;rintro e V5 ⟨rfl,hb,O⟩;have B5:Hid (Bl J V5):=hb;have R5:Hid _:=O;have b0:Hid (Bl w V5):=a8.trans (B5.mono a8.size);have u0:=aA t0 B5;have u1:=aA t1 B5;have u2:=aA t2 B5;have u3:=aA t3 B5;have u4:=aA t4 B5;clear hb O;have a9:Hid _:=aH (aH (aH (aH (aH XZ B1) B2.out) B3.out) B4.out) B5.out;obtain⟨b9,c6,c7,c8,c9,tf,tl⟩:=bH a9.out))
 clear l0 l1 l2 l3 l4 lf ll p0 p1 p2 p3 p4 q0 q1 q2 q3 q4 r0 r1 r2 r3 r4 t0 t1 t2 t3 t4 u0 u1 u2 u3 u4 b9 c6 c7 c8 c9 tf tl;obtain⟨X,hX⟩:∃ X,((((V5.setCell ⟨w.heap.size+1,0,none⟩ (.slice (some ⟨M.heap.size,0,none⟩) n n)).setCell ⟨w.heap.size+1,1,none⟩ (.slice (some ⟨D.heap.size,0,none⟩) n n)).setCell ⟨w.heap.size+1,2,none⟩ (.slice (some ⟨F.heap.size,0,none⟩) n n)).setCell ⟨w.heap.size+1,3,none⟩ (.slice (some ⟨I.heap.size,0,none⟩) n n)).setCell ⟨w.heap.size+1,4,none⟩ (.slice (some ⟨J.heap.size,0,none⟩) nt nt)=X:=⟨_,rfl⟩;have x0:X.heap[w.heap.size+1]?=some (.cells #[.slice (some ⟨M.heap.size,0,none⟩) n n,.slice (some ⟨D.heap.size,0,none⟩) n n,.slice (some ⟨F.heap.size,0,none⟩) n n,.slice (some ⟨I.heap.size,0,none⟩) n n,.slice (some ⟨J.heap.size,0,none⟩) nt nt] 28 (0,0)):=by rw[<- hX];exact NQ a9.out
 have xo:aC (fun b=>b=w.heap.size+1) V5 X:=by rw[<- hX];exact NT _ _ _ _ _ _
 have xb:Bl w X:=by
  rw[<- hX];exact((((b0.setCell oac _).setCell oac _).setCell oac _).setCell oac _).setCell oac _
 rw[hX];clear hX;obtain⟨s,es,hq,b1,hs⟩:=HS.out M D F I J V5 X (w.heap.size+1) U.out B1.out R1.out B2.out R2.out B3.out R3.out B4.out R4.out B5.out R5.out (aR XZ.out) xo xb;have HH:Hid _:=hs;have HQ:Hid _:=hq;have b2:Hid _:=b1;have XB:Hid (Bl w X):=xb;obtain⟨m0,m1,m2,m3,m4,mf,ml⟩:=bH x0;have E:Hid _:=es;clear xo xb x0 R1 R2 R3 R4 R5 B1 B2 B3 B4 B5 a5 a6 a7 a8 b0 U a9 XZ XR HS D0 D1 D2 D3 D4 hs es hq b1
 go_wp2
 refine yz (v:=.agg #[.slice (some ⟨M.heap.size,0,none⟩) n n,.slice (some ⟨D.heap.size,0,none⟩) n n,.slice (some ⟨F.heap.size,0,none⟩) n n,.slice (some ⟨I.heap.size,0,none⟩) n n,.slice (some ⟨J.heap.size,0,none⟩) nt nt]) (by simp[results,results39,go_sem,m0,m1,m2,m3,m4]) rfl ⟨s,?_,XB.out,HQ.out,b2.out,fun me b8=>?_⟩
 ·have:=E.out;simp at this;obtain⟨⟨h1,h2⟩,h3,h4,h5,h6,h7⟩:=this;simp[h1,h2,h3,h4,h5,h6,h7]
 ·have h1:=HH.out me b8;rw[E.out] at h1;exact h1
theorem Yl{P:Program}(w:Wd)(t ty:TypeId)(e:TypeId)(i:TypeInfo)(z:Value)(size bytes:Nat)(ht:P.underlying t=some (.slice e))(hi:P.info? e=some i)(hz:i.zero=some z)
  (F:i.size=size) (J:i.bytes=bytes) (O:z.cells.size=size) (M:0<size)
    (av:OA) (n cv:Nat) (Z:List Value) (tt:Option Nat) (hA:App X B e size av n cv Z tt w) (hB:B<=w.heap.size)
  (T:Addr) (m c:Nat) (news:List Value) (hl:news.length=m*size) (E:∀ j u,news[j]?=some u->w.cell? (T.add j)=some u) (h1:∀ u ∈ news,u.oneCell' = true)
  (hm:0<m) (I:n+m<=maxLen) (D:(n+m)*bytes<=140737488355328) :
  ∃ g cap w',(Builtin.append_ #[t,t] ty #[.slice av n cv,.slice (some T) m c]).run P w=.ok (.slice (some ⟨g,0,none⟩) (n+m) cap) w' /\
   w'.ownsRow B e size (.slice (some ⟨g,0,none⟩) (n+m) cap) (n+m) (Z++news)/\w.grownBy w' tt/\(tt=some g\/w.heap.size<=g)/\g<w'.heap.size:=by
 rcases hA.2 with ⟨rfl,rfl,h3,h4⟩ |⟨b,rfl,rfl,h3⟩
 ·cases av with
  | some b =>
   obtain⟨v', w', U,r1,r2⟩:=run_append_arg_grows (P:=P) w t ty e i z size bytes ht hi hz F J O M b cv cv Z hA.1 (h4.at b rfl) T m c news hl E oaa I D;obtain⟨g,cap,rfl,h5,h6⟩:=r1.form oaa;exact⟨g,cap,w', U,kW r1 hB,r2,.inr h5,h6⟩
  | none =>
   obtain rfl:=h3.1 rfl;obtain rfl:Z=[]:=List.eq_nil_of_length_eq_zero (by simpa using hA.1);obtain⟨g,cap,w', U,r1,r2,r3,r4⟩:=run_append_lies (P:=P) w t ty w.heap.size e i z size bytes ht hi hz F J O M (.slice none 0 0) 0 [] (World.ownsRow_nil w _ e size) T m c news hl E h1 hm I D (yr _) _ rfl;refine⟨g,cap,w', U,kW r1 hB,r2,?_,r4⟩;rcases r3 with r3|r3
   ·cases r3
   ·exact .inr oaa
 ·obtain⟨g,cap,w', U,r1,r2,r3,r4⟩:=run_append_lies (P:=P) w t ty B e i z size bytes ht hi hz F J O M (.slice (some ⟨b,0,none⟩) n cv) n Z h3 T m c news hl E h1 hm I D hB _ rfl;refine⟨g,cap,w', U,r1,r2,?_,r4⟩;rcases r3 with r3|r3
  ·exact .inl r3
  ·exact .inr oaa
theorem Ym{P:Program}(w:Wd){o:Oper}{a:Act}{K:Act->World->Prop}{Q:Exit->Act->World->Prop}(s x:Operand)(t:TypeId)
  (ho:o.op=.call { callee:=.builtin .append,args:=#[s,x],argTypes:=#[t,t] })
  (e:TypeId) (i:TypeInfo) (z:Value) (size bytes:Nat) (ht:P.underlying t=some (.slice e)) (hi:P.info? e=some i) (hz:i.zero=some z)
  (F:i.size=size) (O:i.bytes=bytes) (U:z.cells.size=size) (T:0<size)
    (J:OA) (n cv:Nat) (Z:List Value) (tt:Option Nat) (hA:App X B e size J n cv Z tt w) (hB:B<=w.heap.size) (hs:a.eval s=.slice J n cv)
  (I:Addr) (m c:Nat) (news:List Value) (hx:a.eval x=.slice (some I) m c) (hl:news.length=m*size) (E:∀ j u,news[j]?=some u->w.cell? (I.add j)=some u) (h1:∀ u ∈ news,u.oneCell' = true)
  (hm:0<m) (M:n+m<=maxLen) (D:(n+m)*bytes<=140737488355328)
  (h:∀ g cap w', w'.ownsRow B e size (.slice (some ⟨g,0,none⟩) (n+m) cap) (n+m) (Z++news)->w.grownBy w' tt->(tt=some g\/w.heap.size<=g)->g<w'.heap.size->K (a.put o.dst (.slice (some ⟨g,0,none⟩) (n+m) cap)) w'):o.wp P a w K Q:=by
 obtain⟨g,cap,w', hr,h2,h3,h4,h5⟩:=Yl (P:=P) w t o.type e i z size bytes ht hi hz F O U T J n cv Z tt hA hB I m c news hl E h1 hm M D;unfold Oper.wp execOp;simp only[ho,resolve,invoke,builtin,Sem.run_bind,Sem.run_pure,Result.andThen_ok,List.map_toArray,List.map_cons,List.map_nil,hs,hx,hr];exact h g cap w' h2 h3 h4 h5
theorem OG{P:Program}(w:Wd){ops:Array Oper}{o:Oper}{a:Act}{K:Act->World->Prop}{Q:Exit->Act->World->Prop}{E:Prop}(U:o.guard=none)(s x:Operand)(t:TypeId)
  (ho:o.op=.call { callee:=.builtin .append,args:=#[s,x],argTypes:=#[t,t] })
  (e:TypeId) (i:TypeInfo) (z:Value) (size bytes:Nat) (ht:P.underlying t=some (.slice e)) (hi:P.info? e=some i) (hz:i.zero=some z)
  (I:i.size=size) (T:i.bytes=bytes) (a5:z.cells.size=size) (Z:0<size)
    (M:OA) (n cv:Nat) (xs:List Value) (tt:Option Nat) (hA:App X B e size M n cv xs tt w) (hB:B<=w.heap.size) (hs:a.eval s=.slice M n cv)
  (J:Addr) (m c:Nat) (news:List Value) (hx:a.eval x=.slice (some J) m c) (hl:news.length=m*size) (F:∀ j u,news[j]?=some u->w.cell? (J.add j)=some u) (h1:∀ u ∈ news,u.oneCell' = true)
  (hm:0<m) (O:n+m<=maxLen) (D:(n+m)*bytes<=140737488355328)
  (h:∀ g cap w', w'.ownsRow B e size (.slice (some ⟨g,0,none⟩) (n+m) cap) (n+m) (xs++news)->w.grownBy w' tt->(tt=some g\/w.heap.size<=g)->g<w'.heap.size->K (a.put o.dst (.slice (some ⟨g,0,none⟩) (n+m) cap)) w') :
  if Region.wanted o (yielded ops a.tmps)=true then Oper.wp P o a w K Q else E:=by
 have hw:Region.wanted o (yielded ops a.tmps)=true:=by simp[Region.wanted,U]
 rw[ye hw];exact Ym w s x t ho e i z size bytes ht hi hz I T a5 Z M n cv xs tt hA hB hs J m c news hx hl F h1 hm O D h
theorem Zn{S D:List Nd}(hl:S.length=D.length)(h:∀ i,i<S.length->nd S i=nd D i):S=D :=
 List.ext_getElem hl fun i hi E=>by
  have:=h i hi
  rwa [eQ hi,eQ E] at this
theorem Zo(x y:Nd):x=y↔(x.u=y.u/\x.n=y.n/\x.t=y.t/\x.m=y.m/\x.p=y.p/\x.ks=y.ks/\x.h=y.h/\x.c=y.c):=by
 constructor
 ·rintro rfl;exact⟨rfl,rfl,rfl,rfl,rfl,rfl,rfl,rfl⟩
 ·obtain⟨a1,a2,a3,a4,D,E,F,I⟩:=x;obtain⟨J,M,O,T,U,Z,b7,b8⟩:=y;rintro⟨rfl,rfl,rfl,rfl,rfl,rfl,rfl,rfl⟩;rfl
theorem Zp(x y:Nd)(ka D:OA)(kc F:Nat)(w:Wd)(E:x.ks.length<=9223372036854775807)(h1:aG w ka x.ks)(I:aG w D y.ks) :
  yO 87 #[.agg #[.bool x.u,.int .i64 x.n,.int .i64 x.t,.int .i64 x.m,.int .i64 x.p,.slice ka x.ks.length kc,.int .i64 x.h,.bool x.c],.agg #[.bool y.u,.int .i64 y.n,.int .i64 y.t,.int .i64 y.m,.int .i64 y.p,.slice D y.ks.length F,.int .i64 y.h,.bool y.c]] w fun e w' => ∃ r:Bool,e=.returned (.bool r)/\Below w.heap.size w w' /\(r=true↔x=y):=by
 refine(PH x.u y.u x.n y.n x.t y.t x.m y.m x.p y.p x.ks y.ks ka D kc F x.h y.h x.c y.c w E h1 I).mono ?_;rintro e w' ⟨rfl,hb⟩;exact⟨_,rfl,hb,by rw[decide_eq_true_iff,Zo]⟩
theorem Zq(a Z:OA)(c c' : Nat)(S D:List Nd)(w:Wd)(hN:S.length<=9223372036854775807)(hB:Big S)(h1:aD w a S)(h2:aD w Z D) :
  yO 86 #[.slice a S.length c,.slice Z D.length c', .func (.func 87) #[] #[]] w fun e w' => ∃ r:Bool,e=.returned (.bool r)/\Below w.heap.size w w' /\(r=true↔S=D):=by
 have eg:=yM func87 oad rfl;by_cases hl:S.length=D.length
 ·have E1:Hid ((∀ i,i<S.length->nd S i=nd D i)->S=D):=fun h=>Zn hl h;have E2:Hid (∀ i,nd S i≠nd D i->S≠D):=fun i h e=>h (by rw[e]);have H1:Hid (aD w a S):=h1;have H2:Hid (aD w Z D):=h2;have HB:Hid (Big S):=hB;have HL:Hid (D.length=S.length):=hl.symm;rw[<- hl];clear h1 h2 hB hl;generalize hn:S.length=n at *;have HN:Hid _:=hn;clear hn
  go_enter func86,ntmps86
  go_wp2
  go_loopg [17] n (fun g s17 wr=>∃ k:Nat,k<=n/\n-k<=g/\s17=.int .i64 k/\Below w.heap.size w wr/\Hid (∀ i,i<k->nd S i=nd D i))
  case atStart=>exact⟨0,oaa,oaa,rfl,yv _ _,fun i hi=>oaa⟩
  case round =>
   obtain⟨k,hk,hg,rfl,hb,A⟩:=hrel;by_cases E:k<n
   ·have a8:(k:Int)<(n:Int):=oaa;obtain⟨b,o,rfl,c0,c1,c2,c3,c4,⟨ka,kc,c5,I⟩,c6,c7⟩:=(H1.below hb) k (by rw[HN.out];exact E);obtain⟨b', o', rfl,e0,e1,e2,e3,e4,⟨a5,a6,e5,J⟩,e6,e7⟩:=(H2.below hb) k (by rw[HL.out];exact E);have a9:=yi _ _ c0;have a7:=yi _ _ e0;have d1:=fun o1 o2=>Zp (nd S k) (nd D k) ka a5 kc a6 ((wr.alloc o1).alloc o2) (HB k (by rw[HN.out];exact E)) (I.below (jX _ _ _)) (J.below (jX _ _ _));have EK:=E2.out k;have O:Hid _:=EK
    have KK:Hid (nd S k=nd D k->∀ i,i<k+1->nd S i=nd D i):=fun h i hi=>by
     by_cases e:i=k
     ·subst e;exact h
     ·exact A.out i oaa
    clear EK I J;have D1:Hid _:=d1;clear d1;generalize nd S k=x at *;generalize nd D k=y at *
    go_wp2_with fail
    refine(D1 _ _).mono ?_;rintro e w3 ⟨r,rfl,F,M⟩
    cases r with
    | true =>
     have U:Hid _:=M.1 rfl;clear M
     go_wp2
     go_roundg (n-(k+1))
     case measure=>omega
     case rel=>exact⟨k+1,oaa,oaa,by go_num,(hb.trans ((jX _ _ _).mono hb.size)).trans (F.mono (by simp;have:=hb.size;omega)),KK.out U.out⟩
    | false =>
     have U:Hid (S≠D):=O.out fun e=>by have:=M.2 e;cases this
     clear M
     go_wp2
     go_ret;exact⟨false,rfl,(hb.trans ((jX _ _ _).mono hb.size)).trans (F.mono (by simp;have:=hb.size;omega)),⟨fun h=>oah,fun h=>absurd h U.out⟩⟩
   ·have:k=n:=oaa;subst this
    go_wp2
    go_ret;exact⟨true,rfl,hb,⟨fun _=>E1.out A.out,fun _=>rfl⟩⟩
 ·have b0:¬ ((S.length:Int)=(D.length:Int)):=oaa
  have T:Hid (S≠D):=fun e=>hl (by rw[e]);clear h1 h2 hB;generalize S.length=n at *;generalize D.length=n' at *
  go_enter func86,ntmps86
  go_wp2
  go_ret;exact⟨false,rfl,yv _ _,⟨fun h=>oah,fun h=>absurd h T.out⟩⟩
theorem Zr(a E:OA)(c F:Nat)(S D:List Nd)(w:Wd)(U:S.length<=9223372036854775807)(J:Big S)(h1:aD w a S)(I:aD w E D) :
  yO 48 #[.agg #[.slice a S.length c],.agg #[.slice E D.length F]] w fun e w' => ∃ r:Bool,e=.returned (.bool r)/\Below w.heap.size w w' /\(r=true↔S=D):=by
 have O:Hid _:=fun Z o2=>Zq a E c F S D ((w.alloc Z).alloc o2) U J (h1.below (jX _ _ _)) (I.below (jX _ _ _));clear h1 I J;generalize S.length=n at *;generalize D.length=n' at *
 go_enter func48,ntmps48
 go_wp2_with (go_at_call 86;refine(O _ _).mono ?_;rintro e w1 ⟨r,rfl,hb,M⟩;have T:Hid _:=M;clear M)
 go_ret;exact⟨r,rfl,(jX _ _ _).trans (hb.mono oab),T.out⟩
