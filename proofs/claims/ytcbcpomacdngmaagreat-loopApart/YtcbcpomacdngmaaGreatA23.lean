/-
  x
-/
import Derived.Test.YtcbcpomacdngmaaGreatA22
namespace Go.Proofs.YtcbcpomacdngmaaGreat
set_option maxRecDepth 100000
set_option maxHeartbeats 4000000
set_option linter.unusedVariables false
open Go.RowKit Tryz
variable{W D:Wd}{b t n i j k c:Nat}{X Y:Array Value}{v F E u0 u1 u2 u3 u4:Value}{R:Rl}{a:OA}{ks:List Int}
theorem gF{listed:Array Bool}(D:j≠i):(listed.setIfInBounds i true).getD j true=listed.getD j true:=by
 rw[Array.getD_eq_getD_getElem?,Array.getD_eq_getD_getElem?,Array.getElem?_setIfInBounds_ne (Ne.symm D)]
theorem aF{listed:Array Bool}(h:listed.getD j true=true):(listed.setIfInBounds i true).getD j true=true:=by
 by_cases e:j=i
 ·subst e;rw[Array.getD_eq_getD_getElem?,Array.getElem?_setIfInBounds];split
  ·split <;> rfl
  ·rename_i D;exact absurd rfl D
 ·rw[gF e];exact h
def SlX(W:Wd)(v:Value)(n:Nat)(X:Array Value)(t:Nat):Prop:=∃ b,v=.slice (some ⟨b,0,none⟩) n n/\W.heap[b]?=some (.cells X t (0,0))
theorem SlX.below(h:SlX W v n X t)(hb:Bl W D):SlX D v n X t:=by
 obtain⟨b,e,hh⟩:=h;exact⟨b,e,aH hh hb⟩
theorem vO(W:Wd)(n:Nat)(X:Array Value)(t:Nat):SlX (W.alloc (.cells X t)) (.slice (some ⟨W.heap.size,0,none⟩) n n) n X t:=⟨_,rfl,yN W _⟩
theorem Nj:(prog.info? 51).map (fun i=>(i.zero,i.size,i.bytes))=some (some (.slice none 0 0),1,24):=oad
theorem Nk(w:Wd):(Instr.makeSlice 25 (.int .i64 2) (.int .i64 2)).run prog w=.ok (.slice (some ⟨w.heap.size,0,none⟩) 2 2) (w.alloc (.cells (madeCells #[.slice none 0 0] 2) 51)):=by
 obtain⟨i,hi,D,E,F⟩:=info_parts Nj;have h:=run_make (P:=prog) w 25 51 i _ underlying25 hi D .i64 .i64 2 2 oaa oaa (by rw[F];omega) oaa;rw[E] at h;exact h
theorem Nl{listed:Array Bool}:(listed.setIfInBounds i true).getD i true=true:=by
 rw[Array.getD_eq_getD_getElem?,Array.getElem?_setIfInBounds];split
 ·split <;> rfl
 ·rename_i D;exact absurd rfl D
theorem Nn{listed:Array Bool}(D:j<listed.size)(h:listed.getD j true=true):listed.getD j false=true:=by
 rw[Array.getD_eq_getD_getElem?] at h |-;rw[Array.getElem?_eq_getElem D] at h |-;exact h
theorem Np{P:Program}{ops:Array Oper}{Q:Exit->Act->World->Prop}{K:Act->World->Prop}{a:Act}{w w' : World}{o:Oper}(E:ops[i]?=some o)(hg:o.guard=none)(F:(execOp a.eval o).run P w=.ok .skip w')(D:K (a.put o.dst undef) w'):wpOp P ops Q i K a w:=by
 unfold wpOp;rw[E];dsimp only;have hw:Region.wanted o (yielded ops a.tmps)=true:=by unfold Region.wanted;rw[hg]
 rw[ye hw];left;unfold Oper.wp;rw[F];exact D
def set5(W:Wd)(b:Nat)(u0 u1 u2 u3 u4:Value):World:=((((W.setCell ⟨b,0,none⟩ u0).setCell ⟨b,1,none⟩ u1).setCell ⟨b,2,none⟩ u2).setCell ⟨b,3,none⟩ u3).setCell ⟨b,4,none⟩ u4
theorem Nq(W:Wd)(b k:Nat)(u0 u1 u2 u3 u4:Value)(h:k≠b):(set5 W b u0 u1 u2 u3 u4).heap[k]?=W.heap[k]?:=by
 unfold set5;rw[yx _ _ _ _ h,yx _ _ _ _ h,yx _ _ _ _ h,yx _ _ _ _ h,yx _ _ _ _ h]
theorem VT{z0 Z D:Value}(h:W.heap[b]?=some (.cells #[z0,Z,F,E,D] t (0,0))):(set5 W b u0 u1 u2 u3 u4).heap[b]?=some (.cells #[u0,u1,u2,u3,u4] t (0,0)):=by
 unfold set5;have M:(W.setCell ⟨b,0,none⟩ u0).heap[b]?=some (.cells #[u0,Z,F,E,D] t (0,0)):=bR (i:=0) h;generalize W.setCell ⟨b,0,none⟩ u0=W0 at M |-;have O:(W0.setCell ⟨b,1,none⟩ u1).heap[b]?=some (.cells #[u0,u1,F,E,D] t (0,0)):=bR (i:=1) M;generalize W0.setCell ⟨b,1,none⟩ u1=I at O |-;have T:(I.setCell ⟨b,2,none⟩ u2).heap[b]?=some (.cells #[u0,u1,u2,E,D] t (0,0)):=bR (i:=2) O;generalize I.setCell ⟨b,2,none⟩ u2=J at T |-;have U:(J.setCell ⟨b,3,none⟩ u3).heap[b]?=some (.cells #[u0,u1,u2,u3,D] t (0,0)):=bR (i:=3) T;generalize J.setCell ⟨b,3,none⟩ u3=W3 at U |-;exact bR (i:=4) U
theorem dS{D v1 v2:Value}(h:W.heap[b]?=some (.cells #[D,v1,v2,E,F] t (0,0))):W.cell? ⟨b,0,none⟩=some D/\W.cell? ⟨b,1,none⟩=some v1/\W.cell? ⟨b,2,none⟩=some v2/\W.cell? ⟨b,3,none⟩=some E/\W.cell? ⟨b,4,none⟩=some F/\(∀ o,W.frozen? ⟨b,o,none⟩=false)/\b<W.heap.size :=
 ⟨by simp[World.cell?,h],by simp[World.cell?,h],by simp[World.cell?,h],by simp[World.cell?,h],by simp[World.cell?,h],fun o=>by simp[World.frozen?,h],aR h⟩
theorem SlX.set5{D:Nat}(h:SlX W v n X t)(hb:W.heap[b]?=some (.cells Y D (0,0)))(hn:X.size≠Y.size)(u0 u1 u2 u3 u4:Value):SlX (YtcbcpomacdngmaaGreat.set5 W b u0 u1 u2 u3 u4) v n X t:=by
 obtain⟨k,e,hh⟩:=h;refine⟨k,e,(Nq W b k _ _ _ _ _ (fun e=>?_)).trans hh⟩;subst e;rw[hb] at hh;cases hh;exact hn rfl
theorem Nr{X:Nat->Prop}(h:X b):aC X W (YtcbcpomacdngmaaGreat.set5 W b u0 u1 u2 u3 u4):=((((aC.set W u0 h).trans (aC.set _ u1 h)).trans (aC.set _ u2 h)).trans (aC.set _ u3 h)).trans (aC.set _ u4 h)
theorem VU{B:Nat}(h:Below B W D)(hb:B<=b)(u0 u1 u2 u3 u4:Value):Below B W (YtcbcpomacdngmaaGreat.set5 D b u0 u1 u2 u3 u4):=((((h.setCell hb _).setCell hb _).setCell hb _).setCell hb _).setCell hb _
def tFr(a0 a1 a2 a3 J M O T:OA)(D E F I c0 c1 c2 c3 d0 d1 d2 d3 p1 p3:Nat)(v5 U Z a5 a6 a7 a8 a9 b4 b5 b6 b7 b8 b9 c6 c7 c8 c9 d4 d5 d6:Value):Act:=⟨#[.bool false,.pointer (some ⟨p1,0,none⟩),.int .i64 0,.pointer (some ⟨p3,0,none⟩),.int .i64 0,v5,undef,undef,.tuple #[.agg #[.slice a0 D c0,.slice a1 E c1,.slice a2 F c2,.slice a3 I c3],.int .i64 0],.tuple #[.agg #[.slice a0 D c0,.slice a1 E c1,.slice a2 F c2,.slice a3 I c3],.int .i64 0],.agg #[.slice a0 D c0,.slice a1 E c1,.slice a2 F c2,.slice a3 I c3],.int .i64 0,.tuple #[.agg #[.slice J D d0,.slice M E d1,.slice O F d2,.slice T I d3],.int .i64 0],.tuple #[.agg #[.slice J D d0,.slice M E d1,.slice O F d2,.slice T I d3],.int .i64 0],.agg #[.slice J D d0,.slice M E d1,.slice O F d2,.slice T I d3],.int .i64 0,U,Z,a5,a6,a7,a8,a9,b4,b5,b6,b7,b8,b9,c6,c7,c8,c9,d4,d5,d6,undef,undef,undef,undef,undef,undef,undef,undef,undef,undef,undef,undef,undef,undef,undef,undef,undef,undef,undef,undef,undef,undef,undef,undef,undef,undef,undef,undef,undef,undef,undef,undef,undef,undef,undef,undef,undef,undef,undef,undef,undef,undef,undef],[]⟩
structure TP (a0 a1 a2 a3 b0 b1 b2 b3:OA) (m0 m1 m2 m3 c0 c1 c2 c3 d0 d1 d2 d3 p1 p3:Nat) (W0:Wd) (listed:Array Bool) (W:Wd) (v5 v16 v17 v18 v19 v20 v21 v22 v23 v24 v25 v26 v27 v28 v29 v30 v31 v32 v33 v34 v35:Value):Prop where
 bel:Bl W0 W
 size:listed.size=22
 f0:listed.getD 0 true=true->v16=.agg #[.int .i64 (-1),.int .i64 0,.int .i64 7,.int .i64 0,.bool false]
 f1:listed.getD 1 true=true->v17=.agg #[.int .i64 0,.int .i64 1,.int .i64 1,.int .i64 0,.bool false]
 f2:listed.getD 2 true=true->SlX W v18 2 #[.int .i64 (-1),.int .i64 0,.int .i64 7,.int .i64 0,.bool false,.int .i64 0,.int .i64 1,.int .i64 1,.int .i64 0,.bool false] 65
 f3:listed.getD 3 true=true->v19=.agg #[.slice a0 m0 c0,.slice a1 m1 c1,.slice a2 m2 c2,.slice a3 m3 c3]
 f4:listed.getD 4 true=true->v20=.agg #[.slice b0 m0 d0,.slice b1 m1 d1,.slice b2 m2 d2,.slice b3 m3 d3]
 f5:listed.getD 5 true=true->SlX W v21 2 #[.slice a0 m0 c0,.slice a1 m1 c1,.slice a2 m2 c2,.slice a3 m3 c3,.slice b0 m0 d0,.slice b1 m1 d1,.slice b2 m2 d2,.slice b3 m3 d3] 50
 f6:listed.getD 6 true=true->SlX W v22 2 (madeCells #[.slice none 0 0] 2) 51
 f7:listed.getD 7 true=true->v23=.agg #[.int .i64 1,.int .i64 0,.int .i64 0,.int .i64 0,.int .i64 1]
 f8:listed.getD 8 true=true->v24=.agg #[.int .i64 5,.int .i64 0,.int .i64 0,.int .i64 0,.int .i64 7]
 f9:listed.getD 9 true=true->v25=.agg #[.int .i64 10,.int .i64 1,.int .i64 0,.int .i64 0,.int .i64 1]
 f10:listed.getD 10 true=true->v26=.agg #[.int .i64 9,.int .i64 0,.int .i64 0,.int .i64 0,.int .i64 0]
 f11:listed.getD 11 true=true->SlX W v27 4 #[.int .i64 1,.int .i64 0,.int .i64 0,.int .i64 0,.int .i64 1,.int .i64 5,.int .i64 0,.int .i64 0,.int .i64 0,.int .i64 7,.int .i64 10,.int .i64 1,.int .i64 0,.int .i64 0,.int .i64 1,.int .i64 9,.int .i64 0,.int .i64 0,.int .i64 0,.int .i64 0] 36
 f12:listed.getD 12 true=true->v28=.agg #[.int .i64 1,.int .i64 0,.int .i64 0,.int .i64 0,.int .i64 0]
 f13:listed.getD 13 true=true->v29=.agg #[.int .i64 11,.int .i64 0,.int .i64 0,.int .i64 0,.int .i64 1]
 f14:listed.getD 14 true=true->v30=.agg #[.int .i64 6,.int .i64 0,.int .i64 0,.int .i64 0,.int .i64 0]
 f15:listed.getD 15 true=true->v31=.agg #[.int .i64 12,.int .i64 0,.int .i64 0,.int .i64 0,.int .i64 0]
 f16:listed.getD 16 true=true->v32=.agg #[.int .i64 10,.int .i64 0,.int .i64 0,.int .i64 0,.int .i64 0]
 f17:listed.getD 17 true=true->SlX W v33 5 #[.int .i64 1,.int .i64 0,.int .i64 0,.int .i64 0,.int .i64 0,.int .i64 11,.int .i64 0,.int .i64 0,.int .i64 0,.int .i64 1,.int .i64 6,.int .i64 0,.int .i64 0,.int .i64 0,.int .i64 0,.int .i64 12,.int .i64 0,.int .i64 0,.int .i64 0,.int .i64 0,.int .i64 10,.int .i64 0,.int .i64 0,.int .i64 0,.int .i64 0] 36
 f18:listed.getD 18 true=true->listed.getD 11 true=true/\listed.getD 17 true=true/\SlX W v34 2 #[v27,v33] 34
 f19:listed.getD 19 true=true->listed.getD 2 true=true/\listed.getD 5 true=true/\listed.getD 6 true=true/\listed.getD 18 true=true/\v35=.agg #[v18,v21,v34,v22,.slice none 0 0]
 f20:listed.getD 20 true=true->∃ b,v5=.pointer (some ⟨b,0,none⟩)/\W.heap[b]?=some (.cells #[.slice none 0 0,.slice none 0 0,.slice none 0 0,.slice none 0 0,.slice none 0 0] 28 (0,0))
 f20b:listed.getD 20 true=true->∀ b,v5=.pointer (some ⟨b,0,none⟩)->W0.heap.size<=b
structure TD (a0 a1 a2 a3 b0 b1 b2 b3:OA) (m0 m1 m2 m3 c0 c1 c2 c3 d0 d1 d2 d3 p1 p3:Nat) (W0:Wd) (W:Wd) (v5 v16 v17 v18 v19 v20 v21 v22 v23 v24 v25 v26 v27 v28 v29 v30 v31 v32 v33 v34 v35:Value):Prop where
 bel:Bl W0 W
 h18:SlX W v18 2 #[.int .i64 (-1),.int .i64 0,.int .i64 7,.int .i64 0,.bool false,.int .i64 0,.int .i64 1,.int .i64 1,.int .i64 0,.bool false] 65
 h21:SlX W v21 2 #[.slice a0 m0 c0,.slice a1 m1 c1,.slice a2 m2 c2,.slice a3 m3 c3,.slice b0 m0 d0,.slice b1 m1 d1,.slice b2 m2 d2,.slice b3 m3 d3] 50
 h22:SlX W v22 2 (madeCells #[.slice none 0 0] 2) 51
 h27:SlX W v27 4 #[.int .i64 1,.int .i64 0,.int .i64 0,.int .i64 0,.int .i64 1,.int .i64 5,.int .i64 0,.int .i64 0,.int .i64 0,.int .i64 7,.int .i64 10,.int .i64 1,.int .i64 0,.int .i64 0,.int .i64 1,.int .i64 9,.int .i64 0,.int .i64 0,.int .i64 0,.int .i64 0] 36
 h33:SlX W v33 5 #[.int .i64 1,.int .i64 0,.int .i64 0,.int .i64 0,.int .i64 0,.int .i64 11,.int .i64 0,.int .i64 0,.int .i64 0,.int .i64 1,.int .i64 6,.int .i64 0,.int .i64 0,.int .i64 0,.int .i64 0,.int .i64 12,.int .i64 0,.int .i64 0,.int .i64 0,.int .i64 0,.int .i64 10,.int .i64 0,.int .i64 0,.int .i64 0,.int .i64 0] 36
 h34:SlX W v34 2 #[v27,v33] 34
 h5:∃ b,v5=.pointer (some ⟨b,0,none⟩)/\W0.heap.size<=b/\W.heap[b]?=some (.cells #[v18,v21,v34,v22,.slice none 0 0] 28 (0,0))
def tWR(R Q:Rl):Wl:=⟨[⟨-1,0,7,0,false⟩,⟨0,1,1,0,false⟩],[R,Q],[[⟨1,0,0,0,1⟩,⟨5,0,0,0,7⟩,⟨10,1,0,0,1⟩,⟨9,0,0,0,0⟩],[⟨1,0,0,0,0⟩,⟨11,0,0,0,1⟩,⟨6,0,0,0,0⟩,⟨12,0,0,0,0⟩,⟨10,0,0,0,0⟩]],[[],[]],[]⟩
theorem bN(h:W.heap[k]?=some (.cells X t (0,0)))(hv:X[j]?=some v):W.cell? ⟨k,j,none⟩=some v:=by
 simp[World.cell?,h,hv]
theorem vP{I:Nat}{E:Wd}(F:aC (fun c=>c=b) W E)(hb:W.heap[b]?=some (.cells Y I (0,0)))(D:W.heap[k]?=some (.cells X t (0,0)))(hn:X.size≠Y.size):E.heap[k]?=some (.cells X t (0,0)) :=
 (F.block k (aR D) (fun e=>by subst e;rw[hb] at D;cases D;exact hn rfl)).trans D
theorem aU.offX{X:Nat->Prop}{W0:Wd}{A:RA}(h:aU W0 A R)(hb:Bl W0 W)(J:∀ b,X b->W0.heap.size<=b)(F:aC X W D):aU D A R:=by
 have I:aU { D with os:=W0.os,tape:=W0.tape,output:=W0.output } A R:=h.below ⟨rfl,rfl,rfl,yJ hb.size F.size,fun k E=>(F.block k (yC E hb.size) (fun M=>by have:=J k M;omega)).trans (hb.block k E)⟩;exact I
def VV(w:Wd)(R Q:Rl)(s5:Value)(D:Wd):Prop:=∃ (b:Nat) (A:WA),s5=.pointer (some ⟨b,0,none⟩)/\w.heap.size<=b/\Below w.heap.size w D/\D.heap[b]?=some (.cells #[.slice A.a0 2 A.c0,.slice A.a1 2 A.c1,.slice A.a2 2 A.c2,.slice A.a3 2 A.c3,.slice A.a4 0 A.c4] 28 (0,0))/\WlC A (tWR R Q)/\cO (fun c=>c=b) D A (tWR R Q)
theorem zD(h:n<=9223372036854775807):SlA (some ⟨b,0,none⟩) n n:=⟨(fun h=>oah),yr _,h⟩
theorem Ns{w:Wd}{Q:Rl}{a0 a1 a2 a3 b0 b1 b2 b3:OA}{m0 m1 m2 m3 c0 c1 c2 c3 d0 d1 d2 d3 p1 p3:Nat}{W0:Wd}{v5 d9 e4 a9 e6 e7 b4 b5 e8 e9 g0 g4 g5 g6 g7 g8 g9 h2 h3 b6 h4:Value}(I:TD a0 a1 a2 a3 b0 b1 b2 b3 m0 m1 m2 m3 c0 c1 c2 c3 d0 d1 d2 d3 p1 p3 W0 W v5 d9 e4 a9 e6 e7 b4 b5 e8 e9 g0 g4 g5 g6 g7 g8 g9 h2 h3 b6 h4)(e5:v5=.pointer (some ⟨b,0,none⟩))(U:W0.heap.size<=b)(F:W.heap[b]?=some (.cells #[a9,b4,b6,b5,.slice none 0 0] 28 (0,0)))
  (b9:aU W0 ⟨a0,a1,a2,a3,c0,c1,c2,c3⟩ R) (c6:aU W0 ⟨b0,b1,b2,b3,d0,d1,d2,d3⟩ Q) (HM:(R.s.length=m0/\R.hs.length=m1/\R.i.length=m2/\R.t.length=m3)/\(Q.s.length=m0/\Q.hs.length=m1/\Q.i.length=m2/\Q.t.length=m3)) (HB:Bl w W0):VV w R Q v5 W:=by
 obtain⟨J,h18,h21,h22,h27,h33,h34,_⟩:=I;obtain⟨a5,rfl,c7⟩:=h18;obtain⟨a6,rfl,c8⟩:=h21;obtain⟨a7,rfl,c9⟩:=h22;obtain⟨d7,rfl,d4⟩:=h27;obtain⟨d8,rfl,d5⟩:=h33;obtain⟨a8,rfl,d6⟩:=h34;obtain⟨⟨e0,e1,e2,e3⟩,⟨f0,f1,f2,f3⟩⟩:=HM;subst e0 e1 e2 e3;refine⟨b,⟨some ⟨a5,0,none⟩,some ⟨a6,0,none⟩,some ⟨a8,0,none⟩,some ⟨a7,0,none⟩,none,2,2,2,2,0⟩,e5,yJ HB.size U,HB.trans (J.mono HB.size),F,⟨zD (n:=2) oae,zD (n:=2) oae,zD (n:=2) oae,zD (n:=2) oae,jE⟩,fun W' T=>?_⟩;have D:=vP T F c7 oac;have E:=vP T F c8 oac;have b7:=vP T F c9 (by simp[size_madeCells]);have M:=vP T F d4 oac;have O:=vP T F d5 oac;have b8:=vP T F d6 oac;have r1:=b9.offX J (X:=fun c=>c=b) (fun c e=>by rw[e];exact U) T;have r2:=c6.offX J (X:=fun c=>c=b) (fun c e=>by rw[e];exact U) T;refine⟨fun i hi=>?_,fun i hi=>?_,fun i hi=>?_,fun i hi=>?_,fun i hi=>absurd hi (yB _)⟩
 ·obtain rfl|rfl:i=0\/i=1:=by have:i<2:=hi;omega
  ·exact⟨a5,0,rfl,bN D rfl,bN D rfl,bN D rfl,bN D rfl,bN D rfl⟩
  ·exact⟨a5,0,rfl,bN D rfl,bN D rfl,bN D rfl,bN D rfl,bN D rfl⟩
 ·obtain rfl|rfl:i=0\/i=1:=by have:i<2:=hi;omega
  ·exact⟨a6,0,⟨a0,a1,a2,a3,c0,c1,c2,c3⟩,rfl,bN E rfl,bN E rfl,bN E rfl,bN E rfl,r1⟩
  ·refine⟨a6,0,⟨b0,b1,b2,b3,d0,d1,d2,d3⟩,rfl,?_,?_,?_,?_,r2⟩
   ·show _=some (Value.slice b0 Q.s.length d0);rw[f0];exact bN E rfl
   ·show _=some (Value.slice b1 Q.hs.length d1);rw[f1];exact bN E rfl
   ·show _=some (Value.slice b2 Q.i.length d2);rw[f2];exact bN E rfl
   ·show _=some (Value.slice b3 Q.t.length d3);rw[f3];exact bN E rfl
 ·obtain rfl|rfl:i=0\/i=1:=by have:i<2:=hi;omega
  ·refine⟨a8,0,_,_,rfl,bN b8 rfl,fun j Z=>?_⟩;obtain rfl|rfl|rfl|rfl:j=0\/j=1\/j=2\/j=3:=by have:j<4:=Z;omega
   all_goals exact⟨d7,0,rfl,bN M rfl,bN M rfl,bN M rfl,bN M rfl,bN M rfl⟩
  ·refine⟨a8,0,_,_,rfl,bN b8 rfl,fun j Z=>?_⟩;obtain rfl|rfl|rfl|rfl|rfl:j=0\/j=1\/j=2\/j=3\/j=4:=by have:j<5:=Z;omega
   all_goals exact⟨d8,0,rfl,bN O rfl,bN O rfl,bN O rfl,bN O rfl,bN O rfl⟩
 ·obtain rfl|rfl:i=0\/i=1:=by have:i<2:=hi;omega
  ·exact⟨a7,0,none,0,rfl,bN b7 (by simp[madeCells];rfl),jE,fun j Z=>absurd Z (yB _)⟩
  ·exact⟨a7,0,none,0,rfl,bN b7 (by simp[madeCells];rfl),jE,fun j Z=>absurd Z (yB _)⟩
def TQ(J sa:OA)(W:Wd):Prop:=∃ (D E:Nat) (ta F:OA) (tc I:Nat),J=some ⟨D,E,none⟩/\W.cell? ⟨D,E+3,none⟩=some (.slice ta 4 tc)/\W.cell? ⟨D,E+7,none⟩=some (.slice F 5 I)/\aG W ta [0,0,0,1]/\aG W F [0,0,7,-7,-7]/\aG W sa [0,0,8]
def VW(R Q:Rl):Prop:=∀ (b:Nat) (A:WA) (kb:Nat) (W:Wd),b<W.heap.size->WlC A (tWR R Q)->cO (fun c=>c=b) W A (tWR R Q)->mO W (some ⟨kb,0,none⟩) tL ->
 yO 20 #[.agg #[.slice A.a0 2 A.c0,.slice A.a1 2 A.c1,.slice A.a2 2 A.c2,.slice A.a3 2 A.c3,.slice A.a4 0 A.c4],.slice (some ⟨kb,0,none⟩) 3 3] W fun e w' => ∃ (O D T U Z sa:OA) (F I J M d0 d1 d2 d3 E sc:Nat),e=.returned (.tuple #[.agg #[.slice O F d0,.slice D 2 d1,.slice T I d2,.slice U J d3,.slice Z M E],.slice sa 3 sc,.int .i64 0])/\Below W.heap.size W w' /\ St (fun c=>c=b) (TQ D sa) w'
theorem Nt:kS (tWR (bB 2) (bB 2)):=by
 have D:iG (bB 2):=uS (by decide +kernel);refine⟨oae,⟨oae,fun i hi=>?_⟩,⟨oae,fun i hi=>?_⟩,⟨oae,fun i hi=>?_⟩,oae,fun i hi=>absurd hi (yB _)⟩
 ·obtain rfl|rfl:i=0\/i=1:=by have:i<2:=hi;omega
  all_goals exact D
 ·obtain rfl|rfl:i=0\/i=1:=by have:i<2:=hi;omega
  all_goals decide
 ·obtain rfl|rfl:i=0\/i=1:=by have:i<2:=hi;omega
  all_goals exact⟨oae,fun j E=>absurd E (yB _)⟩
theorem Nu(hR:EJ):VW (bB 2) (bB 2):=fun b A kb W hb hC hS hP=>by
 refine(hR (fun c=>c=b) A (tWR (bB 2) (bB 2)) (some ⟨kb,0,none⟩) 3 tL W (fun c e=>by rw[e];exact hb) Nt hC hS oae (zD (n:=3) oae) hP).mono ?_;rintro e w' ⟨B,sa,sc,he,D,_,hW,hI⟩;obtain⟨t1,t2,t3,t4,t5⟩:=Nf;have O:kT (tWR (bB 2) (bB 2)) tL=0:=t1;have E:qO (tWR (bB 2) (bB 2)) tL=[0,0,8]:=t2;have F:(rl (jU (tWR (bB 2) (bB 2)) tL).rs 0).t=[0,0,0,1]:=t3;have I:(rl (jU (tWR (bB 2) (bB 2)) tL).rs 1).t=[0,0,7,-7,-7]:=t4;have T:(jU (tWR (bB 2) (bB 2)) tL).rs.length=2:=t5;clear t1 t2 t3 t4 t5 hS hC hP;rw[O,E] at he;rw[E] at hI;generalize jU (tWR (bB 2) (bB 2)) tL=Z at *;refine⟨B.a0,B.a1,B.a2,B.a3,B.a4,sa,Z.fs.length,Z.ps.length,Z.qs.length,Z.pt.length,B.c0,B.c1,B.c2,B.c3,B.c4,sc,?_,D,fun W' ho=>?_⟩
 ·refine he.trans ?_;rw[<- T];rfl
 ·have hr:=(hW W' ho).rs;obtain⟨rb,ro,U,x1,_,_,_,x5,x6⟩:=hr 0 oaa;obtain⟨J,M,A1,y1,_,_,_,y5,y6⟩:=hr 1 oaa;rw[x1] at y1
  obtain⟨rfl,rfl⟩:rb=J/\ro=M:=by
   have:=Option.some.inj y1;exact⟨congrArg Addr.block this,congrArg Addr.off this⟩
  refine⟨rb,ro,U.a3,A1.a3,U.c3,A1.c3,x1,?_,?_,?_,?_,hI W' ho⟩
  ·rw[F] at x5;exact x5
  ·rw[I] at y5;exact y5
  ·have:=x6.2.2.2;rw[F] at this;exact this
  ·have:=y6.2.2.2;rw[I] at this;exact this
theorem Nv(a M:OA)(c U:Nat)(ks D:List Int)(w:Wd)(T:ks.length<=9223372036854775807)(h1:aG w a ks)(I:aG w M D) :
  yO 22 #[.slice a ks.length c,.slice M D.length U] w fun e w' => e=.returned (.bool (decide (ks=D)))/\Below w.heap.size w w' := by
 by_cases hl:ks.length=D.length
 ·have same:(∀ i,i<ks.length->ks.getD i 0=D.getD i 0)->decide (ks=D)=true:=fun H=>by
   refine yI (List.ext_getElem hl fun i hi J=>?_);have:=H i hi
   rwa [aJ _ _ hi,aJ _ _ J] at this
  have other:∀ i,ks.getD i 0≠D.getD i 0->decide (ks=D)=false:=fun i H=>yH fun e=>H (by rw[e]);rw[<- hl];have S:Hid _:=same;have O:Hid _:=other;clear same other;generalize hn:ks.length=n at *
  go_enter func22,ntmps22
  go_wp2
  go_loopg [13] n (fun g s13 wr=>∃ k:Nat,k<=n/\n-k<=g/\s13=.int .i64 k/\Below w.heap.size w wr/\Hid (∀ i,i<k->ks.getD i 0=D.getD i 0))
  case atStart=>exact⟨0,Nat.zero_le _,oaa,rfl,yv _ _,fun i hi=>oaa⟩
  case round =>
   obtain⟨k,hk,hg,rfl,hb,A⟩:=hrel;by_cases a6:k<n
   ·obtain⟨b,o,rfl,g1⟩:=(h1.below hb) k oaa;obtain⟨b', o', rfl,g2⟩:=(I.below hb) k oaa;clear h1 I;by_cases F:ks.getD k 0=D.getD k 0
    ·have E:Hid (ks.getD k 0=D.getD k 0):=F;rw[<- F] at g2;clear F;generalize ks.getD k 0=y at g1 g2
     go_wp2_with fail
     go_region
     all_goals go_wp2
     all_goals go_roundg (n-(k+1))
     case measure=>omega
     case rel =>
      refine⟨k+1,oaa,oaa,by go_num,hb.drew,(show Hid _ from fun i hi=>?_)⟩;by_cases e:i=k
      ·subst e;exact E.out
      ·exact A.out i oaa
    ·have Z:=O.out k F;generalize ks.getD k 0=y at g1 F;generalize D.getD k 0=y' at g2 F
     go_wp2_with fail
     go_region
     all_goals go_wp2
     all_goals go_ret
     rw[Z];exact⟨rfl,hb.drew⟩
   ·clear h1 I;have:k=n:=oaa;subst this
    go_wp2
    go_ret;rw[S.out A.out];exact⟨rfl,hb⟩
 ·have hd:decide (ks=D)=false:=yH fun e=>hl (by rw[e]);have a5:¬ ((ks.length:Int)=(D.length:Int)):=oaa
  rw[hd];clear h1 I hd;generalize ks.length=n at *;generalize D.length=n' at *
  go_enter func22,ntmps22
  go_wp2
  go_ret;exact⟨rfl,yv _ _⟩
theorem LZ(W:Wd)(ks:List Int)(t:Nat):aG (W.alloc (.cells (ks.map (Value.int .i64)).toArray t)) (some ⟨W.heap.size,0,none⟩) ks:=fun i hi=>⟨_,0,rfl,aK W _ _ _ (by simp[hi])⟩
theorem Nw{D:OA}{E:Nat}(hn:ks.length=n)(hb:ks.length<=9223372036854775807)(h:aG W a ks)(F:aG W D ks):yO 22 #[.slice a n c,.slice D n E] W fun e w' => e=.returned (.bool true)/\Below W.heap.size W w' := by
 subst hn;refine(Nv a D c E ks ks W hb h F).mono ?_;rintro e w' ⟨I,hb⟩;exact⟨I.trans (by rw[yI rfl]),hb⟩
theorem VX{D:OA}{E:Nat}(hn:ks.length=n)(hb:ks.length<=9223372036854775807)(h:aG W a ks)(F:aG W D ks):yO 29 #[.slice a n c,.slice D n E] W fun e w' => e=.returned (.bool true)/\Below W.heap.size W w' := by
 subst hn;refine(wI a D c E ks ks W hb h F).mono ?_;rintro e w' ⟨I,hb⟩;exact⟨I.trans (by rw[yI rfl]),hb⟩
theorem Ny(R:Rl)(m0 m1 m2 m3:Nat)(HM:Hid (R.s.length=m0/\R.hs.length=m1/\R.i.length=m2/\R.t.length=m3))(D:Hid (∀ w:World,yO 28 #[.int .i64 2] w fun e w' => ∃ (b0 b1 b2 b3:OA) (d0 d1 d2 d3:Nat),e=.returned (.tuple #[.agg #[.slice b0 m0 d0,.slice b1 m1 d1,.slice b2 m2 d2,.slice b3 m3 d3],.int .i64 0])/\Below w.heap.size w w' /\ aU w' ⟨b0,b1,b2,b3,d0,d1,d2,d3⟩ R))(DR:Hid (VW R R))(w:Wd):yO 9 #[] w fun e w' => e=.returned (.bool true)/\Below w.heap.size w w' := by
 go_enter func9,ntmps9
 go_wp2_with fail
 refine yj (D _) ?_;rintro e w1 ⟨a0,a1,a2,a3,c0,c1,c2,c3,rfl,hb,hr⟩;have i4:Hid (Bl w w1):=hb;have k2:Hid (aU w1 ⟨a0,a1,a2,a3,c0,c1,c2,c3⟩ R):=hr;clear hb hr
 go_wp2_with fail
 refine yj (D _) ?_;rintro e w2 ⟨b0,b1,b2,b3,d0,d1,d2,d3,rfl,hb,hr⟩;have m4:(Below (w1.heap.size+1) (w1.alloc (.cells #[.slice a0 m0 c0,.slice a1 m1 c1,.slice a2 m2 c2,.slice a3 m3 c3] 50)) w2):=by simpa using hb
 have j0:Hid _:=m4;have k3:Hid (aU w2 ⟨b0,b1,b2,b3,d0,d1,d2,d3⟩ R):=hr;clear hb m4 hr D
 go_upto_region 3 with fail
 go_cut [5] (fun s5 wx=>Hid (VV w R R s5 wx))
 case first =>
  obtain⟨W0,h6⟩:∃ W0,w2.alloc (.cells #[.slice b0 m0 d0,.slice b1 m1 d1,.slice b2 m2 d2,.slice b3 m3 d3] 50)=W0:=⟨_,rfl⟩
  have K1:Hid (W0.heap[w1.heap.size]?=some (.cells #[.slice a0 m0 c0,.slice a1 m1 c1,.slice a2 m2 c2,.slice a3 m3 c3] 50 (0,0))):=by
   rw[<- h6];exact aH ((j0.block _ oaa).trans (mJ _ _ _ _ _ _)) (aB _ _)
  have K3:Hid (W0.heap[w2.heap.size]?=some (.cells #[.slice b0 m0 d0,.slice b1 m1 d1,.slice b2 m2 d2,.slice b3 m3 d3] 50 (0,0))):=by
   rw[<- h6];exact mJ _ _ _ _ _ _
  have h8:Hid (Bl w1 w2):=(aB w1 _).trans (j0.mono oaa)
  have HB:Hid (Bl w W0):=by
   rw[<- h6];exact(i4.trans (h8.mono i4.size)).trans ((aB w2 _).mono (yJ i4.size h8.size))
  have l6:Hid (aU W0 ⟨a0,a1,a2,a3,c0,c1,c2,c3⟩ R):=by
   rw[<- h6];exact(k2.below h8).below (aB _ _)
  have l7:Hid (aU W0 ⟨b0,b1,b2,b3,d0,d1,d2,d3⟩ R):=by
   rw[<- h6];exact k3.below (aB _ _)
  have m8:Hid ((R.s.length=m0/\R.hs.length=m1/\R.i.length=m2/\R.t.length=m3)/\(R.s.length=m0/\R.hs.length=m1/\R.i.length=m2/\R.t.length=m3)):=⟨HM.out,HM.out⟩;rw[h6];clear h6 k2 k3 HM i4 j0 h8;refine Ng (fun listed a W=>∃ v5 a5 a6 J a7 a8 M O a9 b4 b5 b6 U b7 b8 b9 c6 c7 Z T c8:Value,a=tFr a0 a1 a2 a3 b0 b1 b2 b3 m0 m1 m2 m3 c0 c1 c2 c3 d0 d1 d2 d3 w1.heap.size w2.heap.size v5 a5 a6 J a7 a8 M O a9 b4 b5 b6 U b7 b8 b9 c6 c7 Z T c8/\((listed.getD 21 true=false/\Hid (TP a0 a1 a2 a3 b0 b1 b2 b3 m0 m1 m2 m3 c0 c1 c2 c3 d0 d1 d2 d3 w1.heap.size w2.heap.size W0 listed W v5 a5 a6 J a7 a8 M O a9 b4 b5 b6 U b7 b8 b9 c6 c7 Z T c8))\/((∀ j,j<22->listed.getD j true=true)/\Hid (TD a0 a1 a2 a3 b0 b1 b2 b3 m0 m1 m2 m3 c0 c1 c2 c3 d0 d1 d2 d3 w1.heap.size w2.heap.size W0 W v5 a5 a6 J a7 a8 M O a9 b4 b5 b6 U b7 b8 b9 c6 c7 Z T c8)))) oad ?_ ?_ ?_
  ·exact⟨undef,undef,undef,undef,undef,undef,undef,undef,undef,undef,undef,undef,undef,undef,undef,undef,undef,undef,undef,undef,undef,rfl,Or.inl ⟨rfl,⟨(yv _ _).drew,oac,fun h=>absurd h oae,fun h=>absurd h oae,fun h=>absurd h oae,fun h=>absurd h oae,fun h=>absurd h oae,fun h=>absurd h oae,fun h=>absurd h oae,fun h=>absurd h oae,fun h=>absurd h oae,fun h=>absurd h oae,fun h=>absurd h oae,fun h=>absurd h oae,fun h=>absurd h oae,fun h=>absurd h oae,fun h=>absurd h oae,fun h=>absurd h oae,fun h=>absurd h oae,fun h=>absurd h oae,fun h=>absurd h oae,fun h=>absurd h oae,fun h=>absurd h oae,fun h=>absurd h oae⟩⟩⟩
  ·intro listed a W i hI hi;obtain⟨m5,hl,o,ho,hd⟩:=Nh hi;obtain⟨v5,a5,a6,J,a7,a8,M,O,a9,b4,b5,b6,U,b7,b8,b9,c6,c7,Z,T,c8,rfl,hc⟩:=hI;have m6:i<22:=m5;rcases hc with ⟨h21,I⟩ |⟨i8,I⟩
   rotate_left
   ·exact absurd (i8 i m6) (by rw[hl];decide)
   have g0:=fun(k:Nat) (n:0≠k) h=>I.f0 (gB (i:=k) h n);have g1:=fun(k:Nat) (n:1≠k) h=>I.f1 (gB (i:=k) h n);have g2:=fun(k:Nat) (n:2≠k) h=>I.f2 (gB (i:=k) h n);have g3:=fun(k:Nat) (n:3≠k) h=>I.f3 (gB (i:=k) h n);have g4:=fun(k:Nat) (n:4≠k) h=>I.f4 (gB (i:=k) h n);have g5:=fun(k:Nat) (n:5≠k) h=>I.f5 (gB (i:=k) h n);have g6:=fun(k:Nat) (n:6≠k) h=>I.f6 (gB (i:=k) h n);have g7:=fun(k:Nat) (n:7≠k) h=>I.f7 (gB (i:=k) h n);have g8:=fun(k:Nat) (n:8≠k) h=>I.f8 (gB (i:=k) h n);have g9:=fun(k:Nat) (n:9≠k) h=>I.f9 (gB (i:=k) h n);have c9:=fun(k:Nat) (n:10≠k) h=>I.f10 (gB (i:=k) h n);have d4:=fun(k:Nat) (n:11≠k) h=>I.f11 (gB (i:=k) h n);have g12:=fun(k:Nat) (n:12≠k) h=>I.f12 (gB (i:=k) h n);have g13:=fun(k:Nat) (n:13≠k) h=>I.f13 (gB (i:=k) h n);have d5:=fun(k:Nat) (n:14≠k) h=>I.f14 (gB (i:=k) h n);have d6:=fun(k:Nat) (n:15≠k) h=>I.f15 (gB (i:=k) h n);have d7:=fun(k:Nat) (n:16≠k) h=>I.f16 (gB (i:=k) h n);have d8:=fun(k:Nat) (n:17≠k) h=>I.f17 (gB (i:=k) h n);have d9:=fun(k:Nat) (n:18≠k) h=>I.f18 (gB (i:=k) h n);have h2:=fun(k:Nat) (n:19≠k) h=>I.f19 (gB (i:=k) h n);have h3:=fun(k:Nat) (n:20≠k) h=>I.f20 (gB (i:=k) h n);have E:=fun(k:Nat) (n:20≠k) h=>I.f20b (gB (i:=k) h n);obtain rfl|rfl|rfl|rfl|rfl|rfl|rfl|rfl|rfl|rfl|rfl|rfl|rfl|rfl|rfl|rfl|rfl|rfl|rfl|rfl|rfl|rfl:i=0\/i=1\/i=2\/i=3\/i=4\/i=5\/i=6\/i=7\/i=8\/i=9\/i=10\/i=11\/i=12\/i=13\/i=14\/i=15\/i=16\/i=17\/i=18\/i=19\/i=20\/i=21:=oaa
   all_goals (obtain rfl:=Option.some.inj (show some _=some o from ho);clear ho hi m5 m6)
   ·
    refine gQ (v:=.agg #[.int .i64 (-1),.int .i64 0,.int .i64 7,.int .i64 0,.bool false]) (w' := W) rfl rfl ?_ ?_
    ·dsimp only[tFr];go_simp
    ·refine⟨v5,(.agg #[.int .i64 (-1),.int .i64 0,.int .i64 7,.int .i64 0,.bool false]),a6,J,a7,a8,M,O,a9,b4,b5,b6,U,b7,b8,b9,c6,c7,Z,T,c8,by simp[tFr,Act.put],Or.inl ⟨(gF oae).trans h21,?_⟩⟩;exact⟨I.bel,by simp[I.size],fun _=>rfl,g1 0 nofun,g2 0 nofun,g3 0 nofun,g4 0 nofun,g5 0 nofun,g6 0 nofun,g7 0 nofun,g8 0 nofun,g9 0 nofun,c9 0 nofun,d4 0 nofun,g12 0 nofun,g13 0 nofun,d5 0 nofun,d6 0 nofun,d7 0 nofun,d8 0 nofun,fun h=>(let ⟨r11,r17,e⟩:=d9 0 nofun h;⟨aF r11,aF r17,e⟩),fun h=>(let ⟨r2,r5,r6,r18,e⟩:=h2 0 nofun h;⟨aF r2,aF r5,aF r6,aF r18,e⟩),h3 0 nofun,E 0 nofun⟩
   ·
    refine gQ (v:=.agg #[.int .i64 0,.int .i64 1,.int .i64 1,.int .i64 0,.bool false]) (w' := W) rfl rfl ?_ ?_
    ·dsimp only[tFr];go_simp
    ·refine⟨v5,a5,(.agg #[.int .i64 0,.int .i64 1,.int .i64 1,.int .i64 0,.bool false]),J,a7,a8,M,O,a9,b4,b5,b6,U,b7,b8,b9,c6,c7,Z,T,c8,by simp[tFr,Act.put],Or.inl ⟨(gF oae).trans h21,?_⟩⟩;exact⟨I.bel,by simp[I.size],g0 1 nofun,fun _=>rfl,g2 1 nofun,g3 1 nofun,g4 1 nofun,g5 1 nofun,g6 1 nofun,g7 1 nofun,g8 1 nofun,g9 1 nofun,c9 1 nofun,d4 1 nofun,g12 1 nofun,g13 1 nofun,d5 1 nofun,d6 1 nofun,d7 1 nofun,d8 1 nofun,fun h=>(let ⟨r11,r17,e⟩:=d9 1 nofun h;⟨aF r11,aF r17,e⟩),fun h=>(let ⟨r2,r5,r6,r18,e⟩:=h2 1 nofun h;⟨aF r2,aF r5,aF r6,aF r18,e⟩),h3 1 nofun,E 1 nofun⟩
   ·
    have e0:=I.f0 (bK hd (g:=.data) oac rfl);have e1:=I.f1 (bK hd (g:=.data) oac rfl);refine gQ (v:=.slice (some ⟨W.heap.size,0,none⟩) 2 2) (w' := W.alloc (.cells #[.int .i64 (-1),.int .i64 0,.int .i64 7,.int .i64 0,.bool false,.int .i64 0,.int .i64 1,.int .i64 1,.int .i64 0,.bool false] 65)) rfl rfl ?_ ?_
    ·dsimp only[tFr];rw[e0,e1];go_simp
    ·refine⟨v5,a5,a6,(.slice (some ⟨W.heap.size,0,none⟩) 2 2),a7,a8,M,O,a9,b4,b5,b6,U,b7,b8,b9,c6,c7,Z,T,c8,by simp[tFr,Act.put],Or.inl ⟨(gF oae).trans h21,?_⟩⟩;exact⟨I.bel.trans ((aB _ _).mono I.bel.size),by simp[I.size],g0 2 nofun,g1 2 nofun,fun _=>vO W _ _ _,g3 2 nofun,g4 2 nofun,fun h=>(g5 2 nofun h).below (aB _ _),fun h=>(g6 2 nofun h).below (aB _ _),g7 2 nofun,g8 2 nofun,g9 2 nofun,c9 2 nofun,fun h=>(d4 2 nofun h).below (aB _ _),g12 2 nofun,g13 2 nofun,d5 2 nofun,d6 2 nofun,d7 2 nofun,fun h=>(d8 2 nofun h).below (aB _ _),fun h=>(let ⟨r11,r17,e⟩:=d9 2 nofun h;⟨aF r11,aF r17,(e).below (aB _ _)⟩),fun h=>absurd ((h2 2 nofun h).1) (by rw[hl];decide),fun h=>(let ⟨b,e,hh⟩:=h3 2 nofun h;⟨b,e,aH hh (aB _ _)⟩),E 2 nofun⟩
   ·
    obtain⟨l0,l1,l2,l3,_,_⟩:=aV (aH K1.out I.bel);refine gQ (v:=.agg #[.slice a0 m0 c0,.slice a1 m1 c1,.slice a2 m2 c2,.slice a3 m3 c3]) (w' := W) rfl rfl ?_ ?_
    ·dsimp only[tFr];go_simp
    ·refine⟨v5,a5,a6,J,(.agg #[.slice a0 m0 c0,.slice a1 m1 c1,.slice a2 m2 c2,.slice a3 m3 c3]),a8,M,O,a9,b4,b5,b6,U,b7,b8,b9,c6,c7,Z,T,c8,by simp[tFr,Act.put],Or.inl ⟨(gF oae).trans h21,?_⟩⟩;exact⟨I.bel,by simp[I.size],g0 3 nofun,g1 3 nofun,g2 3 nofun,fun _=>rfl,g4 3 nofun,g5 3 nofun,g6 3 nofun,g7 3 nofun,g8 3 nofun,g9 3 nofun,c9 3 nofun,d4 3 nofun,g12 3 nofun,g13 3 nofun,d5 3 nofun,d6 3 nofun,d7 3 nofun,d8 3 nofun,fun h=>(let ⟨r11,r17,e⟩:=d9 3 nofun h;⟨aF r11,aF r17,e⟩),fun h=>(let ⟨r2,r5,r6,r18,e⟩:=h2 3 nofun h;⟨aF r2,aF r5,aF r6,aF r18,e⟩),h3 3 nofun,E 3 nofun⟩
   ·
    obtain⟨l0,l1,l2,l3,_,_⟩:=aV (aH K3.out I.bel);refine gQ (v:=.agg #[.slice b0 m0 d0,.slice b1 m1 d1,.slice b2 m2 d2,.slice b3 m3 d3]) (w' := W) rfl rfl ?_ ?_
    ·dsimp only[tFr];go_simp
    ·refine⟨v5,a5,a6,J,a7,(.agg #[.slice b0 m0 d0,.slice b1 m1 d1,.slice b2 m2 d2,.slice b3 m3 d3]),M,O,a9,b4,b5,b6,U,b7,b8,b9,c6,c7,Z,T,c8,by simp[tFr,Act.put],Or.inl ⟨(gF oae).trans h21,?_⟩⟩;exact⟨I.bel,by simp[I.size],g0 4 nofun,g1 4 nofun,g2 4 nofun,g3 4 nofun,fun _=>rfl,g5 4 nofun,g6 4 nofun,g7 4 nofun,g8 4 nofun,g9 4 nofun,c9 4 nofun,d4 4 nofun,g12 4 nofun,g13 4 nofun,d5 4 nofun,d6 4 nofun,d7 4 nofun,d8 4 nofun,fun h=>(let ⟨r11,r17,e⟩:=d9 4 nofun h;⟨aF r11,aF r17,e⟩),fun h=>(let ⟨r2,r5,r6,r18,e⟩:=h2 4 nofun h;⟨aF r2,aF r5,aF r6,aF r18,e⟩),h3 4 nofun,E 4 nofun⟩
   ·
    have e3:=I.f3 (bK hd (g:=.data) oac rfl);have e4:=I.f4 (bK hd (g:=.data) oac rfl);refine gQ (v:=.slice (some ⟨W.heap.size,0,none⟩) 2 2) (w' := W.alloc (.cells #[.slice a0 m0 c0,.slice a1 m1 c1,.slice a2 m2 c2,.slice a3 m3 c3,.slice b0 m0 d0,.slice b1 m1 d1,.slice b2 m2 d2,.slice b3 m3 d3] 50)) rfl rfl ?_ ?_
    ·dsimp only[tFr];rw[e3,e4];go_simp
    ·refine⟨v5,a5,a6,J,a7,a8,(.slice (some ⟨W.heap.size,0,none⟩) 2 2),O,a9,b4,b5,b6,U,b7,b8,b9,c6,c7,Z,T,c8,by simp[tFr,Act.put],Or.inl ⟨(gF oae).trans h21,?_⟩⟩;exact⟨I.bel.trans ((aB _ _).mono I.bel.size),by simp[I.size],g0 5 nofun,g1 5 nofun,fun h=>(g2 5 nofun h).below (aB _ _),g3 5 nofun,g4 5 nofun,fun _=>vO W _ _ _,fun h=>(g6 5 nofun h).below (aB _ _),g7 5 nofun,g8 5 nofun,g9 5 nofun,c9 5 nofun,fun h=>(d4 5 nofun h).below (aB _ _),g12 5 nofun,g13 5 nofun,d5 5 nofun,d6 5 nofun,d7 5 nofun,fun h=>(d8 5 nofun h).below (aB _ _),fun h=>(let ⟨r11,r17,e⟩:=d9 5 nofun h;⟨aF r11,aF r17,(e).below (aB _ _)⟩),fun h=>absurd ((h2 5 nofun h).2.1) (by rw[hl];decide),fun h=>(let ⟨b,e,hh⟩:=h3 5 nofun h;⟨b,e,aH hh (aB _ _)⟩),E 5 nofun⟩
   ·
    refine gQ (v:=.slice (some ⟨W.heap.size,0,none⟩) 2 2) (w' := W.alloc (.cells (madeCells #[.slice none 0 0] 2) 51)) rfl rfl ?_ ?_
    ·dsimp only[tFr];have o7:=Nk;go_simp
    ·refine⟨v5,a5,a6,J,a7,a8,M,(.slice (some ⟨W.heap.size,0,none⟩) 2 2),a9,b4,b5,b6,U,b7,b8,b9,c6,c7,Z,T,c8,by simp[tFr,Act.put],Or.inl ⟨(gF oae).trans h21,?_⟩⟩;exact⟨I.bel.trans ((aB _ _).mono I.bel.size),by simp[I.size],g0 6 nofun,g1 6 nofun,fun h=>(g2 6 nofun h).below (aB _ _),g3 6 nofun,g4 6 nofun,fun h=>(g5 6 nofun h).below (aB _ _),fun _=>vO W _ _ _,g7 6 nofun,g8 6 nofun,g9 6 nofun,c9 6 nofun,fun h=>(d4 6 nofun h).below (aB _ _),g12 6 nofun,g13 6 nofun,d5 6 nofun,d6 6 nofun,d7 6 nofun,fun h=>(d8 6 nofun h).below (aB _ _),fun h=>(let ⟨r11,r17,e⟩:=d9 6 nofun h;⟨aF r11,aF r17,(e).below (aB _ _)⟩),fun h=>absurd ((h2 6 nofun h).2.2.1) (by rw[hl];decide),fun h=>(let ⟨b,e,hh⟩:=h3 6 nofun h;⟨b,e,aH hh (aB _ _)⟩),E 6 nofun⟩
   ·
    refine gQ (v:=.agg #[.int .i64 1,.int .i64 0,.int .i64 0,.int .i64 0,.int .i64 1]) (w' := W) rfl rfl ?_ ?_
    ·dsimp only[tFr];go_simp
    ·refine⟨v5,a5,a6,J,a7,a8,M,O,(.agg #[.int .i64 1,.int .i64 0,.int .i64 0,.int .i64 0,.int .i64 1]),b4,b5,b6,U,b7,b8,b9,c6,c7,Z,T,c8,by simp[tFr,Act.put],Or.inl ⟨(gF oae).trans h21,?_⟩⟩;exact⟨I.bel,by simp[I.size],g0 7 nofun,g1 7 nofun,g2 7 nofun,g3 7 nofun,g4 7 nofun,g5 7 nofun,g6 7 nofun,fun _=>rfl,g8 7 nofun,g9 7 nofun,c9 7 nofun,d4 7 nofun,g12 7 nofun,g13 7 nofun,d5 7 nofun,d6 7 nofun,d7 7 nofun,d8 7 nofun,fun h=>(let ⟨r11,r17,e⟩:=d9 7 nofun h;⟨aF r11,aF r17,e⟩),fun h=>(let ⟨r2,r5,r6,r18,e⟩:=h2 7 nofun h;⟨aF r2,aF r5,aF r6,aF r18,e⟩),h3 7 nofun,E 7 nofun⟩
   ·
    refine gQ (v:=.agg #[.int .i64 5,.int .i64 0,.int .i64 0,.int .i64 0,.int .i64 7]) (w' := W) rfl rfl ?_ ?_
    ·dsimp only[tFr];go_simp
    ·refine⟨v5,a5,a6,J,a7,a8,M,O,a9,(.agg #[.int .i64 5,.int .i64 0,.int .i64 0,.int .i64 0,.int .i64 7]),b5,b6,U,b7,b8,b9,c6,c7,Z,T,c8,by simp[tFr,Act.put],Or.inl ⟨(gF oae).trans h21,?_⟩⟩;exact⟨I.bel,by simp[I.size],g0 8 nofun,g1 8 nofun,g2 8 nofun,g3 8 nofun,g4 8 nofun,g5 8 nofun,g6 8 nofun,g7 8 nofun,fun _=>rfl,g9 8 nofun,c9 8 nofun,d4 8 nofun,g12 8 nofun,g13 8 nofun,d5 8 nofun,d6 8 nofun,d7 8 nofun,d8 8 nofun,fun h=>(let ⟨r11,r17,e⟩:=d9 8 nofun h;⟨aF r11,aF r17,e⟩),fun h=>(let ⟨r2,r5,r6,r18,e⟩:=h2 8 nofun h;⟨aF r2,aF r5,aF r6,aF r18,e⟩),h3 8 nofun,E 8 nofun⟩
   ·
    refine gQ (v:=.agg #[.int .i64 10,.int .i64 1,.int .i64 0,.int .i64 0,.int .i64 1]) (w' := W) rfl rfl ?_ ?_
    ·dsimp only[tFr];go_simp
    ·refine⟨v5,a5,a6,J,a7,a8,M,O,a9,b4,(.agg #[.int .i64 10,.int .i64 1,.int .i64 0,.int .i64 0,.int .i64 1]),b6,U,b7,b8,b9,c6,c7,Z,T,c8,by simp[tFr,Act.put],Or.inl ⟨(gF oae).trans h21,?_⟩⟩;exact⟨I.bel,by simp[I.size],g0 9 nofun,g1 9 nofun,g2 9 nofun,g3 9 nofun,g4 9 nofun,g5 9 nofun,g6 9 nofun,g7 9 nofun,g8 9 nofun,fun _=>rfl,c9 9 nofun,d4 9 nofun,g12 9 nofun,g13 9 nofun,d5 9 nofun,d6 9 nofun,d7 9 nofun,d8 9 nofun,fun h=>(let ⟨r11,r17,e⟩:=d9 9 nofun h;⟨aF r11,aF r17,e⟩),fun h=>(let ⟨r2,r5,r6,r18,e⟩:=h2 9 nofun h;⟨aF r2,aF r5,aF r6,aF r18,e⟩),h3 9 nofun,E 9 nofun⟩
   ·
    refine gQ (v:=.agg #[.int .i64 9,.int .i64 0,.int .i64 0,.int .i64 0,.int .i64 0]) (w' := W) rfl rfl ?_ ?_
    ·dsimp only[tFr];go_simp
    ·refine⟨v5,a5,a6,J,a7,a8,M,O,a9,b4,b5,(.agg #[.int .i64 9,.int .i64 0,.int .i64 0,.int .i64 0,.int .i64 0]),U,b7,b8,b9,c6,c7,Z,T,c8,by simp[tFr,Act.put],Or.inl ⟨(gF oae).trans h21,?_⟩⟩;exact⟨I.bel,by simp[I.size],g0 10 nofun,g1 10 nofun,g2 10 nofun,g3 10 nofun,g4 10 nofun,g5 10 nofun,g6 10 nofun,g7 10 nofun,g8 10 nofun,g9 10 nofun,fun _=>rfl,d4 10 nofun,g12 10 nofun,g13 10 nofun,d5 10 nofun,d6 10 nofun,d7 10 nofun,d8 10 nofun,fun h=>(let ⟨r11,r17,e⟩:=d9 10 nofun h;⟨aF r11,aF r17,e⟩),fun h=>(let ⟨r2,r5,r6,r18,e⟩:=h2 10 nofun h;⟨aF r2,aF r5,aF r6,aF r18,e⟩),h3 10 nofun,E 10 nofun⟩
   ·
    have e7:=I.f7 (bK hd (g:=.data) oac rfl);have e8:=I.f8 (bK hd (g:=.data) oac rfl);have e9:=I.f9 (bK hd (g:=.data) oac rfl);have m9:=I.f10 (bK hd (g:=.data) oac rfl);refine gQ (v:=.slice (some ⟨W.heap.size,0,none⟩) 4 4) (w' := W.alloc (.cells #[.int .i64 1,.int .i64 0,.int .i64 0,.int .i64 0,.int .i64 1,.int .i64 5,.int .i64 0,.int .i64 0,.int .i64 0,.int .i64 7,.int .i64 10,.int .i64 1,.int .i64 0,.int .i64 0,.int .i64 1,.int .i64 9,.int .i64 0,.int .i64 0,.int .i64 0,.int .i64 0] 36)) rfl rfl ?_ ?_
    ·dsimp only[tFr];rw[e7,e8,e9,m9];go_simp
    ·refine⟨v5,a5,a6,J,a7,a8,M,O,a9,b4,b5,b6,(.slice (some ⟨W.heap.size,0,none⟩) 4 4),b7,b8,b9,c6,c7,Z,T,c8,by simp[tFr,Act.put],Or.inl ⟨(gF oae).trans h21,?_⟩⟩;exact⟨I.bel.trans ((aB _ _).mono I.bel.size),by simp[I.size],g0 11 nofun,g1 11 nofun,fun h=>(g2 11 nofun h).below (aB _ _),g3 11 nofun,g4 11 nofun,fun h=>(g5 11 nofun h).below (aB _ _),fun h=>(g6 11 nofun h).below (aB _ _),g7 11 nofun,g8 11 nofun,g9 11 nofun,c9 11 nofun,fun _=>vO W _ _ _,g12 11 nofun,g13 11 nofun,d5 11 nofun,d6 11 nofun,d7 11 nofun,fun h=>(d8 11 nofun h).below (aB _ _),fun h=>absurd ((d9 11 nofun h).1) (by rw[hl];decide),fun h=>(let ⟨r2,r5,r6,r18,e⟩:=h2 11 nofun h;⟨aF r2,aF r5,aF r6,aF r18,e⟩),fun h=>(let ⟨b,e,hh⟩:=h3 11 nofun h;⟨b,e,aH hh (aB _ _)⟩),E 11 nofun⟩
   ·
    refine gQ (v:=.agg #[.int .i64 1,.int .i64 0,.int .i64 0,.int .i64 0,.int .i64 0]) (w' := W) rfl rfl ?_ ?_
    ·dsimp only[tFr];go_simp
    ·refine⟨v5,a5,a6,J,a7,a8,M,O,a9,b4,b5,b6,U,(.agg #[.int .i64 1,.int .i64 0,.int .i64 0,.int .i64 0,.int .i64 0]),b8,b9,c6,c7,Z,T,c8,by simp[tFr,Act.put],Or.inl ⟨(gF oae).trans h21,?_⟩⟩;exact⟨I.bel,by simp[I.size],g0 12 nofun,g1 12 nofun,g2 12 nofun,g3 12 nofun,g4 12 nofun,g5 12 nofun,g6 12 nofun,g7 12 nofun,g8 12 nofun,g9 12 nofun,c9 12 nofun,d4 12 nofun,fun _=>rfl,g13 12 nofun,d5 12 nofun,d6 12 nofun,d7 12 nofun,d8 12 nofun,fun h=>(let ⟨r11,r17,e⟩:=d9 12 nofun h;⟨aF r11,aF r17,e⟩),fun h=>(let ⟨r2,r5,r6,r18,e⟩:=h2 12 nofun h;⟨aF r2,aF r5,aF r6,aF r18,e⟩),h3 12 nofun,E 12 nofun⟩
   ·
    refine gQ (v:=.agg #[.int .i64 11,.int .i64 0,.int .i64 0,.int .i64 0,.int .i64 1]) (w' := W) rfl rfl ?_ ?_
    ·dsimp only[tFr];go_simp
    ·refine⟨v5,a5,a6,J,a7,a8,M,O,a9,b4,b5,b6,U,b7,(.agg #[.int .i64 11,.int .i64 0,.int .i64 0,.int .i64 0,.int .i64 1]),b9,c6,c7,Z,T,c8,by simp[tFr,Act.put],Or.inl ⟨(gF oae).trans h21,?_⟩⟩;exact⟨I.bel,by simp[I.size],g0 13 nofun,g1 13 nofun,g2 13 nofun,g3 13 nofun,g4 13 nofun,g5 13 nofun,g6 13 nofun,g7 13 nofun,g8 13 nofun,g9 13 nofun,c9 13 nofun,d4 13 nofun,g12 13 nofun,fun _=>rfl,d5 13 nofun,d6 13 nofun,d7 13 nofun,d8 13 nofun,fun h=>(let ⟨r11,r17,e⟩:=d9 13 nofun h;⟨aF r11,aF r17,e⟩),fun h=>(let ⟨r2,r5,r6,r18,e⟩:=h2 13 nofun h;⟨aF r2,aF r5,aF r6,aF r18,e⟩),h3 13 nofun,E 13 nofun⟩
   ·
    refine gQ (v:=.agg #[.int .i64 6,.int .i64 0,.int .i64 0,.int .i64 0,.int .i64 0]) (w' := W) rfl rfl ?_ ?_
    ·dsimp only[tFr];go_simp
    ·refine⟨v5,a5,a6,J,a7,a8,M,O,a9,b4,b5,b6,U,b7,b8,(.agg #[.int .i64 6,.int .i64 0,.int .i64 0,.int .i64 0,.int .i64 0]),c6,c7,Z,T,c8,by simp[tFr,Act.put],Or.inl ⟨(gF oae).trans h21,?_⟩⟩;exact⟨I.bel,by simp[I.size],g0 14 nofun,g1 14 nofun,g2 14 nofun,g3 14 nofun,g4 14 nofun,g5 14 nofun,g6 14 nofun,g7 14 nofun,g8 14 nofun,g9 14 nofun,c9 14 nofun,d4 14 nofun,g12 14 nofun,g13 14 nofun,fun _=>rfl,d6 14 nofun,d7 14 nofun,d8 14 nofun,fun h=>(let ⟨r11,r17,e⟩:=d9 14 nofun h;⟨aF r11,aF r17,e⟩),fun h=>(let ⟨r2,r5,r6,r18,e⟩:=h2 14 nofun h;⟨aF r2,aF r5,aF r6,aF r18,e⟩),h3 14 nofun,E 14 nofun⟩
   ·
    refine gQ (v:=.agg #[.int .i64 12,.int .i64 0,.int .i64 0,.int .i64 0,.int .i64 0]) (w' := W) rfl rfl ?_ ?_
    ·dsimp only[tFr];go_simp
    ·refine⟨v5,a5,a6,J,a7,a8,M,O,a9,b4,b5,b6,U,b7,b8,b9,(.agg #[.int .i64 12,.int .i64 0,.int .i64 0,.int .i64 0,.int .i64 0]),c7,Z,T,c8,by simp[tFr,Act.put],Or.inl ⟨(gF oae).trans h21,?_⟩⟩;exact⟨I.bel,by simp[I.size],g0 15 nofun,g1 15 nofun,g2 15 nofun,g3 15 nofun,g4 15 nofun,g5 15 nofun,g6 15 nofun,g7 15 nofun,g8 15 nofun,g9 15 nofun,c9 15 nofun,d4 15 nofun,g12 15 nofun,g13 15 nofun,d5 15 nofun,fun _=>rfl,d7 15 nofun,d8 15 nofun,fun h=>(let ⟨r11,r17,e⟩:=d9 15 nofun h;⟨aF r11,aF r17,e⟩),fun h=>(let ⟨r2,r5,r6,r18,e⟩:=h2 15 nofun h;⟨aF r2,aF r5,aF r6,aF r18,e⟩),h3 15 nofun,E 15 nofun⟩
   ·
    refine gQ (v:=.agg #[.int .i64 10,.int .i64 0,.int .i64 0,.int .i64 0,.int .i64 0]) (w' := W) rfl rfl ?_ ?_
    ·dsimp only[tFr];go_simp
    ·refine⟨v5,a5,a6,J,a7,a8,M,O,a9,b4,b5,b6,U,b7,b8,b9,c6,(.agg #[.int .i64 10,.int .i64 0,.int .i64 0,.int .i64 0,.int .i64 0]),Z,T,c8,by simp[tFr,Act.put],Or.inl ⟨(gF oae).trans h21,?_⟩⟩;exact⟨I.bel,by simp[I.size],g0 16 nofun,g1 16 nofun,g2 16 nofun,g3 16 nofun,g4 16 nofun,g5 16 nofun,g6 16 nofun,g7 16 nofun,g8 16 nofun,g9 16 nofun,c9 16 nofun,d4 16 nofun,g12 16 nofun,g13 16 nofun,d5 16 nofun,d6 16 nofun,fun _=>rfl,d8 16 nofun,fun h=>(let ⟨r11,r17,e⟩:=d9 16 nofun h;⟨aF r11,aF r17,e⟩),fun h=>(let ⟨r2,r5,r6,r18,e⟩:=h2 16 nofun h;⟨aF r2,aF r5,aF r6,aF r18,e⟩),h3 16 nofun,E 16 nofun⟩
   ·
    have n5:=I.f12 (bK hd (g:=.data) oac rfl);have n6:=I.f13 (bK hd (g:=.data) oac rfl);have n7:=I.f14 (bK hd (g:=.data) oac rfl);have n8:=I.f15 (bK hd (g:=.data) oac rfl);have n9:=I.f16 (bK hd (g:=.data) oac rfl);refine gQ (v:=.slice (some ⟨W.heap.size,0,none⟩) 5 5) (w' := W.alloc (.cells #[.int .i64 1,.int .i64 0,.int .i64 0,.int .i64 0,.int .i64 0,.int .i64 11,.int .i64 0,.int .i64 0,.int .i64 0,.int .i64 1,.int .i64 6,.int .i64 0,.int .i64 0,.int .i64 0,.int .i64 0,.int .i64 12,.int .i64 0,.int .i64 0,.int .i64 0,.int .i64 0,.int .i64 10,.int .i64 0,.int .i64 0,.int .i64 0,.int .i64 0] 36)) rfl rfl ?_ ?_
    ·dsimp only[tFr];rw[n5,n6,n7,n8,n9];go_simp
    ·refine⟨v5,a5,a6,J,a7,a8,M,O,a9,b4,b5,b6,U,b7,b8,b9,c6,c7,(.slice (some ⟨W.heap.size,0,none⟩) 5 5),T,c8,by simp[tFr,Act.put],Or.inl ⟨(gF oae).trans h21,?_⟩⟩;exact⟨I.bel.trans ((aB _ _).mono I.bel.size),by simp[I.size],g0 17 nofun,g1 17 nofun,fun h=>(g2 17 nofun h).below (aB _ _),g3 17 nofun,g4 17 nofun,fun h=>(g5 17 nofun h).below (aB _ _),fun h=>(g6 17 nofun h).below (aB _ _),g7 17 nofun,g8 17 nofun,g9 17 nofun,c9 17 nofun,fun h=>(d4 17 nofun h).below (aB _ _),g12 17 nofun,g13 17 nofun,d5 17 nofun,d6 17 nofun,d7 17 nofun,fun _=>vO W _ _ _,fun h=>absurd ((d9 17 nofun h).2.1) (by rw[hl];decide),fun h=>(let ⟨r2,r5,r6,r18,e⟩:=h2 17 nofun h;⟨aF r2,aF r5,aF r6,aF r18,e⟩),fun h=>(let ⟨b,e,hh⟩:=h3 17 nofun h;⟨b,e,aH hh (aB _ _)⟩),E 17 nofun⟩
   ·
    have n1:=(I.f11 (bK hd (g:=.data) oac rfl));have o0:=(I.f17 (bK hd (g:=.data) oac rfl));refine gQ (v:=.slice (some ⟨W.heap.size,0,none⟩) 2 2) (w' := W.alloc (.cells #[U,Z] 34)) rfl rfl ?_ ?_
    ·dsimp only[tFr];obtain⟨_,o5,_⟩:=n1;obtain⟨_,o6,_⟩:=o0;rw[o5,o6];go_simp
    ·refine⟨v5,a5,a6,J,a7,a8,M,O,a9,b4,b5,b6,U,b7,b8,b9,c6,c7,Z,(.slice (some ⟨W.heap.size,0,none⟩) 2 2),c8,by simp[tFr,Act.put],Or.inl ⟨(gF oae).trans h21,?_⟩⟩;exact⟨I.bel.trans ((aB _ _).mono I.bel.size),by simp[I.size],g0 18 nofun,g1 18 nofun,fun h=>(g2 18 nofun h).below (aB _ _),g3 18 nofun,g4 18 nofun,fun h=>(g5 18 nofun h).below (aB _ _),fun h=>(g6 18 nofun h).below (aB _ _),g7 18 nofun,g8 18 nofun,g9 18 nofun,c9 18 nofun,fun h=>(d4 18 nofun h).below (aB _ _),g12 18 nofun,g13 18 nofun,d5 18 nofun,d6 18 nofun,d7 18 nofun,fun h=>(d8 18 nofun h).below (aB _ _),fun _=>⟨aF (bK (j:=11) hd (g:=.data) oac rfl),aF (bK (j:=17) hd (g:=.data) oac rfl),vO W _ _ _⟩,fun h=>absurd ((h2 18 nofun h).2.2.2.1) (by rw[hl];decide),fun h=>(let ⟨b,e,hh⟩:=h3 18 nofun h;⟨b,e,aH hh (aB _ _)⟩),E 18 nofun⟩
   ·
    have e2:=(I.f2 (bK hd (g:=.data) oac rfl));have e5:=(I.f5 (bK hd (g:=.data) oac rfl));have e6:=(I.f6 (bK hd (g:=.data) oac rfl));have o1:=(I.f18 (bK hd (g:=.data) oac rfl)).2.2;refine gQ (v:=.agg #[J,M,T,O,.slice none 0 0]) (w' := W) rfl rfl ?_ ?_
    ·dsimp only[tFr];obtain⟨_,k4,_⟩:=e2;obtain⟨_,k5,_⟩:=e5;obtain⟨_,k6,_⟩:=e6;obtain⟨_,k7,_⟩:=o1;rw[k4,k5,k6,k7];go_simp
    ·refine⟨v5,a5,a6,J,a7,a8,M,O,a9,b4,b5,b6,U,b7,b8,b9,c6,c7,Z,T,(.agg #[J,M,T,O,.slice none 0 0]),by simp[tFr,Act.put],Or.inl ⟨(gF oae).trans h21,?_⟩⟩;exact⟨I.bel,by simp[I.size],g0 19 nofun,g1 19 nofun,g2 19 nofun,g3 19 nofun,g4 19 nofun,g5 19 nofun,g6 19 nofun,g7 19 nofun,g8 19 nofun,g9 19 nofun,c9 19 nofun,d4 19 nofun,g12 19 nofun,g13 19 nofun,d5 19 nofun,d6 19 nofun,d7 19 nofun,d8 19 nofun,fun h=>(let ⟨r11,r17,e⟩:=d9 19 nofun h;⟨aF r11,aF r17,e⟩),fun _=>⟨aF (bK (j:=2) hd (g:=.data) oac rfl),aF (bK (j:=5) hd (g:=.data) oac rfl),aF (bK (j:=6) hd (g:=.data) oac rfl),aF (bK (j:=18) hd (g:=.data) oac rfl),rfl⟩,h3 19 nofun,E 19 nofun⟩
   ·
    refine gQ (v:=.pointer (some ⟨W.heap.size,0,none⟩)) (w' := W.alloc (.cells #[.slice none 0 0,.slice none 0 0,.slice none 0 0,.slice none 0 0,.slice none 0 0] 28)) rfl rfl ?_ ?_
    ·dsimp only[tFr];go_simp
    ·refine⟨(.pointer (some ⟨W.heap.size,0,none⟩)),a5,a6,J,a7,a8,M,O,a9,b4,b5,b6,U,b7,b8,b9,c6,c7,Z,T,c8,by simp[tFr,Act.put],Or.inl ⟨(gF oae).trans h21,?_⟩⟩;exact⟨I.bel.trans ((aB _ _).mono I.bel.size),by simp[I.size],g0 20 nofun,g1 20 nofun,fun h=>(g2 20 nofun h).below (aB _ _),g3 20 nofun,g4 20 nofun,fun h=>(g5 20 nofun h).below (aB _ _),fun h=>(g6 20 nofun h).below (aB _ _),g7 20 nofun,g8 20 nofun,g9 20 nofun,c9 20 nofun,fun h=>(d4 20 nofun h).below (aB _ _),g12 20 nofun,g13 20 nofun,d5 20 nofun,d6 20 nofun,d7 20 nofun,fun h=>(d8 20 nofun h).below (aB _ _),fun h=>(let ⟨r11,r17,e⟩:=d9 20 nofun h;⟨aF r11,aF r17,(e).below (aB _ _)⟩),fun h=>(let ⟨r2,r5,r6,r18,e⟩:=h2 20 nofun h;⟨aF r2,aF r5,aF r6,aF r18,e⟩),fun _=>⟨_,rfl,yN W _⟩,fun _ b e=>by cases e;exact I.bel.size⟩
   ·
    have L0:=bK (j:=0) hd (g:=.phase) oac rfl;have L1:=bK (j:=1) hd (g:=.phase) oac rfl;have L2:=bK (j:=2) hd (g:=.phase) oac rfl;have L3:=bK (j:=3) hd (g:=.phase) oac rfl;have L4:=bK (j:=4) hd (g:=.phase) oac rfl;have L5:=bK (j:=5) hd (g:=.phase) oac rfl;have L6:=bK (j:=6) hd (g:=.phase) oac rfl;have L7:=bK (j:=7) hd (g:=.phase) oac rfl;have L8:=bK (j:=8) hd (g:=.phase) oac rfl;have L9:=bK (j:=9) hd (g:=.phase) oac rfl;have j2:=bK (j:=10) hd (g:=.phase) oac rfl;have i5:=bK (j:=11) hd (g:=.phase) oac rfl;have j3:=bK (j:=12) hd (g:=.phase) oac rfl;have j4:=bK (j:=13) hd (g:=.phase) oac rfl;have j5:=bK (j:=14) hd (g:=.phase) oac rfl;have j6:=bK (j:=15) hd (g:=.phase) oac rfl;have j7:=bK (j:=16) hd (g:=.phase) oac rfl;have i6:=bK (j:=17) hd (g:=.phase) oac rfl;have h9:=bK (j:=18) hd (g:=.phase) oac rfl;have j8:=bK (j:=19) hd (g:=.phase) oac rfl;have i7:=bK (j:=20) hd (g:=.phase) oac rfl;obtain⟨b,rfl,h4⟩:=I.f20 i7;have o2:=(I.f19 j8).2.2.2.2;have h7:W0.heap.size<=b:=I.f20b i7 b rfl;obtain⟨z0,z1,z2,z3,z4,zf,zl⟩:=dS h4;refine Np (w' := set5 W b J M T O (.slice none 0 0)) rfl rfl ?_ ?_
    ·dsimp only[tFr,set5];rw[o2];obtain⟨_,k4,_⟩:=I.f2 L2;obtain⟨_,k5,_⟩:=I.f5 L5;obtain⟨_,k6,_⟩:=I.f6 L6;obtain⟨_,k7,_⟩:=(I.f18 h9).2.2;rw[k4,k5,k6,k7];go_simp
    ·refine⟨.pointer (some ⟨b,0,none⟩),a5,a6,J,a7,a8,M,O,a9,b4,b5,b6,U,b7,b8,b9,c6,c7,Z,T,c8,by simp[tFr,Act.put],Or.inr ⟨fun j hj=>?_,?_⟩⟩
     ·obtain rfl|rfl|rfl|rfl|rfl|rfl|rfl|rfl|rfl|rfl|rfl|rfl|rfl|rfl|rfl|rfl|rfl|rfl|rfl|rfl|rfl|rfl:j=0\/j=1\/j=2\/j=3\/j=4\/j=5\/j=6\/j=7\/j=8\/j=9\/j=10\/j=11\/j=12\/j=13\/j=14\/j=15\/j=16\/j=17\/j=18\/j=19\/j=20\/j=21:=oaa
      ·exact aF L0
      ·exact aF L1
      ·exact aF L2
      ·exact aF L3
      ·exact aF L4
      ·exact aF L5
      ·exact aF L6
      ·exact aF L7
      ·exact aF L8
      ·exact aF L9
      ·exact aF j2
      ·exact aF i5
      ·exact aF j3
      ·exact aF j4
      ·exact aF j5
      ·exact aF j6
      ·exact aF j7
      ·exact aF i6
      ·exact aF h9
      ·exact aF j8
      ·exact aF i7
      ·exact Nl
     ·exact⟨VU I.bel h7 _ _ _ _ _,(I.f2 L2).set5 h4 oac _ _ _ _ _,(I.f5 L5).set5 h4 oac _ _ _ _ _,(I.f6 L6).set5 h4 (by simp[size_madeCells]) _ _ _ _ _,(I.f11 i5).set5 h4 oac _ _ _ _ _,(I.f17 i6).set5 h4 oac _ _ _ _ _,(I.f18 h9).2.2.set5 h4 oac _ _ _ _ _,⟨b,rfl,h7,VT h4⟩⟩
  ·intro listed a W hI h;obtain⟨v5,a5,a6,J,a7,a8,M,O,a9,b4,b5,b6,U,b7,b8,b9,c6,c7,Z,T,c8,rfl,hc⟩:=hI;rcases hc with ⟨h21,I⟩ |⟨i8,I⟩
   ·exfalso;have hs:=I.size
    have F:∀ j,j<22->listed.getD j true=true->listed[j]?.getD false=true:=fun j hj h=>by
     have:=Nn oaa h
     rwa [Array.getD_eq_getD_getElem?] at this
    clear I;have L0:=F 0 oae (gD (i:=0) h rfl (by simp[Region.binds]));have L1:=F 1 oae (gD (i:=1) h rfl (by simp[Region.binds]));have L2:=F 2 oae (gD (i:=2) h rfl (by simp[Region.binds,L0,L1]));have L3:=F 3 oae (gD (i:=3) h rfl (by simp[Region.binds]));have L4:=F 4 oae (gD (i:=4) h rfl (by simp[Region.binds]));have L5:=F 5 oae (gD (i:=5) h rfl (by simp[Region.binds,L3,L4]));have L6:=F 6 oae (gD (i:=6) h rfl (by simp[Region.binds]));have L7:=F 7 oae (gD (i:=7) h rfl (by simp[Region.binds]));have L8:=F 8 oae (gD (i:=8) h rfl (by simp[Region.binds]));have L9:=F 9 oae (gD (i:=9) h rfl (by simp[Region.binds]));have j2:=F 10 oae (gD (i:=10) h rfl (by simp[Region.binds]));have i5:=F 11 oae (gD (i:=11) h rfl (by simp[Region.binds,L7,L8,L9,j2]));have j3:=F 12 oae (gD (i:=12) h rfl (by simp[Region.binds]));have j4:=F 13 oae (gD (i:=13) h rfl (by simp[Region.binds]));have j5:=F 14 oae (gD (i:=14) h rfl (by simp[Region.binds]));have j6:=F 15 oae (gD (i:=15) h rfl (by simp[Region.binds]));have j7:=F 16 oae (gD (i:=16) h rfl (by simp[Region.binds]));have i6:=F 17 oae (gD (i:=17) h rfl (by simp[Region.binds,j3,j4,j5,j6,j7]));have h9:=F 18 oae (gD (i:=18) h rfl (by simp[Region.binds,i5,i6]));have j8:=F 19 oae (gD (i:=19) h rfl (by simp[Region.binds,L2,L5,L6,h9]))
    have i7:=F 20 oae (gD (i:=20) h rfl (by simp[Region.binds]));have l9:=gD (i:=21) h rfl (by simp[Region.binds,L0,L1,L2,L3,L4,L5,L6,L7,L8,L9,j2,i5,j3,j4,j5,j6,j7,i6,h9,j8,i7]);rw[h21] at l9;cases l9
   ·clear i8 h;obtain⟨b,e5,h7,h4⟩:=I.h5;dsimp only[tFr]
    go_wp2_with fail
    go_meet
    case rel=>exact Ns I.out e5 h7 h4 l6.out l7.out m8.out HB.out
 case rest =>
 obtain⟨b,A,rfl,h7,k0,h4,hC,hS⟩:=hcut.out;have l5:Hid _:=h4;have j1:Hid (Bl w wc):=k0;have HC:Hid (WlC A (tWR R R)):=hC;have HS:Hid (cO (fun c=>c=b) wc A (tWR R R)):=hS;have m7:Hid (w.heap.size<=b):=h7;obtain⟨z0,z1,z2,z3,z4,zf,zl⟩:=dS h4;clear h4 k0 hC hS h7 hcut HM i4 j0 k2 k3
 go_wp2_with fail
 have PK:Hid (mO (wc.alloc (.cells #[.int .i64 0,.bool true,.int .i64 1,.bool false,.int .i64 1,.bool false] 40)) (some ⟨wc.heap.size,0,none⟩) tL):=fun i hi=>by
  obtain rfl|rfl|rfl:i=0\/i=1\/i=2:=by have:i<3:=hi;omega
  all_goals exact⟨_,0,rfl,aK _ _ _ _ rfl,aK _ _ _ _ rfl⟩
 refine yj (DR b A wc.heap.size _ oab HC.out (HS.off (aC.of_below (aB _ _))) PK.out) ?_;rintro e w4 ⟨y0,y1,y2,y3,y4,sa,n0,n2,n3,n4,g0,g1,g2,g3,g4,sc,rfl,hb,hq⟩;have i9:w4.heap[b]?=some (.cells #[.slice A.a0 2 A.c0,.slice A.a1 2 A.c1,.slice A.a2 2 A.c2,.slice A.a3 2 A.c3,.slice A.a4 0 A.c4] 28 (0,0)):=aH (aH l5.out (aB _ _)) hb;have HQ:Hid (St (fun c=>c=b) (TQ y1 sa) w4):=hq;have k9:Hid (Bl w w4):=(j1.trans ((aB wc _).mono j1.size)).trans (hb.mono (by have:=j1.size;simp;omega));have j9:Hid _:=i9;clear z0 z1 z2 z3 z4 zf zl;obtain⟨z0,z1,z2,z3,z4,zf,zl⟩:=dS i9;clear i9 hb hq PK HS HC j1 l5 DR
 go_upto_region 5 with fail
 obtain⟨w5,i0⟩:∃ w5,set5 w4 b (.slice y0 n0 g0) (.slice y1 2 g1) (.slice y2 n2 g2) (.slice y3 n3 g3) (.slice y4 n4 g4)=w5:=⟨_,rfl⟩;have o4:TQ y1 sa w5:=HQ.out w5 (by rw[<- i0];exact Nr (X:=fun c=>c=b) rfl);have k1:w5.heap[b]?=some (.cells #[.slice y0 n0 g0,.slice y1 2 g1,.slice y2 n2 g2,.slice y3 n3 g3,.slice y4 n4 g4] 28 (0,0)):=by rw[<- i0];exact VT j9.out
 have l4:Hid (Bl w w5):=by rw[<- i0];exact VU k9.out m7.out _ _ _ _ _
 unfold set5 at i0;rw[i0];obtain⟨rb,ro,ta,ua,tc,uc,rfl,q1,q2,i1,i2,i3⟩:=o4;clear i0 HQ k9 j9 z0 z1 z2 z3 z4 zf zl;have I1:Hid (aG w5 ta [0,0,0,1]):=i1;have I2:Hid (aG w5 ua [0,0,7,-7,-7]):=i2;have I3:Hid (aG w5 sa [0,0,8]):=i3;have l8:Hid _:=k1;have Q1:Hid _:=q1;have Q2:Hid _:=q2;clear i1 i2 i3 k1 q1 q2
 go_wp2_with fail
 refine yj (Nw (n:=3) (ks:=[0,0,8]) rfl oae (I3.below (aB _ _)) (LZ w5 [0,0,8] _)) ?_;rintro e w6 ⟨rfl,hb⟩;have B6:Hid (Bl w5 w6):=(aB w5 _).trans (hb.mono oac);obtain⟨z0,z1,z2,z3,z4,zf,zl⟩:=dS (aH l8 B6);have r1:w6.cell? ⟨rb,ro+3,none⟩=some (.slice ta 4 tc):=aA Q1 B6;have k8:rb<w6.heap.size:=yi _ _ r1;clear hb
 go_wp2_with fail
 refine yj (VX (n:=4) (ks:=[0,0,0,1]) rfl oae ((I1.below B6).below (aB _ _)) (LZ w6 [0,0,0,1] _)) ?_;rintro e w7 ⟨rfl,hb⟩;have B7:Hid (Bl w5 w7):=(B6.trans ((aB w6 _).mono B6.size)).trans (hb.mono (by have:=B6.size;simp;omega));clear z0 z1 z2 z3 z4 zf zl r1 k8 hb;obtain⟨z0,z1,z2,z3,z4,zf,zl⟩:=dS (aH l8 B7);have r1:w7.cell? ⟨rb,ro+7,none⟩=some (.slice ua 5 uc):=aA Q2 B7;have k8:rb<w7.heap.size:=yi _ _ r1
 go_wp2_with fail
 refine yj (VX (n:=5) (ks:=[0,0,7,-7,-7]) rfl oae ((I2.below B7).below (aB _ _)) (LZ w7 [0,0,7,-7,-7] _)) ?_;rintro e w8 ⟨rfl,hb⟩;have B8:Hid (Bl w5 w8):=(B7.trans ((aB w7 _).mono B7.size)).trans (hb.mono (by have:=B7.size;simp;omega));clear z0 z1 z2 z3 z4 zf zl r1 k8 hb
 go_wp2
 go_ret;exact⟨rfl,l4.trans (B8.mono l4.size)⟩
theorem Nz(D:CW)(E:EJ)(w:Wd):yO 9 #[] w fun e w' => e=.returned (.bool true)/\Below w.heap.size w w' :=
 Ny (bB 2) _ _ _ _ ⟨rfl,rfl,rfl,rfl⟩ (fun W=>Kz D rfl rfl W) (Nu E) w
