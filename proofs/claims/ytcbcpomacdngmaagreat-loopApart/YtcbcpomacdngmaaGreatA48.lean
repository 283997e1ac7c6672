/-
  x
-/
import Derived.Test.YtcbcpomacdngmaaGreatA47
namespace Go.Proofs.YtcbcpomacdngmaaGreat
set_option maxRecDepth 100000
set_option maxHeartbeats 4000000
set_option linter.unusedVariables false
open Go.RowKit Go.ChangeShapes Go.WideShapes Go.ChangeAt Tryz
theorem Zi:(prog.info? 30).map (fun i=>(i.zero,i.size,i.bytes))=some (some (.int .i64 0),1,8):=oad
theorem Zj(n:Nat)(hn:n<=1000)(w:Wd):(Instr.makeSlice 72 (.int .i64 (n:Int)) (.int .i64 (n:Int))).run prog w=.ok (.slice (some ⟨w.heap.size,0,none⟩) n n) (w.alloc (.cells (madeCells #[.int .i64 0] n) 30)) :=
 run_make_row' (P:=prog) 72 30 (.int .i64 0) 8 underlying72 Zi rfl .i64 .i64 n oaa oaa w
def tJ(X:Nat->Prop)(w:Wd)(W:Wl)(L:List (Int × Bool))(e:Ending)(w' : World):Prop:=∃ (B:WA) (sa:OA) (sc:Nat),e=.returned (.tuple #[wlV B (jU W L),.slice sa (qO W L).length sc,.int .i64 (kT W L)])/\Below w.heap.size w w' /\ WlC B (jU W L)/\cO X w' B (jU W L)/\St X (fun w=>aG w sa (qO W L)) w'
theorem tJ.no{X:Nat->Prop}{w w' : World}{W:Wl}{L:List (Int × Bool)}{E:Int}(h:kT W L=E)(F:E≠0)(hb:Bl w w'):tJ X w W L (.returned (.tuple #[.agg #[.slice none 0 0,.slice none 0 0,.slice none 0 0,.slice none 0 0,.slice none 0 0],.slice none 0 0,.int .i64 E])) w' := by
 subst h;have e:jU W L=vH:=yd F;have D:qO W L=[]:=yd F;refine⟨⟨none,none,none,none,none,0,0,0,0,0⟩,none,0,?_,hb,?_,?_,?_⟩
 ·rw[e,D];rfl
 ·rw[e];exact⟨jE,jE,jE,jE,jE⟩
 ·rw[e];exact fun w' _=>LY w' _
 ·rw[D];exact fun _ _ _ h=>absurd h (yB _)
theorem Ag:∀ (L:List (Int × Bool)) (W:Wl) (k:Nat),k<L.length->(lK W L).getD k 0=bT ((L.take k).foldl aT W) (pk L k).1 (pk L k).2
 | [],_,_,h=>absurd h (yB _)
 | p :: l,W,0,_=>rfl
 | p :: l,W,k+1,h=>by
  have h1:=Ag l (aT W p) k (by simpa using h);show (lK (aT W p) l).getD k 0=_;rw[h1];rfl
theorem Zk{W:Wl}{L:List (Int × Bool)}{k:Nat}(h:k<L.length):(L.take (k+1)).foldl aT W=aT ((L.take k).foldl aT W) (pk L k):=by
 rw[List.take_succ_eq_append_getElem h,List.foldl_append];show aT _ _=_;unfold pk;rw[aJ _ _ h]
theorem Zl{W:Wl}(H:aI W)(h:W.fs.length=0):W=vH:=by
 have F:W.pt.length=0:=by
  rcases Nat.eq_zero_or_pos W.pt.length with h1|h1
  ·exact h1
  ·have D:=H.pt.ok 0 h1;unfold fO at D;rw[ye (.inl (fun E=>by have:=E.1;have:=E.2;rw[h] at this;omega))] at D;omega
 obtain⟨fs,rs,ps,qs,pt⟩:=W;have h1:=H.lr;have D:=H.lp;have E:=H.lq;dsimp only at h h1 D E F;rw[h] at h1 D E;obtain rfl:=List.eq_nil_of_length_eq_zero h;obtain rfl:=List.eq_nil_of_length_eq_zero h1;obtain rfl:=List.eq_nil_of_length_eq_zero D;obtain rfl:=List.eq_nil_of_length_eq_zero E;obtain rfl:=List.eq_nil_of_length_eq_zero F;rfl
structure RI (V2:Wd) (d8 sb N:Nat) (Wk:Wl) (S:List Int) (k:Nat) (A:WA) (wr:Wd):Prop where
 bel:Bl V2 wr
 box:wr.heap[d8]?=some (.cells #[.slice A.a0 Wk.fs.length A.c0,.slice A.a1 Wk.rs.length A.c1,.slice A.a2 Wk.ps.length A.c2,.slice A.a3 Wk.qs.length A.c3,.slice A.a4 Wk.pt.length A.c4] 28 (0,0))
 wl:cO (fun b=>b<V2.heap.size\/b=d8\/b=sb) wr A Wk
 wc:WlC A Wk
 row:wr.rowIs sb 30 N (fun j=>if j<k then .int .i64 (S.getD j 0) else .int .i64 0)
theorem RI.lt{D:Wd}{E F N:Nat}{I:Wl}{S:List Int}{k:Nat}{A:WA}{wr:Wd}(h:RI D E F N I S k A wr):∀ b,(b<D.heap.size\/b=E\/b=F)->b<wr.heap.size:=fun b hb=>by
 rcases hb with h1|h1|h1
 ·exact yC h1 h.bel.size
 ·rw[h1];exact aR h.box
 ·rw[h1];exact h.row.lt
theorem RI.next{D:Wd}{F O N:Nat}{Wk I:Wl}{S:List Int}{k:Nat}{A B:WA}{wr J M:Wd}(h:RI D F O N Wk S k A wr)(h8:D.heap.size<=F)(hs:D.heap.size<=O)(U:F≠O)(hb:Bl wr J)(b0:cO (fun b=>b<D.heap.size\/b=F\/b=O) J B I)(a9:WlC B I)(T:M.heap[F]?=some (.cells #[.slice B.a0 I.fs.length B.c0,.slice B.a1 I.rs.length B.c1,.slice B.a2 I.ps.length B.c2,.slice B.a3 I.qs.length B.c3,.slice B.a4 I.pt.length B.c4] 28 (0,0)))(Z:aC (fun b=>b=F) J M)(a6:M.os=J.os)(a8:M.tape=J.tape)(a7:M.output=J.output)(E:Int)(hE:S.getD k 0=E) :
  RI D F O N I S (k+1) B (M.setCell ⟨O,k,none⟩ (.int .i64 E)):=by
 have b1:Bl D J:=h.bel.trans (hb.mono h.bel.size);have b2:Bl D M:=b1.trans ⟨a6,a8,a7,Z.size,fun b a5=>Z.block b (yC a5 b1.size) (by show ¬ b=F;omega)⟩;have o1:aC (fun b=>b<D.heap.size\/b=F\/b=O) J M:=Z.mono (fun b hb=>.inr (.inl hb));refine⟨b2.setCell hs _,(yx _ _ _ _ U).trans T,(b0.off o1).off (aC.set _ _ (.inr (.inr rfl))),a9,?_⟩;have r1:=(h.row.of_block (hb.block _ h.row.lt)).of_block (Z.block _ (yC h.row.lt hb.size) (Ne.symm U));refine yG (r1.set k (.int .i64 E)) (fun j _=>?_);by_cases e:j=k
 ·rw[ye e,ye oaa,e,hE]
 ·rw[yd e];by_cases e2:j<k
  ·rw[ye e2,ye oaa]
  ·rw[yd e2,yd oaa]
theorem RI.done{X:Nat->Prop}{w F wr:Wd}{d8 J N E:Nat}{W D:Wl}{L:List (Int × Bool)}{A:WA}(h:RI F d8 J N D (lK W L) N A wr)(hX:∀ b,X b->b<w.heap.size)(hb:Bl w F)(hs:F.heap.size<=J)(I:w.heap.size<=E)(T:E<F.heap.size)(hN:L.length=N)(U:kT W L=0)(hW:L.foldl aT W=D){V' : World}{u0 u1 u2 u3 u4:Value}
  (hV:V' =((((wr.setCell ⟨E,0,none⟩ u0).setCell ⟨E,1,none⟩ u1).setCell ⟨E,2,none⟩ u2).setCell ⟨E,3,none⟩ u3).setCell ⟨E,4,none⟩ u4) :
  tJ X w W L (.returned (.tuple #[.agg #[.slice A.a0 D.fs.length A.c0,.slice A.a1 D.rs.length A.c1,.slice A.a2 D.ps.length A.c2,.slice A.a3 D.qs.length A.c3,.slice A.a4 D.pt.length A.c4],.slice (some ⟨J,0,none⟩) N N,.int .i64 0])) V' := by
 subst hV;have M:jU W L=D:=(ye U).trans hW;have e2:qO W L=lK W L:=ye U;have O:(lK W L).length=N:=by rw[WH,hN]
 have b8:Bl w wr:=hb.trans (h.bel.mono hb.size);have o5:=OQ T wr u0 u1 u2 u3 u4;refine⟨A,some ⟨J,0,none⟩,N,?_,((((b8.setCell I _).setCell I _).setCell I _).setCell I _).setCell I _,by rw[M];exact h.wc,?_,?_⟩
 ·rw[M,e2,U,O]
 ·rw[M];exact((h.wl.less (fun b hb=>.inl hb)).off o5).less (fun b Z=>yC (hX b Z) hb.size)
 ·rw[e2];intro a5 ho;have r1:=(h.row.of_block (o5.block _ h.row.lt (by show ¬ J<F.heap.size;omega))).of_block (ho.block _ (yC h.row.lt o5.size) (fun Z=>by have:=hX _ Z;have:=hb.size;omega));refine wY (t:=30) (yG (by rw[O];exact r1) (fun j hj=>?_));rw[O] at hj;rw[ye hj]
theorem Zm(X:Nat->Prop)(A:WA)(W:Wl)(la:OA)(lc:Nat)(L:List (Int × Bool))(w:Wd)(hX:∀ b,X b->b<w.heap.size)(hB:kS W)(hC:WlC A W)(hW:cO X w A W)(hL:L.length<=9223372036854775807)(i9:SlA la L.length lc)(hP:mO w la L):yO 20 #[wlV A W,.slice la L.length lc] w (tJ X w W L):=by
 obtain⟨a0,a1,a2,a3,a4,c0,c1,c2,c3,c4⟩:=A;have e7:Hid (gP w ⟨a0,a1,a2,a3,a4,c0,c1,c2,c3,c4⟩ W):=hW.at;have D0:Hid (∀ V,Bl w V->Calls _ _ _ _ _):=fun V hV=>NI ⟨a0,a1,a2,a3,a4,c0,c1,c2,c3,c4⟩ W V hB hC (e7.below hV);have D2:Hid (aI W->∀ V,Bl w V->Calls _ _ _ _ _):=fun H V hV=>ZE ⟨a0,a1,a2,a3,a4,c0,c1,c2,c3,c4⟩ W V H (e7.below hV);have h7:Hid _:=hX;have HP:Hid (mO w la L):=hP;clear hX hW hB hC hP i9;dsimp only[wlV] at D0 D2 |-;obtain⟨E0,Z⟩:∃ E,fZ W=E:=⟨_,rfl⟩;have b9:Hid (fZ W=E0):=Z;rw[Z] at D0;clear Z;obtain⟨N,hN⟩:∃ N,L.length=N:=⟨_,rfl⟩;have HN:Hid (L.length=N):=hN;rw[hN] at hL |-;have i8:=hN;clear hN;obtain⟨J,b1⟩:∃ n,W.fs.length=n:=⟨_,rfl⟩;obtain⟨n1,c8⟩:∃ n,W.rs.length=n:=⟨_,rfl⟩;obtain⟨n2,c9⟩:∃ n,W.ps.length=n:=⟨_,rfl⟩;obtain⟨n3,d4⟩:∃ n,W.qs.length=n:=⟨_,rfl⟩;obtain⟨n4,d9⟩:∃ n,W.pt.length=n:=⟨_,rfl⟩;have d5:Hid (W.fs.length=J):=b1;have g7:Hid (W.rs.length=n1):=c8;have g8:Hid (W.ps.length=n2):=c9;have g9:Hid (W.qs.length=n3):=d4;have h6:Hid (W.pt.length=n4):=d9;have c6:Hid (aI W->J=n1/\J=n2/\J=n3):=fun H=>⟨by rw[<- c8,H.lr,b1],by rw[<- c9,H.lp,b1],by rw[<- d4,H.lq,b1]⟩;rw[b1,c8,c9,d4,d9] at D0 D2 |-;clear b1 c8 c9 d4 d9 i8
 go_enter func20,ntmps20
 go_wp2_with fail
 obtain⟨V1,b2⟩:∃ V1,(w.alloc (.cells #[.slice a0 J c0,.slice a1 n1 c1,.slice a2 n2 c2,.slice a3 n3 c3,.slice a4 n4 c4] 28)).alloc (.cells #[.slice none 0 0,.slice none 0 0,.slice none 0 0,.slice none 0 0,.slice none 0 0] 28)=V1:=⟨_,rfl⟩;have BV:Hid (Bl w V1):=by rw[<- b2];exact aM _ _ _
 have X1:Hid (V1.heap[w.heap.size]?=some (.cells #[.slice a0 J c0,.slice a1 n1 c1,.slice a2 n2 c2,.slice a3 n3 c3,.slice a4 n4 c4] 28 (0,0))):=by
  rw[<- b2];exact aH (yN w _) (aB _ _)
 have X3:Hid (V1.heap[w.heap.size+1]?=some (.cells #[.slice none 0 0,.slice none 0 0,.slice none 0 0,.slice none 0 0,.slice none 0 0] 28 (0,0))):=by
  rw[<- b2];have h:=yN (w.alloc (.cells #[.slice a0 J c0,.slice a1 n1 c1,.slice a2 n2 c2,.slice a3 n3 c3,.slice a4 n4 c4] 28)) (.cells #[.slice none 0 0,.slice none 0 0,.slice none 0 0,.slice none 0 0,.slice none 0 0] 28);rw[yw] at h;exact h
 rw[b2];clear b2;refine yj (D0 V1 BV.out) ?_;rintro e T ⟨rfl,hb⟩;have B2:Hid (Bl V1 T):=hb;have a8:Hid (Bl w T):=BV.trans (hb.mono BV.size);clear hb D0;have Y1:Hid _:=aH X1 B2;have Y3:Hid _:=aH X3 B2;clear X1 X3;obtain⟨q0,q1,q2,q3,q4,qf,ql⟩:=bH Y1.out;obtain⟨z0,z1,z2,z3,z4,zf,zl⟩:=bH Y3.out;by_cases Z:E0=0
 ·subst Z;have HR:Hid (aI W):=pI.1 b9.out;by_cases j2:N<=120
  ·have e0:¬ ((120:Int)<(N:Int)):=oaa;have RE:Hid (kT W L=0):=(by show _=_;unfold kT;rw[ye b9.out,yd (by rw[HN.out];omega)]);obtain⟨e1,e2,e3⟩:=c6.out HR.out;subst e1;subst e2;subst e3;have D3:Hid _:=D2.out HR.out T a8.out;clear c6 D2
   go_wp2_with fail
   refine yj D3.out ?_;rintro e V3 ⟨s,rfl,d6,_,g5,g4⟩;have e5:Hid _:=g4;have e6:Hid _:=g5;have B3:Hid (Bl T V3):=d6;have s3:=d6.size;clear g4 g5 d6 D3 q0 q1 q2 q3 q4 qf ql z0 z1 z2 z3 z4 zf zl;dsimp only[wlV,SD.wa];have j0:=Zj N oaa
   go_wp2_with fail
   obtain⟨D,hd⟩:∃ d,V3.heap.size=d:=⟨_,rfl⟩;obtain⟨V4,a9⟩:∃ V4,V3.alloc (.cells #[.slice s.a0 J s.c0,.slice (some ⟨s.g1,0,none⟩) J J,.slice (some ⟨s.g2,0,none⟩) J J,.slice (some ⟨s.g3,0,none⟩) J J,.slice s.a4 n4 s.c4] 28)=V4:=⟨_,rfl⟩;have j1:V4.heap.size=D+1:=(by rw[<- a9,<- hd];simp);have X4:Hid (V4.heap[D]?=some (.cells #[.slice s.a0 J s.c0,.slice (some ⟨s.g1,0,none⟩) J J,.slice (some ⟨s.g2,0,none⟩) J J,.slice (some ⟨s.g3,0,none⟩) J J,.slice s.a4 n4 s.c4] 28 (0,0))):=(by rw[<- a9,<- hd];exact yN _ _);have B4:Hid (Bl T V4):=by rw[<- a9];exact B3.trans ((aB _ _).mono B3.size)
   have W4:Hid (cO (fun b=>b<T.heap.size\/b=D) V4 (s.wa J) W):=by
    by_cases h0:W.fs.length=0
    ·intro V' _;rw[Zl HR.out h0];exact LY V' _
    ·have h:=(e5 0 (by have:=d5.out;omega)).wlX;rw[d5.out,a9,hd] at h;exact h
   have e9:T.heap.size<=D:=oaa;clear e5;obtain⟨V5,c7⟩:∃ V5,V4.alloc (.cells (madeCells #[.int .i64 0] N) 30)=V5:=⟨_,rfl⟩
   have R0:Hid (RI T D (D+1) N W (lK W L) 0 (s.wa J) V5):=by
    have b5:=aB V4 (.cells (madeCells #[.int .i64 0] N) 30);rw[c7] at b5;refine⟨B4.trans (b5.mono B4.size),?_,?_,e6.out,?_⟩
    ·dsimp only[SD.wa];rw[d5.out,g7.out,g8.out,g9.out,h6.out];exact aH X4.out b5
    ·exact W4.grow (aC.of_below b5) (fun b hb hy=>by rcases hy with h|h|h;exact .inl h;exact .inr h;omega)
    ·rw[<- c7,<- j1];have h:=World.rowIs_alloc V4 (madeCells #[.int .i64 0] N) 30 (fun j=>(madeCells #[.int .i64 0] N)[j]!) (fun j hj=>by simp[hj]);rw[size_madeCells] at h;refine yG h (fun j hj=>?_);rw[yd (yB _)];have e2:(madeCells #[Value.int .i64 0] N)[j]! =(#[Value.int .i64 0]:Array Value)[j % 1]!:=(by simp[madeCells,hj]);rw[e2,Nat.mod_one];rfl
   rw[a9,c7,hd];clear a9 c7 hd j0;clear W4 X4 e6 B4
   go_loopg [30] N (fun g s30 wr=>∃ (k:Nat) (A:WA),k<=N/\N-k<=g/\s30=.int .i64 k/\Hid (RI T D (D+1) N ((L.take k).foldl aT W) (lK W L) k A wr))
   case atStart=>exact⟨0,_,oaa,oaa,rfl,R0.out⟩
   case round =>
    obtain⟨k,A,hk,hg,rfl,F⟩:=hrel;clear R0;by_cases g0:k<N
    ·have j3:(k:Int)<(N:Int):=oaa;have d7:k<L.length:=(by rw[HN.out];exact g0);obtain⟨lb,lo,h9,x0,x1⟩:=HP.out k d7;subst h9;have e4:Hid (Bl w wr):=a8.trans (F.bel.mono a8.size);replace x0:=aA x0 e4;replace x1:=aA x1 e4;have j9:lb<wr.heap.size:=yi _ _ x0;have SE:Hid _:=Ag L W k d7;have NX:Hid _:=Zk (W:=W) d7;have RR:Hid _:=(WG (L.take k) HR.out).1;obtain⟨a5,b6⟩:∃ p,(pk L k).1=p:=⟨_,rfl⟩;obtain⟨a6,b7⟩:∃ p,(pk L k).2=p:=⟨_,rfl⟩;have h8:Hid (pk L k=(a5,a6)):=(by rw[<- b6,<- b7];rfl);rw[b6] at x0 SE;rw[b7] at x1 SE;rw[h8.out] at NX;obtain⟨I,b3⟩:∃ I,(L.take k).foldl aT W=I:=⟨_,rfl⟩;rw[b3] at F SE NX RR;clear b3 b6 b7;have U:Hid (aT I (a5,a6)=if bT I a5 a6=0 then cB I a5 a6 else I):=rfl;have DS:Hid (∀ (Y:Nat->Prop) V,(∀ b,Y b->b<V.heap.size)->cO Y V A I->Calls _ _ _ _ _):=fun Y V hY hV=>Af Y A I a5 a6 V hY (qQ RR.out) F.wc hV;obtain⟨q0,q1,q2,q3,q4,qf,ql⟩:=bH F.box;obtain⟨M,e8⟩:∃ M,cB I a5 a6=M:=⟨_,rfl⟩;unfold tH at DS;dsimp only[wlV] at DS;rw[e8] at U DS;clear e8;obtain⟨E,hE⟩:∃ E,bT I a5 a6=E:=⟨_,rfl⟩;rw[hE] at U DS SE;clear hE
     skip
     have n8:¬ wr.heap.size=D:=oaa;have k0:¬ D=wr.heap.size:=oaa;have k2:¬ lb=wr.heap.size:=oaa;have j6:¬ wr.heap.size=lb:=oaa
     go_upto_region 11 with fail
     go_cut [11,12,30] from 30 to 49 (fun s11 s12 s30 wx=>∃ (b:Nat) (B:WA),s11=.pointer (some ⟨b,0,none⟩)/\s12=.int .i64 E/\s30=.int .i64 (k:Int)/\Hid (Bl wr wx)/\Hid (wx.heap[b]?=some (.cells #[.slice B.a0 M.fs.length B.c0,.slice B.a1 M.rs.length B.c1,.slice B.a2 M.ps.length B.c2,.slice B.a3 M.qs.length B.c3,.slice B.a4 M.pt.length B.c4] 28 (0,0)))/\wr.heap.size<=b/\Hid (WlC B M)/\Hid (cO (fun b=>b<T.heap.size\/b=D\/b=D+1) wx B M))
     case first =>
      go_region_held3 (fun a7=>a7.cell? ⟨D,0,none⟩=some (.slice A.a0 I.fs.length A.c0)/\a7.cell? ⟨D,1,none⟩=some (.slice A.a1 I.rs.length A.c1)/\a7.cell? ⟨D,2,none⟩=some (.slice A.a2 I.ps.length A.c2)/\a7.cell? ⟨D,3,none⟩=some (.slice A.a3 I.qs.length A.c3)/\a7.cell? ⟨D,4,none⟩=some (.slice A.a4 I.pt.length A.c4)/\a7.cell? ⟨lb,lo+k*2,none⟩=some (.int .i64 a5)/\a7.cell? ⟨lb,lo+k*2+1,none⟩=some (.bool a6)) (go_keep) (first|(go_at_call 13;refine yj (DS (fun b=>b<T.heap.size\/b=D\/b=D+1) wr.drew F.lt (F.wl.off (aC.of_below (yv _ _).drew))) ?_;rintro e w5 ⟨B,rfl,b0,b4,b8,_⟩;have O:Hid (Bl wr w5):=(yv _ _).drew.trans b0;have C5:Hid _:=b4;have W5:Hid (cO (fun b=>b<T.heap.size\/b=D\/b=D+1) w5 B M):=b8;have i0:=aA q0 O;have i1:=aA q1 O;have i2:=aA q2 O;have i3:=aA q3 O;have i4:=aA q4 O;have i5:=aA x0 O;have i6:=aA x1 O;clear b0 b4 b8)|(go_at_call 13;refine yj (DS (fun b=>(b<T.heap.size\/b=D\/b=D+1)\/b=wr.heap.size) (wr.alloc (.cells #[.slice none 0 0,.slice none 0 0,.slice none 0 0,.slice none 0 0,.slice none 0 0] 28)).drew (fun b hb=>by rcases hb with h|h;have:=F.lt b h;simp;omega;simp;omega) (F.wl.grow (aC.of_below (aB wr _).drew) (fun b hb hy=>by rcases hy with h|h;exact h;omega))) ?_;rintro e w5 ⟨B,rfl,b0,b4,b8,_⟩;have O:Hid (Bl wr w5):=(aB wr _).drew.trans (b0.mono oac);have C5:Hid _:=b4;have W5:Hid (cO (fun b=>(b<T.heap.size\/b=D\/b=D+1)\/b=wr.heap.size) w5 B M):=b8;have i0:=aA q0 O;have i1:=aA q1 O;have i2:=aA q2 O;have i3:=aA q3 O;have i4:=aA q4 O;have i5:=aA x0 O;have i6:=aA x1 O;have X5:Hid (w5.heap[wr.heap.size]?=some (.cells #[.slice none 0 0,.slice none 0 0,.slice none 0 0,.slice none 0 0,.slice none 0 0] 28 (0,0))):=aH (W:=(wr.alloc (.cells #[.slice none 0 0,.slice none 0 0,.slice none 0 0,.slice none 0 0,.slice none 0 0] 28)).drew) (yN wr _) b0;obtain⟨y0,y1,y2,y3,y4,yf,yl⟩:=bH X5.out;clear b0 b4 b8))
      ·go_wp2_with fail
       go_meet
       case rel=>exact⟨_,B,rfl,rfl,rfl,O.trans ((aB _ _).mono O.size),yN _ _,O.size,C5.out,W5.off (aC.of_below (aB _ _))⟩
      ·go_wp2_with fail
       go_meet
       case rel=>exact⟨_,B,rfl,rfl,rfl,((((O.setCell (yr _) _).setCell (yr _) _).setCell (yr _) _).setCell (yr _) _).setCell (yr _) _,NQ X5.out,yr _,C5.out,(W5.off ((NT _ _ _ _ _ _).mono (fun b hb=>.inr hb))).less (fun b hb=>.inl hb)⟩
     case rest =>
      obtain⟨b,B,rfl,rfl,rfl,HB,HX,j8,HC,HW⟩:=hcut;clear q0 q1 q2 q3 q4 qf DS x0 x1;have R1:Hid (∀ wy,wy.heap[D]?=some (.cells #[.slice B.a0 M.fs.length B.c0,.slice B.a1 M.rs.length B.c1,.slice B.a2 M.ps.length B.c2,.slice B.a3 M.qs.length B.c3,.slice B.a4 M.pt.length B.c4] 28 (0,0))->aC (fun b=>b=D) wc wy->wy.os=wc.os->wy.tape=wc.tape->wy.output=wc.output->E=0->RI T D (D+1) N M (lK W L) (k+1) B (wy.setCell ⟨D+1,k,none⟩ (.int .i64 E))):=fun wy h1 h2 h3 h4 h5 _=>F.next e9 oaa oaa HB.out HW.out HC.out h1 h2 h3 h4 h5 E SE.out;have R2:Hid (RI T D (D+1) N I (lK W L) (k+1) A (wc.setCell ⟨D+1,k,none⟩ (.int .i64 E))):=F.next e9 oaa oaa HB.out (F.wl.off (aC.of_below HB.out)) F.wc (aH F.box HB.out) (aC.refl _ _) rfl rfl rfl E SE.out;have RF:Hid _:=(F.row.of_block (HB.block _ F.row.lt)).frozen k;have RC:Hid (∃ v,wc.cell? ⟨D+1,k,none⟩=some v):=⟨_,(F.row.of_block (HB.block _ F.row.lt)).cell g0⟩;have Q8:Hid _:=aH F.box HB.out;obtain⟨cv,rc⟩:=RC.out;have rf:=RF.out;clear F HW HC RC RF;obtain⟨p0,p1,p2,p3,p4,pf,pl⟩:=bH HX.out;obtain⟨q0,q1,q2,q3,q4,qf,k4⟩:=bH Q8.out;have k1:¬ b=D:=oaa;have j5:¬ D=b:=oaa;have k3:¬ D+1=D:=oaa;have j7:¬ D=D+1:=oaa;by_cases hE:E=0
      ·subst hE;rw[ye rfl] at U;rw[U.out] at NX;have FB:Hid _:=R1.out _ (NQ (u0:=.slice B.a0 M.fs.length B.c0) (u1:=.slice B.a1 M.rs.length B.c1) (u2:=.slice B.a2 M.ps.length B.c2) (u3:=.slice B.a3 M.qs.length B.c3) (u4:=.slice B.a4 M.pt.length B.c4) Q8.out) (NT _ _ _ _ _ _) rfl rfl rfl rfl;clear R1 R2 U
       skip
       go_wp2_with fail
       go_roundg (N-(k+1))
       case measure=>omega
       case rel=>exact⟨k+1,B,oaa,oaa,by go_num,(by rw[NX.out];exact FB.out)⟩
      ·have hz:(E == 0)=false:=(by simp[hE]);rw[yd hE] at U;rw[U.out] at NX;have FB:Hid _:=R2.out;clear R1 R2 U
       go_wp2_with fail
       go_roundg (N-(k+1))
       case measure=>omega
       case rel=>exact⟨k+1,A,oaa,oaa,by go_num,(by rw[NX.out];exact FB.out)⟩
    ·have:k=N:=oaa;subst this;have hz:¬ ((k:Int)<(k:Int)):=oaa;have EW:Hid (L.foldl aT W=(L.take k).foldl aT W):=(by show _=_;rw[<- HN.out,List.take_length]);have Z8:Hid (wr.heap[w.heap.size+1]?=some (.cells #[.slice none 0 0,.slice none 0 0,.slice none 0 0,.slice none 0 0,.slice none 0 0] 28 (0,0))):=(F.bel.block _ (aR Y3.out)).trans Y3;obtain⟨z0,z1,z2,z3,z4,zf,zl⟩:=bH Z8.out;obtain⟨q0,q1,q2,q3,q4,qf,ql⟩:=bH F.box;have i7:w.heap.size+1<T.heap.size:=aR Y3.out;have n41:¬ D=w.heap.size+1:=oaa;have j4:¬ w.heap.size+1=D:=oaa;obtain⟨I,b3⟩:∃ I,(L.take k).foldl aT W=I:=⟨_,rfl⟩;rw[b3] at F EW q0 q1 q2 q3 q4;clear b3;have g6:Hid (∀ u0 u1 u2 u3 u4 V', _->tJ X w W L _ V'):=fun u0 u1 u2 u3 u4 V' h=>F.done (u0:=u0) (u1:=u1) (u2:=u2) (u3:=u3) (u4:=u4) h7.out a8.out oaa (by omega:w.heap.size<=w.heap.size+1) i7 HN.out RE.out EW.out h;clear F EW
     skip
     go_wp2
     exact yz (v:=.tuple #[.agg #[.slice A.a0 I.fs.length A.c0,.slice A.a1 I.rs.length A.c1,.slice A.a2 I.ps.length A.c2,.slice A.a3 I.qs.length A.c3,.slice A.a4 I.pt.length A.c4],.slice (some ⟨D+1,0,none⟩) k k,.int .i64 0]) (by simp[results,results20,go_sem,z0,z1,z2,z3,z4]) rfl (g6 _ _ _ _ _ _ rfl)
  ·have e0:(120:Int)<(N:Int):=oaa;have RE:Hid (kT W L=1):=(by show _=_;unfold kT;rw[ye b9.out,ye (by rw[HN.out];omega)]);clear D2 c6
   go_wp2
   exact yz (v:=.tuple #[.agg #[.slice none 0 0,.slice none 0 0,.slice none 0 0,.slice none 0 0,.slice none 0 0],.slice none 0 0,.int .i64 1]) (by simp[results,results20,go_sem,z0,z1,z2,z3,z4]) rfl (tJ.no RE.out oae (((((a8.setCell (by show w.heap.size<=w.heap.size+1;omega) _).setCell (by show w.heap.size<=w.heap.size+1;omega) _).setCell (by show w.heap.size<=w.heap.size+1;omega) _).setCell (by show w.heap.size<=w.heap.size+1;omega) _).setCell (by show w.heap.size<=w.heap.size+1;omega) _))
 ·have hz:(E0 == 0)=false:=by simp[Z]
  have RE:Hid (kT W L=E0):=by show _=_;unfold kT;rw[b9.out,yd Z]
  clear D2 c6
  go_wp2
  exact yz (v:=.tuple #[.agg #[.slice none 0 0,.slice none 0 0,.slice none 0 0,.slice none 0 0,.slice none 0 0],.slice none 0 0,.int .i64 E0]) (by simp[results,results20,go_sem,z0,z1,z2,z3,z4]) rfl (tJ.no RE.out Z (((((a8.setCell (by show w.heap.size<=w.heap.size+1;omega) _).setCell (by show w.heap.size<=w.heap.size+1;omega) _).setCell (by show w.heap.size<=w.heap.size+1;omega) _).setCell (by show w.heap.size<=w.heap.size+1;omega) _).setCell (by show w.heap.size<=w.heap.size+1;omega) _))
theorem Zt{A B:List (Int × Int)}(hl:A.length=B.length)(h:∀ i,i<A.length->A.getD i (0,0)=B.getD i (0,0)):A=B:=by
 refine List.ext_getElem hl fun i h1 D=>?_;have:=h i h1
 rwa [aJ _ _ h1,aJ _ _ D] at this
theorem Zu(a O:OA)(c c' : Nat)(A B:List (Int × Int))(w:Wd)(hN:A.length<=9223372036854775807)(h1:aZ w a A)(T:aZ w O B) :
  yO 49 #[.slice a A.length c,.slice O B.length c'] w fun e w' => ∃ r:Bool,e=.returned (.bool r)/\Below w.heap.size w w' /\(r=true↔A=B):=by
 by_cases hl:A.length=B.length
 ·have E1:Hid ((∀ i,i<A.length->A.getD i (0,0)=B.getD i (0,0))->A=B):=fun h=>Zt hl h;have E2:Hid (∀ i,A.getD i (0,0)≠B.getD i (0,0)->A≠B):=fun i h e=>h (by rw[e]);have H1:Hid (aZ w a A):=h1;have H2:Hid (aZ w O B):=T;have HL:Hid (B.length=A.length):=hl.symm;rw[<- hl];clear h1 T hl;obtain⟨n,hn⟩:∃ n,A.length=n:=⟨_,rfl⟩;have HN:Hid (A.length=n):=hn;rw[hn] at hN E1 HL |-;clear hn
  go_enter func49,ntmps49
  go_wp2
  go_loopg [13] n (fun g s13 wr=>∃ k:Nat,k<=n/\n-k<=g/\s13=.int .i64 k/\Below w.heap.size w wr/\Hid (∀ i,i<k->A.getD i (0,0)=B.getD i (0,0)))
  case atStart=>exact⟨0,oaa,oaa,rfl,yv _ _,fun i hi=>oaa⟩
  case round =>
   obtain⟨k,hk,hg,rfl,hb,AA⟩:=hrel;by_cases D:k<n
   ·have a5:(k:Int)<(n:Int):=oaa;obtain⟨b,o,rfl,c0,c1⟩:=(H1.below hb) k (by rw[HN.out];exact D);obtain⟨b', o', rfl,e0,e1⟩:=(H2.below hb) k (by rw[HL.out];exact D)
    have KK:Hid (A.getD k (0,0)=B.getD k (0,0)->∀ i,i<k+1->A.getD i (0,0)=B.getD i (0,0)):=fun h i hi=>by
     by_cases e:i=k
     ·subst e;exact h
     ·exact AA.out i oaa
    have EE:Hid _:=E2.out k;generalize A.getD k (0,0)=x at *;generalize B.getD k (0,0)=y at *;obtain⟨U,Z⟩:=x;obtain⟨y0,y1⟩:=y;dsimp only at c0 c1 e0 e1;by_cases F:U=y0
    ·subst F;by_cases I:Z=y1
     ·subst I
      go_wp2_with fail
      go_quiet (fail)
      go_wp2
      go_roundg (n-(k+1))
      case measure=>omega
      case rel=>exact⟨k+1,oaa,oaa,by go_num,JU hb _,KK.out trivial⟩
     ·have q2:(Z == y1)=false:=beq_eq_false_iff_ne.2 I;have q3:decide (Z=y1)=false:=yH I;have M:Hid (A≠B):=EE.out (fun h=>I (congrArg Prod.snd h))
      go_wp2_with fail
      go_quiet (fail)
      go_wp2
      go_ret;exact⟨false,rfl,JU hb _,⟨fun h=>oah,fun h=>absurd h M.out⟩⟩
    ·have q2:(U == y0)=false:=beq_eq_false_iff_ne.2 F;have q3:decide (U=y0)=false:=yH F;have M:Hid (A≠B):=EE.out (fun h=>F (congrArg Prod.fst h))
     go_wp2_with fail
     go_quiet (fail)
     go_wp2
     go_ret;exact⟨false,rfl,JU hb _,⟨fun h=>oah,fun h=>absurd h M.out⟩⟩
   ·have:k=n:=oaa;subst this;have Y:Hid (A=B):=E1.out AA.out
    go_wp2
    go_ret;exact⟨true,rfl,hb,⟨fun _=>Y.out,fun _=>rfl⟩⟩
 ·have E:A≠B:=fun e=>hl (by rw[e]);have J:Hid (A≠B):=E;have a6:decide ((A.length:Int)=(B.length:Int))=false:=yH oaa;have a7:((A.length:Int) ==(B.length:Int))=false:=beq_eq_false_iff_ne.2 oaa;have a8:(A.length == B.length)=false:=beq_eq_false_iff_ne.2 hl;clear h1 T E;generalize A.length=n at *;generalize B.length=m at *
  go_enter func49,ntmps49
  go_wp2
  go_ret;exact⟨false,rfl,yv _ _,⟨fun h=>oah,fun h=>absurd h J.out⟩⟩
theorem Zv{R Q:Rl}:R=Q↔R.s=Q.s/\R.hs=Q.hs/\R.i=Q.i/\R.t=Q.t:=by
 cases R;cases Q;simp
theorem Zw(A B:RA)(R Q:Rl)(w:Wd)(hB:iG R)(h1:aU w A R)(h2:aU w B Q) :
  yO 17 #[rlV A R,rlV B Q] w fun e w' => ∃ r:Bool,e=.returned (.bool r)/\Below w.heap.size w w' /\(r=true↔R=Q):=by
 obtain⟨a0,a1,a2,a3,c0,c1,c2,c3⟩:=A;obtain⟨U,Z,b2,T,d0,d1,d2,d3⟩:=B;have EX:Hid (R=Q↔R.s=Q.s/\R.hs=Q.hs/\R.i=Q.i/\R.t=Q.t):=Zv;obtain⟨g1,g2,g3,g4,g5,g6⟩:=hB;have D1:Hid (∀ W,Bl w W->_):=fun W M=>Zr a0 U c0 d0 R.s Q.s W g1 g2 (h1.1.below M) (h2.1.below M);have D2:Hid (∀ W,Bl w W->_):=fun W M=>Zu a1 Z c1 d1 R.hs Q.hs W g3 (h1.2.1.below M) (h2.2.1.below M);have D3:Hid (∀ W,Bl w W->_):=fun W M=>Ij a2 b2 c2 d2 R.i Q.i W g4 g5 (h1.2.2.1.below M) (h2.2.2.1.below M);have D4:Hid (∀ W,Bl w W->yO 29 #[.slice a3 R.t.length c3,.slice T Q.t.length d3] W fun e w' => ∃ r:Bool,e=.returned (.bool r)/\Below W.heap.size W w' /\(r=true↔R.t=Q.t)):=fun W M=>(wI a3 T c3 d3 R.t Q.t W g6 (h1.2.2.2.below M) (h2.2.2.2.below M)).mono fun e w' ⟨e1,hb⟩=>⟨_,e1,hb,decide_eq_true_iff⟩;clear h1 h2 g1 g2 g3 g4 g5 g6;dsimp only[rlV];generalize R.s=x0 at *;generalize Q.s=y0 at *;generalize R.hs=x1 at *;generalize Q.hs=y1 at *;generalize R.i=x2 at *;generalize Q.i=y2 at *;generalize R.t=x3 at *;generalize Q.t=y3 at *;generalize x0.length=m0 at *;generalize y0.length=n0 at *;generalize x1.length=m1 at *;generalize y1.length=n1 at *;generalize x2.length=m2 at *;generalize y2.length=n2 at *;generalize x3.length=m3 at *;generalize y3.length=n3 at *
 go_enter func17,ntmps17
 go_wp2_with fail
 refine yj (D1 _ (aM _ _ _)) ?_;rintro e W1 ⟨r1,rfl,hb,O⟩;have a5:Hid _:=O;clear O;have D:Hid (Bl w W1):=(aM w _ _).trans (hb.mono oab);have l0:=aA (fE w #[.slice a0 m0 c0,.slice a1 m1 c1,.slice a2 m2 c2,.slice a3 m3 c3] 50 0 (.cells #[.slice U n0 d0,.slice Z n1 d1,.slice b2 n2 d2,.slice T n3 d3] 50) rfl) hb;have E:=aA (fF w #[.slice U n0 d0,.slice Z n1 d1,.slice b2 n2 d2,.slice T n3 d3] 50 0 (.cells #[.slice a0 m0 c0,.slice a1 m1 c1,.slice a2 m2 c2,.slice a3 m3 c3] 50) rfl) hb;have l1:=aA (fE w #[.slice a0 m0 c0,.slice a1 m1 c1,.slice a2 m2 c2,.slice a3 m3 c3] 50 1 (.cells #[.slice U n0 d0,.slice Z n1 d1,.slice b2 n2 d2,.slice T n3 d3] 50) rfl) hb;have F:=aA (fF w #[.slice U n0 d0,.slice Z n1 d1,.slice b2 n2 d2,.slice T n3 d3] 50 1 (.cells #[.slice a0 m0 c0,.slice a1 m1 c1,.slice a2 m2 c2,.slice a3 m3 c3] 50) rfl) hb;have l2:=aA (fE w #[.slice a0 m0 c0,.slice a1 m1 c1,.slice a2 m2 c2,.slice a3 m3 c3] 50 2 (.cells #[.slice U n0 d0,.slice Z n1 d1,.slice b2 n2 d2,.slice T n3 d3] 50) rfl) hb;have I:=aA (fF w #[.slice U n0 d0,.slice Z n1 d1,.slice b2 n2 d2,.slice T n3 d3] 50 2 (.cells #[.slice a0 m0 c0,.slice a1 m1 c1,.slice a2 m2 c2,.slice a3 m3 c3] 50) rfl) hb;have l3:=aA (fE w #[.slice a0 m0 c0,.slice a1 m1 c1,.slice a2 m2 c2,.slice a3 m3 c3] 50 3 (.cells #[.slice U n0 d0,.slice Z n1 d1,.slice b2 n2 d2,.slice T n3 d3] 50) rfl) hb
 have J:=aA (fF w #[.slice U n0 d0,.slice Z n1 d1,.slice b2 n2 d2,.slice T n3 d3] 50 3 (.cells #[.slice a0 m0 c0,.slice a1 m1 c1,.slice a2 m2 c2,.slice a3 m3 c3] 50) rfl) hb;clear hb D1;cases r1
 ·go_wp2_with fail
  go_ret;exact⟨_,rfl,D.out,⟨fun h=>oah,fun h=>(by have:=a5.out.2 ((EX.out.1 h).1);cases this)⟩⟩
 go_wp2_with fail
 refine yj (D2 _ D.out) ?_;rintro e W2 ⟨r2,rfl,hb,O⟩;have a6:Hid _:=O;clear O;have D:Hid (Bl w W2):=D.trans (hb.mono D.size);have l0:=aA l0 hb;have E:=aA E hb;have l1:=aA l1 hb;have F:=aA F hb;have l2:=aA l2 hb;have I:=aA I hb;have l3:=aA l3 hb;have J:=aA J hb;clear hb D2;cases r2
 ·go_wp2_with fail
  go_ret;exact⟨_,rfl,D.out,⟨fun h=>oah,fun h=>(by have:=a6.out.2 ((EX.out.1 h).2.1);cases this)⟩⟩
 go_wp2_with fail
 refine yj (D3 _ D.out) ?_;rintro e W3 ⟨r3,rfl,hb,O⟩;have a7:Hid _:=O;clear O;have D:Hid (Bl w W3):=D.trans (hb.mono D.size);have l0:=aA l0 hb;have E:=aA E hb;have l1:=aA l1 hb;have F:=aA F hb;have l2:=aA l2 hb;have I:=aA I hb;have l3:=aA l3 hb;have J:=aA J hb;clear hb D3;cases r3
 ·go_wp2_with fail
  go_ret;exact⟨_,rfl,D.out,⟨fun h=>oah,fun h=>(by have:=a7.out.2 ((EX.out.1 h).2.2.1);cases this)⟩⟩
 go_wp2_with fail
 refine yj (D4 _ D.out) ?_;rintro e W4 ⟨r4,rfl,hb,O⟩;have a8:Hid _:=O;clear O;have D:Hid (Bl w W4):=D.trans (hb.mono D.size);have l0:=aA l0 hb;have E:=aA E hb;have l1:=aA l1 hb;have F:=aA F hb;have l2:=aA l2 hb;have I:=aA I hb;have l3:=aA l3 hb;have J:=aA J hb;clear hb D4
 go_wp2_with fail
 go_ret;exact⟨_,rfl,D.out,⟨fun h=>EX.out.2 ⟨a5.out.1 trivial,a6.out.1 trivial,a7.out.1 trivial,a8.out.1 h⟩,fun h=>a8.out.2 (EX.out.1 h).2.2.2⟩⟩
theorem Zx:zC:=fun X A W k s w O I J M=>(Af X A W k s w O I J M).mono (fun _ _ ⟨B,h1,D,E,F,_⟩=>⟨B,h1,D,E,F⟩)
theorem Zy:EJ:=fun X A W O T L w M D E J F hl I=>Zm X A W O T L w M D E J F hl I
theorem Zz:MM:=fun A B R Q w E h1 D=>Zw A B R Q w E h1 D
variable {H:Type} {enc:TypeId × Value->H} {w:Wd} {base:Nat} {spare:Nat->Bool} {held:Bool}
theorem zpm{r:Reach}{D:Nat}{v:Value}{d:DataW H}{p:List MemPlace}(hv:Value.okWide prog w r D 23 v)(h:DataW.Trod enc prog w base spare held 23 v d p) :
  ∃ a c,∃ S:List Rl,v=.slice a S.length c/\kR w a S/\∀ i,i<S.length->iG (rl S i):=by
 obtain⟨J,len,cap,rfl⟩:=okWide_slice underlying23 hv;obtain⟨fuel,I⟩:=h;obtain⟨ka,kc,ks,e,h1,E,F⟩:=Am I;simp[Value.cells] at e;obtain⟨rfl,rfl,rfl⟩:=e;exact⟨_,_,ks,rfl,E,F⟩
theorem zsb{r:Reach}{D:Nat}{v:Value}{d:DataW H}{p:List MemPlace}(hv:Value.okWide prog w r D 24 v)(h:DataW.Trod enc prog w base spare held 24 v d p) :
  ∃ a c,∃ S:List (List Ac),v=.slice a S.length c/\lQ w a S/\∀ i,i<S.length->(pg S i).length<=9223372036854775807:=by
 obtain⟨J,len,cap,rfl⟩:=okWide_slice underlying24 hv;obtain⟨fuel,I⟩:=h;obtain⟨ka,kc,ks,e,h1,E,F⟩:=Al I;simp[Value.cells] at e;obtain⟨rfl,rfl,rfl⟩:=e;exact⟨_,_,ks,rfl,E,F⟩
