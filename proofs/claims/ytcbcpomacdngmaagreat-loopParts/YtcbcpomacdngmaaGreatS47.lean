/-
  x
-/
import Derived.Test.YtcbcpomacdngmaaGreatS46
namespace Go.Proofs.YtcbcpomacdngmaaGreat
set_option maxRecDepth 100000
set_option maxHeartbeats 4000000
set_option linter.unusedVariables false
open Go.RowKit Go.ChangeShapes Go.WideShapes
theorem zyE:(Tryz.prog.info? 30).map (fun i=>(i.zero,i.size,i.bytes))=some (some (.int .i64 0),1,8):=by kernel_rfl
theorem zwE(n:Nat)(hn:n<=1000)(w:World):(Instr.makeSlice 72 (.int .i64 (n:Int)) (.int .i64 (n:Int))).run Tryz.prog w=.ok (.slice (some ⟨w.heap.size,0,none⟩) n n) (w.alloc (.cells (madeCells #[.int .i64 0] n) 30)) :=
 run_make_row' (P:=Tryz.prog) 72 30 (.int .i64 0) 8 Tryz.underlying72 zyE rfl .i64 .i64 n (by omega) (by omega) w
def znJ(X:Nat->Prop)(w:World)(W:Wl)(L:List (Int × Bool))(e:Ending)(w' : World):Prop:=∃ (B:WA) (sa:Option Addr) (sc:Nat),e=.returned (.tuple #[wlV B (zck W L),.slice sa (zer W L).length sc,.int .i64 (zcT W L)])/\Below w.heap.size w w' /\ WlC B (zck W L)/\ziv X w' B (zck W L)/\St X (fun w=>zaj w sa (zer W L)) w'
theorem znJ.no{X:Nat->Prop}{w w' : World}{W:Wl}{L:List (Int × Bool)}{E:Int}(h:zcT W L=E)(F:E≠0)(I:Below w.heap.size w w'):znJ X w W L (.returned (.tuple #[.agg #[.slice none 0 0,.slice none 0 0,.slice none 0 0,.slice none 0 0,.slice none 0 0],.slice none 0 0,.int .i64 E])) w' := by
 subst h;have e:zck W L=zlf:=ya F;have D:zer W L=[]:=ya F;refine⟨⟨none,none,none,none,none,0,0,0,0,0⟩,none,0,?_,I,?_,?_,?_⟩
 ·rw[e,D];rfl
 ·rw[e];exact⟨zcl,zcl,zcl,zcl,zcl⟩
 ·rw[e];exact fun w' _=>zpg w' _
 ·rw[D];exact fun _ _ _ h=>absurd h (yx _)
theorem zuI:∀ (L:List (Int × Bool)) (W:Wl) (k:Nat),k<L.length->(zlW W L).getD k 0=zfb ((L.take k).foldl zhW W) (pk L k).1 (pk L k).2
 | [],_,_,h=>absurd h (yx _)
 | p :: l,W,0,_=>rfl
 | p :: l,W,k+1,h=>by
  have h1:=zuI l (zhW W p) k (by simpa using h);show (zlW (zhW W p) l).getD k 0=_;rw[h1];rfl
theorem zuK{W:Wl}{L:List (Int × Bool)}{k:Nat}(h:k<L.length):(L.take (k+1)).foldl zhW W=zhW ((L.take k).foldl zhW W) (pk L k):=by
 rw[List.take_succ_eq_append_getElem h,List.foldl_append];show zhW _ _=_;unfold pk;rw[zae _ _ h]
theorem ztU{W:Wl}(H:zao W)(h:W.fs.length=0):W=zlf:=by
 have F:W.pt.length=0:=by
  rcases Nat.eq_zero_or_pos W.pt.length with h1|h1
  ·exact h1
  ·have D:=H.pt.ok 0 h1;unfold zdx at D;rw[yb (.inl (fun E=>by have:=E.1;have:=E.2;rw[h] at this;omega))] at D;omega
 obtain⟨fs,rs,ps,qs,pt⟩:=W;have h1:=H.lr;have D:=H.lp;have E:=H.lq;dsimp only at h h1 D E F;rw[h] at h1 D E;obtain rfl:=List.eq_nil_of_length_eq_zero h;obtain rfl:=List.eq_nil_of_length_eq_zero h1;obtain rfl:=List.eq_nil_of_length_eq_zero D;obtain rfl:=List.eq_nil_of_length_eq_zero E;obtain rfl:=List.eq_nil_of_length_eq_zero F;rfl
structure RI (V2:World) (d8 sb N:Nat) (Wk:Wl) (S:List Int) (k:Nat) (A:WA) (wr:World):Prop where
 bel:Below V2.heap.size V2 wr
 box:wr.heap[d8]?=some (.cells #[.slice A.a0 Wk.fs.length A.c0,.slice A.a1 Wk.rs.length A.c1,.slice A.a2 Wk.ps.length A.c2,.slice A.a3 Wk.qs.length A.c3,.slice A.a4 Wk.pt.length A.c4] 28 (0,0))
 wl:ziv (fun b=>b<V2.heap.size\/b=d8\/b=sb) wr A Wk
 wc:WlC A Wk
 row:wr.rowIs sb 30 N (fun j=>if j<k then .int .i64 (S.getD j 0) else .int .i64 0)
theorem RI.lt{D:World}{E F N:Nat}{I:Wl}{S:List Int}{k:Nat}{A:WA}{wr:World}(h:RI D E F N I S k A wr):∀ b,(b<D.heap.size\/b=E\/b=F)->b<wr.heap.size:=fun b J=>by
 rcases J with h1|h1|h1
 ·exact yz h1 h.bel.size
 ·rw[h1];exact zaw h.box
 ·rw[h1];exact h.row.lt
theorem RI.next{D:World}{F O N:Nat}{Wk I:Wl}{S:List Int}{k:Nat}{A B:WA}{wr J M:World}(h:RI D F O N Wk S k A wr)(h8:D.heap.size<=F)(hs:D.heap.size<=O)(Z:F≠O)(T:Below wr.heap.size wr J)(b0:ziv (fun b=>b<D.heap.size\/b=F\/b=O) J B I)(a9:WlC B I)(U:M.heap[F]?=some (.cells #[.slice B.a0 I.fs.length B.c0,.slice B.a1 I.rs.length B.c1,.slice B.a2 I.ps.length B.c2,.slice B.a3 I.qs.length B.c3,.slice B.a4 I.pt.length B.c4] 28 (0,0)))(ho:zaq (fun b=>b=F) J M)(a6:M.os=J.os)(a8:M.tape=J.tape)(a7:M.output=J.output)(E:Int)(hE:S.getD k 0=E) :
  RI D F O N I S (k+1) B (M.setCell ⟨O,k,none⟩ (.int .i64 E)):=by
 have b1:Below D.heap.size D J:=h.bel.trans (T.mono h.bel.size);have b2:Below D.heap.size D M:=b1.trans ⟨a6,a8,a7,ho.size,fun b a5=>ho.block b (yz a5 b1.size) (by show ¬ b=F;omega)⟩;have o1:zaq (fun b=>b<D.heap.size\/b=F\/b=O) J M:=ho.mono (fun b T=>.inr (.inl T));refine⟨b2.setCell hs _,(yv _ _ _ _ Z).trans U,(b0.off o1).off (zaq.set _ _ (.inr (.inr rfl))),a9,?_⟩;have r1:=(h.row.of_block (T.block _ h.row.lt)).of_block (ho.block _ (yz h.row.lt T.size) (Ne.symm Z));refine yE (r1.set k (.int .i64 E)) (fun j _=>?_);by_cases e:j=k
 ·rw[yb e,yb (by omega),e,hE]
 ·rw[ya e];by_cases e2:j<k
  ·rw[yb e2,yb (by omega)]
  ·rw[ya e2,ya (by omega)]
theorem RI.done{X:Nat->Prop}{w I wr:World}{d8 M N E:Nat}{W D:Wl}{L:List (Int × Bool)}{A:WA}(h:RI I d8 M N D (zlW W L) N A wr)(hX:∀ b,X b->b<w.heap.size)(F:Below w.heap.size w I)(hs:I.heap.size<=M)(J:w.heap.size<=E)(U:E<I.heap.size)(hN:L.length=N)(Z:zcT W L=0)(hW:L.foldl zhW W=D){V' : World}{u0 u1 u2 u3 u4:Value}
  (hV:V' =((((wr.setCell ⟨E,0,none⟩ u0).setCell ⟨E,1,none⟩ u1).setCell ⟨E,2,none⟩ u2).setCell ⟨E,3,none⟩ u3).setCell ⟨E,4,none⟩ u4) :
  znJ X w W L (.returned (.tuple #[.agg #[.slice A.a0 D.fs.length A.c0,.slice A.a1 D.rs.length A.c1,.slice A.a2 D.ps.length A.c2,.slice A.a3 D.qs.length A.c3,.slice A.a4 D.pt.length A.c4],.slice (some ⟨M,0,none⟩) N N,.int .i64 0])) V' := by
 subst hV;have O:zck W L=D:=(yb Z).trans hW;have e2:zer W L=zlW W L:=yb Z;have T:(zlW W L).length=N:=by rw[zhf,hN]
 have b8:Below w.heap.size w wr:=F.trans (h.bel.mono F.size);have o5:=znp U wr u0 u1 u2 u3 u4;refine⟨A,some ⟨M,0,none⟩,N,?_,((((b8.setCell J _).setCell J _).setCell J _).setCell J _).setCell J _,by rw[O];exact h.wc,?_,?_⟩
 ·rw[O,e2,Z,T]
 ·rw[O];exact((h.wl.less (fun b F=>.inl F)).off o5).less (fun b hx=>yz (hX b hx) F.size)
 ·rw[e2];intro a5 ho;have r1:=(h.row.of_block (o5.block _ h.row.lt (by show ¬ M<I.heap.size;omega))).of_block (ho.block _ (yz h.row.lt o5.size) (fun hx=>by have:=hX _ hx;have:=F.size;omega));refine zgX (t:=30) (yE (by rw[T];exact r1) (fun j hj=>?_));rw[T] at hj;rw[yb hj]
theorem zwZ(X:Nat->Prop)(A:WA)(W:Wl)(la:Option Addr)(lc:Nat)(L:List (Int × Bool))(w:World)(hX:∀ b,X b->b<w.heap.size)(hB:zpi W)(hC:WlC A W)(hW:ziv X w A W)(hL:L.length<=9223372036854775807)(i9:SlA la L.length lc)(hP:zdp w la L):yM 20 #[wlV A W,.slice la L.length lc] w (znJ X w W L):=by
 obtain⟨a0,a1,a2,a3,a4,c0,c1,c2,c3,c4⟩:=A;have e7:Hid (zeY w ⟨a0,a1,a2,a3,a4,c0,c1,c2,c3,c4⟩ W):=hW.at;have D0:Hid (∀ V,Below w.heap.size w V->Calls _ _ _ _ _):=fun V hV=>zlc ⟨a0,a1,a2,a3,a4,c0,c1,c2,c3,c4⟩ W V hB hC (e7.out.below hV);have D2:Hid (zao W->∀ V,Below w.heap.size w V->Calls _ _ _ _ _):=fun H V hV=>zgL ⟨a0,a1,a2,a3,a4,c0,c1,c2,c3,c4⟩ W V H (e7.out.below hV);have h7:Hid _:=hX;have HP:Hid (zdp w la L):=hP;clear hX hW hB hC hP i9;dsimp only[wlV] at D0 D2 |-;obtain⟨E0,Z⟩:∃ E,zbH W=E:=⟨_,rfl⟩;have b9:Hid (zbH W=E0):=Z;rw[Z] at D0;clear Z;obtain⟨N,hN⟩:∃ N,L.length=N:=⟨_,rfl⟩;have HN:Hid (L.length=N):=hN;rw[hN] at hL |-;have i8:=hN;clear hN;obtain⟨J,b1⟩:∃ n,W.fs.length=n:=⟨_,rfl⟩;obtain⟨n1,c8⟩:∃ n,W.rs.length=n:=⟨_,rfl⟩;obtain⟨n2,c9⟩:∃ n,W.ps.length=n:=⟨_,rfl⟩;obtain⟨n3,d4⟩:∃ n,W.qs.length=n:=⟨_,rfl⟩;obtain⟨n4,d9⟩:∃ n,W.pt.length=n:=⟨_,rfl⟩;have d5:Hid (W.fs.length=J):=b1;have g7:Hid (W.rs.length=n1):=c8;have g8:Hid (W.ps.length=n2):=c9;have g9:Hid (W.qs.length=n3):=d4;have h6:Hid (W.pt.length=n4):=d9;have c6:Hid (zao W->J=n1/\J=n2/\J=n3):=fun H=>⟨by rw[<- c8,H.lr,b1],by rw[<- c9,H.lp,b1],by rw[<- d4,H.lq,b1]⟩;rw[b1,c8,c9,d4,d9] at D0 D2 |-;clear b1 c8 c9 d4 d9 i8
 go_enter Tryz.func20,Tryz.ntmps20
 go_wp2_with fail
 obtain⟨V1,b2⟩:∃ V1,(w.alloc (.cells #[.slice a0 J c0,.slice a1 n1 c1,.slice a2 n2 c2,.slice a3 n3 c3,.slice a4 n4 c4] 28)).alloc (.cells #[.slice none 0 0,.slice none 0 0,.slice none 0 0,.slice none 0 0,.slice none 0 0] 28)=V1:=⟨_,rfl⟩;have BV:Hid (Below w.heap.size w V1):=by rw[<- b2];exact zaf _ _ _
 have X1:Hid (V1.heap[w.heap.size]?=some (.cells #[.slice a0 J c0,.slice a1 n1 c1,.slice a2 n2 c2,.slice a3 n3 c3,.slice a4 n4 c4] 28 (0,0))):=by
  rw[<- b2];exact zaA (yL w _) (zaa _ _)
 have X3:Hid (V1.heap[w.heap.size+1]?=some (.cells #[.slice none 0 0,.slice none 0 0,.slice none 0 0,.slice none 0 0,.slice none 0 0] 28 (0,0))):=by
  rw[<- b2];have h:=yL (w.alloc (.cells #[.slice a0 J c0,.slice a1 n1 c1,.slice a2 n2 c2,.slice a3 n3 c3,.slice a4 n4 c4] 28)) (.cells #[.slice none 0 0,.slice none 0 0,.slice none 0 0,.slice none 0 0,.slice none 0 0] 28);rw[yr] at h;exact h
 rw[b2];clear b2;refine ye (D0.out V1 BV.out) ?_;rintro e T ⟨rfl,hb⟩;have B2:Hid (Below V1.heap.size V1 T):=hb;have a8:Hid (Below w.heap.size w T):=BV.out.trans (hb.mono BV.out.size);clear hb D0;have Y1:Hid _:=zaA X1.out B2.out;have Y3:Hid _:=zaA X3.out B2.out;clear X1 X3;obtain⟨q0,q1,q2,q3,q4,qf,ql⟩:=zal Y1.out;obtain⟨z0,z1,z2,z3,z4,zf,zl⟩:=zal Y3.out;by_cases Z:E0=0
 ·subst Z;have HR:Hid (zao W):=zdA.1 b9.out;by_cases j2:N<=120
  ·have e0:¬ ((120:Int)<(N:Int)):=(by omega);have RE:Hid (zcT W L=0):=(by show _=_;unfold zcT;rw[yb b9.out,ya (by rw[HN.out];omega)]);obtain⟨e1,e2,e3⟩:=c6.out HR.out;subst e1;subst e2;subst e3;have D3:Hid _:=D2.out HR.out T a8.out;clear c6 D2
   go_wp2_with fail
   refine ye D3.out ?_;rintro e V3 ⟨s,rfl,d6,_,g5,g4⟩;have e5:Hid _:=g4;have e6:Hid _:=g5;have B3:Hid (Below T.heap.size T V3):=d6;have s3:=d6.size;clear g4 g5 d6 D3 q0 q1 q2 q3 q4 qf ql z0 z1 z2 z3 z4 zf zl;dsimp only[wlV,SD.wa];have j0:=zwE N (by omega)
   go_wp2_with fail
   obtain⟨D,hd⟩:∃ d,V3.heap.size=d:=⟨_,rfl⟩;obtain⟨V4,a9⟩:∃ V4,V3.alloc (.cells #[.slice s.a0 J s.c0,.slice (some ⟨s.g1,0,none⟩) J J,.slice (some ⟨s.g2,0,none⟩) J J,.slice (some ⟨s.g3,0,none⟩) J J,.slice s.a4 n4 s.c4] 28)=V4:=⟨_,rfl⟩;have j1:V4.heap.size=D+1:=(by rw[<- a9,<- hd];simp);have X4:Hid (V4.heap[D]?=some (.cells #[.slice s.a0 J s.c0,.slice (some ⟨s.g1,0,none⟩) J J,.slice (some ⟨s.g2,0,none⟩) J J,.slice (some ⟨s.g3,0,none⟩) J J,.slice s.a4 n4 s.c4] 28 (0,0))):=(by rw[<- a9,<- hd];exact yL _ _);have B4:Hid (Below T.heap.size T V4):=by rw[<- a9];exact B3.out.trans ((zaa _ _).mono B3.out.size)
   have W4:Hid (ziv (fun b=>b<T.heap.size\/b=D) V4 (s.wa J) W):=by
    by_cases h0:W.fs.length=0
    ·intro V' _;rw[ztU HR.out h0];exact zpg V' _
    ·have h:=(e5.out 0 (by have:=d5.out;omega)).wlX;rw[d5.out,a9,hd] at h;exact h
   have e9:T.heap.size<=D:=(by omega);clear e5;obtain⟨V5,c7⟩:∃ V5,V4.alloc (.cells (madeCells #[.int .i64 0] N) 30)=V5:=⟨_,rfl⟩
   have R0:Hid (RI T D (D+1) N W (zlW W L) 0 (s.wa J) V5):=by
    have b5:=zaa V4 (.cells (madeCells #[.int .i64 0] N) 30);rw[c7] at b5;refine⟨B4.out.trans (b5.mono B4.out.size),?_,?_,e6.out,?_⟩
    ·dsimp only[SD.wa];rw[d5.out,g7.out,g8.out,g9.out,h6.out];exact zaA X4.out b5
    ·exact W4.out.grow (zaq.of_below b5) (fun b hb hy=>by rcases hy with h|h|h;exact .inl h;exact .inr h;omega)
    ·rw[<- c7,<- j1];have h:=World.rowIs_alloc V4 (madeCells #[.int .i64 0] N) 30 (fun j=>(madeCells #[.int .i64 0] N)[j]!) (fun j hj=>by simp[hj]);rw[size_madeCells] at h;refine yE h (fun j hj=>?_);rw[ya (yx _)];have e2:(madeCells #[Value.int .i64 0] N)[j]! =(#[Value.int .i64 0]:Array Value)[j % 1]!:=(by simp[madeCells,hj]);rw[e2,Nat.mod_one];rfl
   rw[a9,c7,hd];clear a9 c7 hd j0;clear W4 X4 e6 B4
   go_loopg [30] N (fun g s30 wr=>∃ (k:Nat) (A:WA),k<=N/\N-k<=g/\s30=.int .i64 k/\Hid (RI T D (D+1) N ((L.take k).foldl zhW W) (zlW W L) k A wr))
   case atStart=>exact⟨0,_,by omega,by omega,rfl,R0.out⟩
   case round =>
    obtain⟨k,A,hk,hg,rfl,F⟩:=hrel;clear R0;by_cases g0:k<N
    ·have j3:(k:Int)<(N:Int):=(by omega);have d7:k<L.length:=(by rw[HN.out];exact g0);obtain⟨lb,lo,h9,x0,x1⟩:=HP.out k d7;subst h9;have e4:Hid (Below w.heap.size w wr):=a8.out.trans (F.out.bel.mono a8.out.size);replace x0:=zab x0 e4.out;replace x1:=zab x1 e4.out;have j9:lb<wr.heap.size:=yd _ _ x0;have SE:Hid _:=zuI L W k d7;have NX:Hid _:=zuK (W:=W) d7;have RR:Hid _:=(zfU (L.take k) HR.out).1;obtain⟨a5,b6⟩:∃ p,(pk L k).1=p:=⟨_,rfl⟩;obtain⟨a6,b7⟩:∃ p,(pk L k).2=p:=⟨_,rfl⟩;have h8:Hid (pk L k=(a5,a6)):=(by rw[<- b6,<- b7];rfl);rw[b6] at x0 SE;rw[b7] at x1 SE;rw[h8.out] at NX;obtain⟨I,b3⟩:∃ I,(L.take k).foldl zhW W=I:=⟨_,rfl⟩;rw[b3] at F SE NX RR;clear b3 b6 b7;have U:Hid (zhW I (a5,a6)=if zfb I a5 a6=0 then zfc I a5 a6 else I):=rfl;have DS:Hid (∀ (Y:Nat->Prop) V,(∀ b,Y b->b<V.heap.size)->ziv Y V A I->Calls _ _ _ _ _):=fun Y V hY hV=>zxj Y A I a5 a6 V hY (zeq RR.out) F.out.wc hV;obtain⟨q0,q1,q2,q3,q4,qf,ql⟩:=zal F.out.box;obtain⟨M,e8⟩:∃ M,zfc I a5 a6=M:=⟨_,rfl⟩;unfold znN at DS;dsimp only[wlV] at DS;rw[e8] at U DS;clear e8;obtain⟨E,hE⟩:∃ E,zfb I a5 a6=E:=⟨_,rfl⟩;rw[hE] at U DS SE;clear hE
     skip
     have n8:¬ wr.heap.size=D:=(by omega);have k0:¬ D=wr.heap.size:=(by omega);have k2:¬ lb=wr.heap.size:=(by omega);have j6:¬ wr.heap.size=lb:=by omega
     go_upto_region 11 with fail
     go_cut [11,12,30] from 30 to 49 (fun s11 s12 s30 wx=>∃ (b:Nat) (B:WA),s11=.pointer (some ⟨b,0,none⟩)/\s12=.int .i64 E/\s30=.int .i64 (k:Int)/\Hid (Below wr.heap.size wr wx)/\Hid (wx.heap[b]?=some (.cells #[.slice B.a0 M.fs.length B.c0,.slice B.a1 M.rs.length B.c1,.slice B.a2 M.ps.length B.c2,.slice B.a3 M.qs.length B.c3,.slice B.a4 M.pt.length B.c4] 28 (0,0)))/\wr.heap.size<=b/\Hid (WlC B M)/\Hid (ziv (fun b=>b<T.heap.size\/b=D\/b=D+1) wx B M))
     case first =>
      go_region_held3 (fun a7=>a7.cell? ⟨D,0,none⟩=some (.slice A.a0 I.fs.length A.c0)/\a7.cell? ⟨D,1,none⟩=some (.slice A.a1 I.rs.length A.c1)/\a7.cell? ⟨D,2,none⟩=some (.slice A.a2 I.ps.length A.c2)/\a7.cell? ⟨D,3,none⟩=some (.slice A.a3 I.qs.length A.c3)/\a7.cell? ⟨D,4,none⟩=some (.slice A.a4 I.pt.length A.c4)/\a7.cell? ⟨lb,lo+k*2,none⟩=some (.int .i64 a5)/\a7.cell? ⟨lb,lo+k*2+1,none⟩=some (.bool a6)) (go_keep) (first|(go_at_call 13;refine ye (DS.out (fun b=>b<T.heap.size\/b=D\/b=D+1) wr.drew F.out.lt (F.out.wl.off (zaq.of_below (yk _ _).drew))) ?_;rintro e w5 ⟨B,rfl,b0,b4,b8⟩;have O:Hid (Below wr.heap.size wr w5):=(yk _ _).drew.trans b0;have C5:Hid _:=b4;have W5:Hid (ziv (fun b=>b<T.heap.size\/b=D\/b=D+1) w5 B M):=b8;have i0:=zab q0 O.out;have i1:=zab q1 O.out;have i2:=zab q2 O.out;have i3:=zab q3 O.out;have i4:=zab q4 O.out;have i5:=zab x0 O.out;have i6:=zab x1 O.out;clear b0 b4 b8)|(go_at_call 13;refine ye (DS.out (fun b=>(b<T.heap.size\/b=D\/b=D+1)\/b=wr.heap.size) (wr.alloc (.cells #[.slice none 0 0,.slice none 0 0,.slice none 0 0,.slice none 0 0,.slice none 0 0] 28)).drew (fun b hb=>by rcases hb with h|h;have:=F.out.lt b h;simp;omega;simp;omega) (F.out.wl.grow (zaq.of_below (zaa wr _).drew) (fun b hb hy=>by rcases hy with h|h;exact h;omega))) ?_;rintro e w5 ⟨B,rfl,b0,b4,b8⟩;have O:Hid (Below wr.heap.size wr w5):=(zaa wr _).drew.trans (b0.mono (by simp));have C5:Hid _:=b4;have W5:Hid (ziv (fun b=>(b<T.heap.size\/b=D\/b=D+1)\/b=wr.heap.size) w5 B M):=b8;have i0:=zab q0 O.out;have i1:=zab q1 O.out;have i2:=zab q2 O.out;have i3:=zab q3 O.out;have i4:=zab q4 O.out;have i5:=zab x0 O.out;have i6:=zab x1 O.out;have X5:Hid (w5.heap[wr.heap.size]?=some (.cells #[.slice none 0 0,.slice none 0 0,.slice none 0 0,.slice none 0 0,.slice none 0 0] 28 (0,0))):=zaA (W:=(wr.alloc (.cells #[.slice none 0 0,.slice none 0 0,.slice none 0 0,.slice none 0 0,.slice none 0 0] 28)).drew) (yL wr _) b0;obtain⟨y0,y1,y2,y3,y4,yf,yl⟩:=zal X5.out;clear b0 b4 b8))
      ·go_wp2_with fail
       go_meet
       case rel=>exact⟨_,B,rfl,rfl,rfl,O.out.trans ((zaa _ _).mono O.out.size),yL _ _,O.out.size,C5.out,W5.out.off (zaq.of_below (zaa _ _))⟩
      ·go_wp2_with fail
       go_meet
       case rel=>exact⟨_,B,rfl,rfl,rfl,((((O.out.setCell (yj _) _).setCell (yj _) _).setCell (yj _) _).setCell (yj _) _).setCell (yj _) _,zll X5.out,yj _,C5.out,(W5.out.off ((zlY _ _ _ _ _ _).mono (fun b hb=>.inr hb))).less (fun b hb=>.inl hb)⟩
     case rest =>
      obtain⟨b,B,rfl,rfl,rfl,HB,HX,j8,HC,HW⟩:=hcut;clear q0 q1 q2 q3 q4 qf DS x0 x1;have R1:Hid (∀ wy,wy.heap[D]?=some (.cells #[.slice B.a0 M.fs.length B.c0,.slice B.a1 M.rs.length B.c1,.slice B.a2 M.ps.length B.c2,.slice B.a3 M.qs.length B.c3,.slice B.a4 M.pt.length B.c4] 28 (0,0))->zaq (fun b=>b=D) wc wy->wy.os=wc.os->wy.tape=wc.tape->wy.output=wc.output->E=0->RI T D (D+1) N M (zlW W L) (k+1) B (wy.setCell ⟨D+1,k,none⟩ (.int .i64 E))):=fun wy h1 h2 h3 h4 h5 _=>F.out.next e9 (by omega) (by omega) HB.out HW.out HC.out h1 h2 h3 h4 h5 E SE.out;have R2:Hid (RI T D (D+1) N I (zlW W L) (k+1) A (wc.setCell ⟨D+1,k,none⟩ (.int .i64 E))):=F.out.next e9 (by omega) (by omega) HB.out (F.out.wl.off (zaq.of_below HB.out)) F.out.wc (zaA F.out.box HB.out) (zaq.refl _ _) rfl rfl rfl E SE.out;have RF:Hid _:=(F.out.row.of_block (HB.out.block _ F.out.row.lt)).frozen k;have RC:Hid (∃ v,wc.cell? ⟨D+1,k,none⟩=some v):=⟨_,(F.out.row.of_block (HB.out.block _ F.out.row.lt)).cell g0⟩;have Q8:Hid _:=zaA F.out.box HB.out;obtain⟨cv,rc⟩:=RC.out;have rf:=RF.out;clear F HW HC RC RF;obtain⟨p0,p1,p2,p3,p4,pf,pl⟩:=zal HX.out;obtain⟨q0,q1,q2,q3,q4,qf,k4⟩:=zal Q8.out;have k1:¬ b=D:=(by omega);have j5:¬ D=b:=(by omega);have k3:¬ D+1=D:=(by omega);have j7:¬ D=D+1:=(by omega);by_cases hE:E=0
      ·subst hE;rw[yb rfl] at U;rw[U.out] at NX;have FB:Hid _:=R1.out _ (zll (u0:=.slice B.a0 M.fs.length B.c0) (u1:=.slice B.a1 M.rs.length B.c1) (u2:=.slice B.a2 M.ps.length B.c2) (u3:=.slice B.a3 M.qs.length B.c3) (u4:=.slice B.a4 M.pt.length B.c4) Q8.out) (zlY _ _ _ _ _ _) rfl rfl rfl rfl;clear R1 R2 U
       skip
       go_wp2_with fail
       go_roundg (N-(k+1))
       case measure=>omega
       case rel=>exact⟨k+1,B,by omega,by omega,by go_num,(by rw[NX.out];exact FB.out)⟩
      ·have hz:(E == 0)=false:=(by simp[hE]);rw[ya hE] at U;rw[U.out] at NX;have FB:Hid _:=R2.out;clear R1 R2 U
       go_wp2_with fail
       go_roundg (N-(k+1))
       case measure=>omega
       case rel=>exact⟨k+1,A,by omega,by omega,by go_num,(by rw[NX.out];exact FB.out)⟩
    ·have:k=N:=(by omega);subst this;have hz:¬ ((k:Int)<(k:Int)):=(by omega);have EW:Hid (L.foldl zhW W=(L.take k).foldl zhW W):=(by show _=_;rw[<- HN.out,List.take_length]);have Z8:Hid (wr.heap[w.heap.size+1]?=some (.cells #[.slice none 0 0,.slice none 0 0,.slice none 0 0,.slice none 0 0,.slice none 0 0] 28 (0,0))):=(F.out.bel.block _ (zaw Y3.out)).trans Y3.out;obtain⟨z0,z1,z2,z3,z4,zf,zl⟩:=zal Z8.out;obtain⟨q0,q1,q2,q3,q4,qf,ql⟩:=zal F.out.box;have i7:w.heap.size+1<T.heap.size:=zaw Y3.out;have n41:¬ D=w.heap.size+1:=(by omega);have j4:¬ w.heap.size+1=D:=(by omega);obtain⟨I,b3⟩:∃ I,(L.take k).foldl zhW W=I:=⟨_,rfl⟩;rw[b3] at F EW q0 q1 q2 q3 q4;clear b3;have g6:Hid (∀ u0 u1 u2 u3 u4 V', _->znJ X w W L _ V'):=fun u0 u1 u2 u3 u4 V' h=>F.out.done (u0:=u0) (u1:=u1) (u2:=u2) (u3:=u3) (u4:=u4) h7.out a8.out (by omega) (by omega:w.heap.size<=w.heap.size+1) i7 HN.out RE.out EW.out h;clear F EW
     skip
     go_wp2
     exact yw (v:=.tuple #[.agg #[.slice A.a0 I.fs.length A.c0,.slice A.a1 I.rs.length A.c1,.slice A.a2 I.ps.length A.c2,.slice A.a3 I.qs.length A.c3,.slice A.a4 I.pt.length A.c4],.slice (some ⟨D+1,0,none⟩) k k,.int .i64 0]) (by simp[results,Tryz.results20,go_sem,z0,z1,z2,z3,z4]) rfl (g6.out _ _ _ _ _ _ rfl)
  ·have e0:(120:Int)<(N:Int):=(by omega);have RE:Hid (zcT W L=1):=(by show _=_;unfold zcT;rw[yb b9.out,yb (by rw[HN.out];omega)]);clear D2 c6
   go_wp2
   exact yw (v:=.tuple #[.agg #[.slice none 0 0,.slice none 0 0,.slice none 0 0,.slice none 0 0,.slice none 0 0],.slice none 0 0,.int .i64 1]) (by simp[results,Tryz.results20,go_sem,z0,z1,z2,z3,z4]) rfl (znJ.no RE.out (by decide) (((((a8.out.setCell (by show w.heap.size<=w.heap.size+1;omega) _).setCell (by show w.heap.size<=w.heap.size+1;omega) _).setCell (by show w.heap.size<=w.heap.size+1;omega) _).setCell (by show w.heap.size<=w.heap.size+1;omega) _).setCell (by show w.heap.size<=w.heap.size+1;omega) _))
 ·have hz:(E0 == 0)=false:=by simp[Z]
  have RE:Hid (zcT W L=E0):=by show _=_;unfold zcT;rw[b9.out,ya Z]
  clear D2 c6
  go_wp2
  exact yw (v:=.tuple #[.agg #[.slice none 0 0,.slice none 0 0,.slice none 0 0,.slice none 0 0,.slice none 0 0],.slice none 0 0,.int .i64 E0]) (by simp[results,Tryz.results20,go_sem,z0,z1,z2,z3,z4]) rfl (znJ.no RE.out Z (((((a8.out.setCell (by show w.heap.size<=w.heap.size+1;omega) _).setCell (by show w.heap.size<=w.heap.size+1;omega) _).setCell (by show w.heap.size<=w.heap.size+1;omega) _).setCell (by show w.heap.size<=w.heap.size+1;omega) _).setCell (by show w.heap.size<=w.heap.size+1;omega) _))
end Go.Proofs.YtcbcpomacdngmaaGreat
