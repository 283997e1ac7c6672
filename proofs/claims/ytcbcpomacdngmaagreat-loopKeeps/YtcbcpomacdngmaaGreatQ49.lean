/-
  x
-/
import Derived.Test.YtcbcpomacdngmaaGreatQ48
import Derived.ProofKit
import Derived.OpenShut
import Derived.ChangeOld
import Derived.Below
import Derived.Deep.Slices
import Derived.Lib.SmallJoins
namespace Go.Proofs.YtcbcpomacdngmaaGreat
set_option maxRecDepth 100000
set_option maxHeartbeats 4000000
set_option linter.unusedVariables false
open Go.RowKit Go.ChangeShapes Go.WideShapes Go.ChangeAt
theorem zyR:(Tryz.prog.info? 30).map (fun i=>(i.zero,i.size,i.bytes))=some (some (.int .i64 0),1,8):=by kernel_rfl
theorem zwT(n:Nat)(hn:n<=1000)(w:World):(Instr.makeSlice 72 (.int .i64 (n:Int)) (.int .i64 (n:Int))).run Tryz.prog w=.ok (.slice (some ⟨w.heap.size,0,none⟩) n n) (w.alloc (.cells (madeCells #[.int .i64 0] n) 30)) :=
 run_make_row' (P:=Tryz.prog) 72 30 (.int .i64 0) 8 Tryz.underlying72 zyR rfl .i64 .i64 n (by omega) (by omega) w
def znS(X:Nat->Prop)(w:World)(W:Wl)(L:List (Int × Bool))(e:Ending)(w' : World):Prop:=∃ (B:WA) (sa:Option Addr) (sc:Nat),e=.returned (.tuple #[wlV B (zfl W L),.slice sa (zjK W L).length sc,.int .i64 (zeS W L)])/\Below w.heap.size w w' /\ WlC B (zfl W L)/\zgr X w' B (zfl W L)/\St X (fun w=>zak w sa (zjK W L)) w'
theorem znS.no{X:Nat->Prop}{w w' : World}{W:Wl}{L:List (Int × Bool)}{E:Int}(h:zeS W L=E)(F:E≠0)(I:Below w.heap.size w w'):znS X w W L (.returned (.tuple #[.agg #[.slice none 0 0,.slice none 0 0,.slice none 0 0,.slice none 0 0,.slice none 0 0],.slice none 0 0,.int .i64 E])) w' := by
 subst h;have e:zfl W L=zka:=ya F;have D:zjK W L=[]:=ya F;refine⟨⟨none,none,none,none,none,0,0,0,0,0⟩,none,0,?_,I,?_,?_,?_⟩
 ·rw[e,D];rfl
 ·rw[e];exact⟨zcd,zcd,zcd,zcd,zcd⟩
 ·rw[e];exact fun w' _=>zpt w' _
 ·rw[D];exact fun _ _ _ h=>absurd h (yx _)
theorem zuX:∀ (L:List (Int × Bool)) (W:Wl) (k:Nat),k<L.length->(zny W L).getD k 0=zcp ((L.take k).foldl zdG W) (pk L k).1 (pk L k).2
 | [],_,_,h=>absurd h (yx _)
 | p :: l,W,0,_=>rfl
 | p :: l,W,k+1,h=>by
  have h1:=zuX l (zdG W p) k (by simpa using h);show (zny (zdG W p) l).getD k 0=_;rw[h1];rfl
theorem zuZ{W:Wl}{L:List (Int × Bool)}{k:Nat}(h:k<L.length):(L.take (k+1)).foldl zdG W=zdG ((L.take k).foldl zdG W) (pk L k):=by
 rw[List.take_succ_eq_append_getElem h,List.foldl_append];show zdG _ _=_;unfold pk;rw[zae _ _ h]
theorem zup{W:Wl}(H:zan W)(h:W.fs.length=0):W=zka:=by
 have F:W.pt.length=0:=by
  rcases Nat.eq_zero_or_pos W.pt.length with h1|h1
  ·exact h1
  ·have D:=H.pt.ok 0 h1;unfold zdC at D;rw[yd (.inl (fun E=>by have:=E.1;have:=E.2;rw[h] at this;omega))] at D;omega
 obtain⟨fs,rs,ps,qs,pt⟩:=W;have h1:=H.lr;have D:=H.lp;have E:=H.lq;dsimp only at h h1 D E F;rw[h] at h1 D E;obtain rfl:=List.eq_nil_of_length_eq_zero h;obtain rfl:=List.eq_nil_of_length_eq_zero h1;obtain rfl:=List.eq_nil_of_length_eq_zero D;obtain rfl:=List.eq_nil_of_length_eq_zero E;obtain rfl:=List.eq_nil_of_length_eq_zero F;rfl
structure RI (V2:World) (d8 sb N:Nat) (Wk:Wl) (S:List Int) (k:Nat) (A:WA) (wr:World):Prop where
 bel:Below V2.heap.size V2 wr
 box:wr.heap[d8]?=some (.cells #[.slice A.a0 Wk.fs.length A.c0,.slice A.a1 Wk.rs.length A.c1,.slice A.a2 Wk.ps.length A.c2,.slice A.a3 Wk.qs.length A.c3,.slice A.a4 Wk.pt.length A.c4] 28 (0,0))
 wl:zgr (fun b=>b<V2.heap.size\/b=d8\/b=sb) wr A Wk
 wc:WlC A Wk
 row:wr.rowIs sb 30 N (fun j=>if j<k then .int .i64 (S.getD j 0) else .int .i64 0)
theorem RI.lt{D:World}{E F N:Nat}{I:Wl}{S:List Int}{k:Nat}{A:WA}{wr:World}(h:RI D E F N I S k A wr):∀ b,(b<D.heap.size\/b=E\/b=F)->b<wr.heap.size:=fun b J=>by
 rcases J with h1|h1|h1
 ·exact yz h1 h.bel.size
 ·rw[h1];exact zay h.box
 ·rw[h1];exact h.row.lt
theorem RI.next{D:World}{F O N:Nat}{Wk I:Wl}{S:List Int}{k:Nat}{A B:WA}{wr J M:World}(h:RI D F O N Wk S k A wr)(h8:D.heap.size<=F)(hs:D.heap.size<=O)(Z:F≠O)(T:Below wr.heap.size wr J)(b0:zgr (fun b=>b<D.heap.size\/b=F\/b=O) J B I)(a9:WlC B I)(U:M.heap[F]?=some (.cells #[.slice B.a0 I.fs.length B.c0,.slice B.a1 I.rs.length B.c1,.slice B.a2 I.ps.length B.c2,.slice B.a3 I.qs.length B.c3,.slice B.a4 I.pt.length B.c4] 28 (0,0)))(ho:zar (fun b=>b=F) J M)(a6:M.os=J.os)(a8:M.tape=J.tape)(a7:M.output=J.output)(E:Int)(hE:S.getD k 0=E) :
  RI D F O N I S (k+1) B (M.setCell ⟨O,k,none⟩ (.int .i64 E)):=by
 have b1:Below D.heap.size D J:=h.bel.trans (T.mono h.bel.size);have b2:Below D.heap.size D M:=b1.trans ⟨a6,a8,a7,ho.size,fun b a5=>ho.block b (yz a5 b1.size) (by show ¬ b=F;omega)⟩;have o1:zar (fun b=>b<D.heap.size\/b=F\/b=O) J M:=ho.mono (fun b T=>.inr (.inl T));refine⟨b2.setCell hs _,(yv _ _ _ _ Z).trans U,(b0.off o1).off (zar.set _ _ (.inr (.inr rfl))),a9,?_⟩;have r1:=(h.row.of_block (T.block _ h.row.lt)).of_block (ho.block _ (yz h.row.lt T.size) (Ne.symm Z));refine yE (r1.set k (.int .i64 E)) (fun j _=>?_);by_cases e:j=k
 ·rw[yd e,yd (by omega),e,hE]
 ·rw[ya e];by_cases e2:j<k
  ·rw[yd e2,yd (by omega)]
  ·rw[ya e2,ya (by omega)]
theorem RI.done{X:Nat->Prop}{w I wr:World}{d8 M N E:Nat}{W D:Wl}{L:List (Int × Bool)}{A:WA}(h:RI I d8 M N D (zny W L) N A wr)(hX:∀ b,X b->b<w.heap.size)(F:Below w.heap.size w I)(hs:I.heap.size<=M)(J:w.heap.size<=E)(U:E<I.heap.size)(hN:L.length=N)(Z:zeS W L=0)(hW:L.foldl zdG W=D){V' : World}{u0 u1 u2 u3 u4:Value}
  (hV:V' =((((wr.setCell ⟨E,0,none⟩ u0).setCell ⟨E,1,none⟩ u1).setCell ⟨E,2,none⟩ u2).setCell ⟨E,3,none⟩ u3).setCell ⟨E,4,none⟩ u4) :
  znS X w W L (.returned (.tuple #[.agg #[.slice A.a0 D.fs.length A.c0,.slice A.a1 D.rs.length A.c1,.slice A.a2 D.ps.length A.c2,.slice A.a3 D.qs.length A.c3,.slice A.a4 D.pt.length A.c4],.slice (some ⟨M,0,none⟩) N N,.int .i64 0])) V' := by
 subst hV;have O:zfl W L=D:=(yd Z).trans hW;have e2:zjK W L=zny W L:=yd Z;have T:(zny W L).length=N:=by rw[ziU,hN]
 have b8:Below w.heap.size w wr:=F.trans (h.bel.mono F.size);have o5:=znz U wr u0 u1 u2 u3 u4;refine⟨A,some ⟨M,0,none⟩,N,?_,((((b8.setCell J _).setCell J _).setCell J _).setCell J _).setCell J _,by rw[O];exact h.wc,?_,?_⟩
 ·rw[O,e2,Z,T]
 ·rw[O];exact((h.wl.less (fun b F=>.inl F)).off o5).less (fun b hx=>yz (hX b hx) F.size)
 ·rw[e2];intro a5 ho;have r1:=(h.row.of_block (o5.block _ h.row.lt (by show ¬ M<I.heap.size;omega))).of_block (ho.block _ (yz h.row.lt o5.size) (fun hx=>by have:=hX _ hx;have:=F.size;omega));refine zhj (t:=30) (yE (by rw[T];exact r1) (fun j hj=>?_));rw[T] at hj;rw[yd hj]
theorem zxm(X:Nat->Prop)(A:WA)(W:Wl)(la:Option Addr)(lc:Nat)(L:List (Int × Bool))(w:World)(hX:∀ b,X b->b<w.heap.size)(hB:znQ W)(hC:WlC A W)(hW:zgr X w A W)(hL:L.length<=9223372036854775807)(i9:SlA la L.length lc)(hP:zfh w la L):Calls Tryz.prog 20 #[wlV A W,.slice la L.length lc] w (znS X w W L):=by
 obtain⟨a0,a1,a2,a3,a4,c0,c1,c2,c3,c4⟩:=A;have e7:Hid (zdF w ⟨a0,a1,a2,a3,a4,c0,c1,c2,c3,c4⟩ W):=hW.at;have D0:Hid (∀ V,Below w.heap.size w V->Calls _ _ _ _ _):=fun V hV=>zey ⟨a0,a1,a2,a3,a4,c0,c1,c2,c3,c4⟩ W V hB hC (e7.out.below hV);have D2:Hid (zan W->∀ V,Below w.heap.size w V->Calls _ _ _ _ _):=fun H V hV=>zgW ⟨a0,a1,a2,a3,a4,c0,c1,c2,c3,c4⟩ W V H (e7.out.below hV);have h7:Hid _:=hX;have HP:Hid (zfh w la L):=hP;clear hX hW hB hC hP i9;dsimp only[wlV] at D0 D2 |-;obtain⟨E0,Z⟩:∃ E,zbg W=E:=⟨_,rfl⟩;have b9:Hid (zbg W=E0):=Z;rw[Z] at D0;clear Z;obtain⟨N,hN⟩:∃ N,L.length=N:=⟨_,rfl⟩;have HN:Hid (L.length=N):=hN;rw[hN] at hL |-;have i8:=hN;clear hN;obtain⟨J,b1⟩:∃ n,W.fs.length=n:=⟨_,rfl⟩;obtain⟨n1,c8⟩:∃ n,W.rs.length=n:=⟨_,rfl⟩;obtain⟨n2,c9⟩:∃ n,W.ps.length=n:=⟨_,rfl⟩;obtain⟨n3,d4⟩:∃ n,W.qs.length=n:=⟨_,rfl⟩;obtain⟨n4,d9⟩:∃ n,W.pt.length=n:=⟨_,rfl⟩;have d5:Hid (W.fs.length=J):=b1;have g7:Hid (W.rs.length=n1):=c8;have g8:Hid (W.ps.length=n2):=c9;have g9:Hid (W.qs.length=n3):=d4;have h6:Hid (W.pt.length=n4):=d9;have c6:Hid (zan W->J=n1/\J=n2/\J=n3):=fun H=>⟨by rw[<- c8,H.lr,b1],by rw[<- c9,H.lp,b1],by rw[<- d4,H.lq,b1]⟩;rw[b1,c8,c9,d4,d9] at D0 D2 |-;clear b1 c8 c9 d4 d9 i8
 go_enter Tryz.func20,Tryz.ntmps20
 go_wp2_with fail
 obtain⟨V1,b2⟩:∃ V1,(w.alloc (.cells #[.slice a0 J c0,.slice a1 n1 c1,.slice a2 n2 c2,.slice a3 n3 c3,.slice a4 n4 c4] 28)).alloc (.cells #[.slice none 0 0,.slice none 0 0,.slice none 0 0,.slice none 0 0,.slice none 0 0] 28)=V1:=⟨_,rfl⟩;have BV:Hid (Below w.heap.size w V1):=by rw[<- b2];exact zah _ _ _
 have X1:Hid (V1.heap[w.heap.size]?=some (.cells #[.slice a0 J c0,.slice a1 n1 c1,.slice a2 n2 c2,.slice a3 n3 c3,.slice a4 n4 c4] 28 (0,0))):=by
  rw[<- b2];exact zat (yL w _) (zaa _ _)
 have X3:Hid (V1.heap[w.heap.size+1]?=some (.cells #[.slice none 0 0,.slice none 0 0,.slice none 0 0,.slice none 0 0,.slice none 0 0] 28 (0,0))):=by
  rw[<- b2];have h:=yL (w.alloc (.cells #[.slice a0 J c0,.slice a1 n1 c1,.slice a2 n2 c2,.slice a3 n3 c3,.slice a4 n4 c4] 28)) (.cells #[.slice none 0 0,.slice none 0 0,.slice none 0 0,.slice none 0 0,.slice none 0 0] 28);rw[ys] at h;exact h
 rw[b2];clear b2;refine yi (D0.out V1 BV.out) ?_;rintro e T ⟨rfl,hb⟩;have B2:Hid (Below V1.heap.size V1 T):=hb;have a8:Hid (Below w.heap.size w T):=BV.out.trans (hb.mono BV.out.size);clear hb D0;have Y1:Hid _:=zat X1.out B2.out;have Y3:Hid _:=zat X3.out B2.out;clear X1 X3;obtain⟨q0,q1,q2,q3,q4,qf,ql⟩:=zal Y1.out;obtain⟨z0,z1,z2,z3,z4,zf,zl⟩:=zal Y3.out;by_cases Z:E0=0
 ·subst Z;have HR:Hid (zan W):=zbU.1 b9.out;by_cases j2:N<=120
  ·have e0:¬ ((120:Int)<(N:Int)):=by omega
   have RE:Hid (zeS W L=0):=by show _=_;unfold zeS;rw[yd b9.out,ya (by rw[HN.out];omega)]
   obtain⟨e1,e2,e3⟩:=c6.out HR.out;subst e1;subst e2;subst e3;have D3:Hid _:=D2.out HR.out T a8.out;clear c6 D2
   go_wp2_with fail
   refine yi D3.out ?_;rintro e V3 ⟨s,rfl,d6,_,g5,g4⟩;have e5:Hid _:=g4;have e6:Hid _:=g5;have B3:Hid (Below T.heap.size T V3):=d6;have s3:=d6.size;clear g4 g5 d6 D3 q0 q1 q2 q3 q4 qf ql z0 z1 z2 z3 z4 zf zl;dsimp only[wlV,SD.wa];have j0:=zwT N (by omega)
   go_wp2_with fail
   obtain⟨D,hd⟩:∃ d,V3.heap.size=d:=⟨_,rfl⟩;obtain⟨V4,a9⟩:∃ V4,V3.alloc (.cells #[.slice s.a0 J s.c0,.slice (some ⟨s.g1,0,none⟩) J J,.slice (some ⟨s.g2,0,none⟩) J J,.slice (some ⟨s.g3,0,none⟩) J J,.slice s.a4 n4 s.c4] 28)=V4:=⟨_,rfl⟩;have j1:V4.heap.size=D+1:=by rw[<- a9,<- hd];simp
   have X4:Hid (V4.heap[D]?=some (.cells #[.slice s.a0 J s.c0,.slice (some ⟨s.g1,0,none⟩) J J,.slice (some ⟨s.g2,0,none⟩) J J,.slice (some ⟨s.g3,0,none⟩) J J,.slice s.a4 n4 s.c4] 28 (0,0))):=by rw[<- a9,<- hd];exact yL _ _
   have B4:Hid (Below T.heap.size T V4):=by rw[<- a9];exact B3.out.trans ((zaa _ _).mono B3.out.size)
   have W4:Hid (zgr (fun b=>b<T.heap.size\/b=D) V4 (s.wa J) W):=by
    by_cases h0:W.fs.length=0
    ·intro V' _;rw[zup HR.out h0];exact zpt V' _
    ·have h:=(e5.out 0 (by have:=d5.out;omega)).wlX;rw[d5.out,a9,hd] at h;exact h
   have e9:T.heap.size<=D:=by omega
   clear e5;obtain⟨V5,c7⟩:∃ V5,V4.alloc (.cells (madeCells #[.int .i64 0] N) 30)=V5:=⟨_,rfl⟩
   have R0:Hid (RI T D (D+1) N W (zny W L) 0 (s.wa J) V5):=by
    have b5:=zaa V4 (.cells (madeCells #[.int .i64 0] N) 30);rw[c7] at b5;refine⟨B4.out.trans (b5.mono B4.out.size),?_,?_,e6.out,?_⟩
    ·dsimp only[SD.wa];rw[d5.out,g7.out,g8.out,g9.out,h6.out];exact zat X4.out b5
    ·exact W4.out.grow (zar.of_below b5) (fun b hb hy=>by rcases hy with h|h|h;exact .inl h;exact .inr h;omega)
    ·rw[<- c7,<- j1];have h:=World.rowIs_alloc V4 (madeCells #[.int .i64 0] N) 30 (fun j=>(madeCells #[.int .i64 0] N)[j]!) (fun j hj=>by simp[hj]);rw[size_madeCells] at h;refine yE h (fun j hj=>?_);rw[ya (yx _)];have e2:(madeCells #[Value.int .i64 0] N)[j]! =(#[Value.int .i64 0]:Array Value)[j % 1]!:=by simp[madeCells,hj]
     rw[e2,Nat.mod_one];rfl
   rw[a9,c7,hd];clear a9 c7 hd j0;clear W4 X4 e6 B4
   go_loopg [30] N (fun g s30 wr=>∃ (k:Nat) (A:WA),k<=N/\N-k<=g/\s30=.int .i64 k/\Hid (RI T D (D+1) N ((L.take k).foldl zdG W) (zny W L) k A wr))
   case atStart=>exact⟨0,_,by omega,by omega,rfl,R0.out⟩
   case round =>
    obtain⟨k,A,hk,hg,rfl,F⟩:=hrel;clear R0;by_cases g0:k<N
    ·have j3:(k:Int)<(N:Int):=by omega
     have d7:k<L.length:=by rw[HN.out];exact g0
     obtain⟨lb,lo,h9,x0,x1⟩:=HP.out k d7;subst h9;have e4:Hid (Below w.heap.size w wr):=a8.out.trans (F.out.bel.mono a8.out.size);replace x0:=zab x0 e4.out;replace x1:=zab x1 e4.out;have j9:lb<wr.heap.size:=ye _ _ x0;have SE:Hid _:=zuX L W k d7;have NX:Hid _:=zuZ (W:=W) d7;have RR:Hid _:=(zgc (L.take k) HR.out).1;obtain⟨a5,b6⟩:∃ p,(pk L k).1=p:=⟨_,rfl⟩;obtain⟨a6,b7⟩:∃ p,(pk L k).2=p:=⟨_,rfl⟩;have h8:Hid (pk L k=(a5,a6)):=by rw[<- b6,<- b7];rfl
     rw[b6] at x0 SE;rw[b7] at x1 SE;rw[h8.out] at NX;obtain⟨I,b3⟩:∃ I,(L.take k).foldl zdG W=I:=⟨_,rfl⟩;rw[b3] at F SE NX RR;clear b3 b6 b7;have U:Hid (zdG I (a5,a6)=if zcp I a5 a6=0 then zbz I a5 a6 else I):=rfl;have DS:Hid (∀ (Y:Nat->Prop) V,(∀ b,Y b->b<V.heap.size)->zgr Y V A I->Calls _ _ _ _ _):=fun Y V hY hV=>zqv Y A I a5 a6 V hY (zdq RR.out) F.out.wc hV;obtain⟨q0,q1,q2,q3,q4,qf,ql⟩:=zal F.out.box;obtain⟨M,e8⟩:∃ M,zbz I a5 a6=M:=⟨_,rfl⟩;unfold znV at DS;dsimp only[wlV] at DS;rw[e8] at U DS;clear e8;obtain⟨E,hE⟩:∃ E,zcp I a5 a6=E:=⟨_,rfl⟩;rw[hE] at U DS SE;clear hE
     skip
     have n8:¬ wr.heap.size=D:=by omega
     have k0:¬ D=wr.heap.size:=by omega
     have k2:¬ lb=wr.heap.size:=by omega
     have j6:¬ wr.heap.size=lb:=by omega
     go_upto_region 11 with fail
     go_cut [11,12,30] from 30 to 49 (fun s11 s12 s30 wx=>∃ (b:Nat) (B:WA),s11=.pointer (some ⟨b,0,none⟩)/\s12=.int .i64 E/\s30=.int .i64 (k:Int)/\Hid (Below wr.heap.size wr wx)/\Hid (wx.heap[b]?=some (.cells #[.slice B.a0 M.fs.length B.c0,.slice B.a1 M.rs.length B.c1,.slice B.a2 M.ps.length B.c2,.slice B.a3 M.qs.length B.c3,.slice B.a4 M.pt.length B.c4] 28 (0,0)))/\wr.heap.size<=b/\Hid (WlC B M)/\Hid (zgr (fun b=>b<T.heap.size\/b=D\/b=D+1) wx B M))
     case first =>
      go_region_held3 (fun a7=>a7.cell? ⟨D,0,none⟩=some (.slice A.a0 I.fs.length A.c0)/\a7.cell? ⟨D,1,none⟩=some (.slice A.a1 I.rs.length A.c1)/\a7.cell? ⟨D,2,none⟩=some (.slice A.a2 I.ps.length A.c2)/\a7.cell? ⟨D,3,none⟩=some (.slice A.a3 I.qs.length A.c3)/\a7.cell? ⟨D,4,none⟩=some (.slice A.a4 I.pt.length A.c4)/\a7.cell? ⟨lb,lo+k*2,none⟩=some (.int .i64 a5)/\a7.cell? ⟨lb,lo+k*2+1,none⟩=some (.bool a6)) (go_keep) (first|(go_at_call 13;refine yi (DS.out (fun b=>b<T.heap.size\/b=D\/b=D+1) wr.drew F.out.lt (F.out.wl.off (zar.of_below (yr _ _).drew))) ?_;rintro e w5 ⟨B,rfl,b0,b4,b8⟩;have O:Hid (Below wr.heap.size wr w5):=(yr _ _).drew.trans b0;have C5:Hid _:=b4;have W5:Hid (zgr (fun b=>b<T.heap.size\/b=D\/b=D+1) w5 B M):=b8;have i0:=zab q0 O.out;have i1:=zab q1 O.out;have i2:=zab q2 O.out;have i3:=zab q3 O.out;have i4:=zab q4 O.out;have i5:=zab x0 O.out;have i6:=zab x1 O.out;clear b0 b4 b8)|(go_at_call 13;refine yi (DS.out (fun b=>(b<T.heap.size\/b=D\/b=D+1)\/b=wr.heap.size) (wr.alloc (.cells #[.slice none 0 0,.slice none 0 0,.slice none 0 0,.slice none 0 0,.slice none 0 0] 28)).drew (fun b hb=>by rcases hb with h|h;have:=F.out.lt b h;simp;omega;simp;omega) (F.out.wl.grow (zar.of_below (zaa wr _).drew) (fun b hb hy=>by rcases hy with h|h;exact h;omega))) ?_;rintro e w5 ⟨B,rfl,b0,b4,b8⟩;have O:Hid (Below wr.heap.size wr w5):=(zaa wr _).drew.trans (b0.mono (by simp));have C5:Hid _:=b4;have W5:Hid (zgr (fun b=>(b<T.heap.size\/b=D\/b=D+1)\/b=wr.heap.size) w5 B M):=b8;have i0:=zab q0 O.out;have i1:=zab q1 O.out;have i2:=zab q2 O.out;have i3:=zab q3 O.out;have i4:=zab q4 O.out;have i5:=zab x0 O.out;have i6:=zab x1 O.out;have X5:Hid (w5.heap[wr.heap.size]?=some (.cells #[.slice none 0 0,.slice none 0 0,.slice none 0 0,.slice none 0 0,.slice none 0 0] 28 (0,0))):=zat (W:=(wr.alloc (.cells #[.slice none 0 0,.slice none 0 0,.slice none 0 0,.slice none 0 0,.slice none 0 0] 28)).drew) (yL wr _) b0;obtain⟨y0,y1,y2,y3,y4,yf,yl⟩:=zal X5.out;clear b0 b4 b8))
      ·go_wp2_with fail
       go_meet
       case rel=>exact⟨_,B,rfl,rfl,rfl,O.out.trans ((zaa _ _).mono O.out.size),yL _ _,O.out.size,C5.out,W5.out.off (zar.of_below (zaa _ _))⟩
      ·go_wp2_with fail
       go_meet
       case rel=>exact⟨_,B,rfl,rfl,rfl,((((O.out.setCell (yk _) _).setCell (yk _) _).setCell (yk _) _).setCell (yk _) _).setCell (yk _) _,zlu X5.out,yk _,C5.out,(W5.out.off ((zmi _ _ _ _ _ _).mono (fun b hb=>.inr hb))).less (fun b hb=>.inl hb)⟩
     case rest =>
      obtain⟨b,B,rfl,rfl,rfl,HB,HX,j8,HC,HW⟩:=hcut;clear q0 q1 q2 q3 q4 qf DS x0 x1;have R1:Hid (∀ wy,wy.heap[D]?=some (.cells #[.slice B.a0 M.fs.length B.c0,.slice B.a1 M.rs.length B.c1,.slice B.a2 M.ps.length B.c2,.slice B.a3 M.qs.length B.c3,.slice B.a4 M.pt.length B.c4] 28 (0,0))->zar (fun b=>b=D) wc wy->wy.os=wc.os->wy.tape=wc.tape->wy.output=wc.output->E=0->RI T D (D+1) N M (zny W L) (k+1) B (wy.setCell ⟨D+1,k,none⟩ (.int .i64 E))):=fun wy h1 h2 h3 h4 h5 _=>F.out.next e9 (by omega) (by omega) HB.out HW.out HC.out h1 h2 h3 h4 h5 E SE.out;have R2:Hid (RI T D (D+1) N I (zny W L) (k+1) A (wc.setCell ⟨D+1,k,none⟩ (.int .i64 E))):=F.out.next e9 (by omega) (by omega) HB.out (F.out.wl.off (zar.of_below HB.out)) F.out.wc (zat F.out.box HB.out) (zar.refl _ _) rfl rfl rfl E SE.out;have RF:Hid _:=(F.out.row.of_block (HB.out.block _ F.out.row.lt)).frozen k;have RC:Hid (∃ v,wc.cell? ⟨D+1,k,none⟩=some v):=⟨_,(F.out.row.of_block (HB.out.block _ F.out.row.lt)).cell g0⟩;have Q8:Hid _:=zat F.out.box HB.out;obtain⟨cv,rc⟩:=RC.out;have rf:=RF.out;clear F HW HC RC RF;obtain⟨p0,p1,p2,p3,p4,pf,pl⟩:=zal HX.out;obtain⟨q0,q1,q2,q3,q4,qf,k4⟩:=zal Q8.out;have k1:¬ b=D:=by omega
      have j5:¬ D=b:=by omega
      have k3:¬ D+1=D:=by omega
      have j7:¬ D=D+1:=by omega
      by_cases hE:E=0
      ·subst hE;rw[yd rfl] at U;rw[U.out] at NX;have FB:Hid _:=R1.out _ (zlu (u0:=.slice B.a0 M.fs.length B.c0) (u1:=.slice B.a1 M.rs.length B.c1) (u2:=.slice B.a2 M.ps.length B.c2) (u3:=.slice B.a3 M.qs.length B.c3) (u4:=.slice B.a4 M.pt.length B.c4) Q8.out) (zmi _ _ _ _ _ _) rfl rfl rfl rfl;clear R1 R2 U
       skip
       go_wp2_with fail
       go_roundg (N-(k+1))
       case measure=>omega
       case rel=>exact⟨k+1,B,by omega,by omega,by go_num,(by rw[NX.out];exact FB.out)⟩
      ·have hz:(E == 0)=false:=by simp[hE]
       rw[ya hE] at U;rw[U.out] at NX;have FB:Hid _:=R2.out;clear R1 R2 U
       go_wp2_with fail
       go_roundg (N-(k+1))
       case measure=>omega
       case rel=>exact⟨k+1,A,by omega,by omega,by go_num,(by rw[NX.out];exact FB.out)⟩
    ·have:k=N:=by omega
     subst this;have hz:¬ ((k:Int)<(k:Int)):=by omega
     have EW:Hid (L.foldl zdG W=(L.take k).foldl zdG W):=by show _=_;rw[<- HN.out,List.take_length]
     have Z8:Hid (wr.heap[w.heap.size+1]?=some (.cells #[.slice none 0 0,.slice none 0 0,.slice none 0 0,.slice none 0 0,.slice none 0 0] 28 (0,0))):=(F.out.bel.block _ (zay Y3.out)).trans Y3.out;obtain⟨z0,z1,z2,z3,z4,zf,zl⟩:=zal Z8.out;obtain⟨q0,q1,q2,q3,q4,qf,ql⟩:=zal F.out.box;have i7:w.heap.size+1<T.heap.size:=zay Y3.out;have n41:¬ D=w.heap.size+1:=by omega
     have j4:¬ w.heap.size+1=D:=by omega
     obtain⟨I,b3⟩:∃ I,(L.take k).foldl zdG W=I:=⟨_,rfl⟩;rw[b3] at F EW q0 q1 q2 q3 q4;clear b3;have g6:Hid (∀ u0 u1 u2 u3 u4 V', _->znS X w W L _ V'):=fun u0 u1 u2 u3 u4 V' h=>F.out.done (u0:=u0) (u1:=u1) (u2:=u2) (u3:=u3) (u4:=u4) h7.out a8.out (by omega) (by omega:w.heap.size<=w.heap.size+1) i7 HN.out RE.out EW.out h;clear F EW
     skip
     go_wp2
     exact yw (v:=.tuple #[.agg #[.slice A.a0 I.fs.length A.c0,.slice A.a1 I.rs.length A.c1,.slice A.a2 I.ps.length A.c2,.slice A.a3 I.qs.length A.c3,.slice A.a4 I.pt.length A.c4],.slice (some ⟨D+1,0,none⟩) k k,.int .i64 0]) (by simp[results,Tryz.results20,go_sem,z0,z1,z2,z3,z4]) rfl (g6.out _ _ _ _ _ _ rfl)
  ·have e0:(120:Int)<(N:Int):=by omega
   have RE:Hid (zeS W L=1):=by show _=_;unfold zeS;rw[yd b9.out,yd (by rw[HN.out];omega)]
   clear D2 c6
   go_wp2
   exact yw (v:=.tuple #[.agg #[.slice none 0 0,.slice none 0 0,.slice none 0 0,.slice none 0 0,.slice none 0 0],.slice none 0 0,.int .i64 1]) (by simp[results,Tryz.results20,go_sem,z0,z1,z2,z3,z4]) rfl (znS.no RE.out (by decide) (((((a8.out.setCell (by show w.heap.size<=w.heap.size+1;omega) _).setCell (by show w.heap.size<=w.heap.size+1;omega) _).setCell (by show w.heap.size<=w.heap.size+1;omega) _).setCell (by show w.heap.size<=w.heap.size+1;omega) _).setCell (by show w.heap.size<=w.heap.size+1;omega) _))
 ·have hz:(E0 == 0)=false:=by simp[Z]
  have RE:Hid (zeS W L=E0):=by show _=_;unfold zeS;rw[b9.out,ya Z]
  clear D2 c6
  go_wp2
  exact yw (v:=.tuple #[.agg #[.slice none 0 0,.slice none 0 0,.slice none 0 0,.slice none 0 0,.slice none 0 0],.slice none 0 0,.int .i64 E0]) (by simp[results,Tryz.results20,go_sem,z0,z1,z2,z3,z4]) rfl (znS.no RE.out Z (((((a8.out.setCell (by show w.heap.size<=w.heap.size+1;omega) _).setCell (by show w.heap.size<=w.heap.size+1;omega) _).setCell (by show w.heap.size<=w.heap.size+1;omega) _).setCell (by show w.heap.size<=w.heap.size+1;omega) _).setCell (by show w.heap.size<=w.heap.size+1;omega) _))
theorem zrV(A B:RA)(R Q:Rl)(w:World)(hB:zsq R)(h1:zct w A R)(h2:zct w B Q) :
  Calls Tryz.prog 17 #[rlV A R,rlV B Q] w fun e w' => ∃ r:Bool,e=.returned (.bool r)/\Below w.heap.size w w' /\(r=true↔R=Q):=by
 obtain⟨a0,a1,a2,a3,c0,c1,c2,c3⟩:=A;obtain⟨Z,b1,b2,U,d0,d1,d2,d3⟩:=B;have EX:Hid (R=Q↔R.s=Q.s/\R.hs=Q.hs/\R.i=Q.i/\R.t=Q.t):=zAF;obtain⟨g1,g2,g3,g4,g5,g6⟩:=hB;have D1:Hid (∀ W,Below w.heap.size w W->_):=fun W O=>zxo a0 Z c0 d0 R.s Q.s W g1 g2 (h1.1.below O) (h2.1.below O);have D2:Hid (∀ W,Below w.heap.size w W->_):=fun W O=>zko a1 b1 c1 d1 R.hs Q.hs W g3 (h1.2.1.below O) (h2.2.1.below O);have D3:Hid (∀ W,Below w.heap.size w W->_):=fun W O=>ztE a2 b2 c2 d2 R.i Q.i W g4 g5 (h1.2.2.1.below O) (h2.2.2.1.below O);have D4:Hid (∀ W,Below w.heap.size w W->Calls Tryz.prog 29 #[.slice a3 R.t.length c3,.slice U Q.t.length d3] W fun e w' => ∃ r:Bool,e=.returned (.bool r)/\Below W.heap.size W w' /\(r=true↔R.t=Q.t)):=fun W O=>(zfr a3 U c3 d3 R.t Q.t W g6 (h1.2.2.2.below O) (h2.2.2.2.below O)).mono fun e w' ⟨e1,D⟩=>⟨_,e1,D,decide_eq_true_iff⟩;clear h1 h2 g1 g2 g3 g4 g5 g6;dsimp only[rlV];generalize R.s=x0 at *;generalize Q.s=y0 at *;generalize R.hs=x1 at *;generalize Q.hs=y1 at *;generalize R.i=x2 at *;generalize Q.i=y2 at *;generalize R.t=x3 at *;generalize Q.t=y3 at *;generalize x0.length=m0 at *;generalize y0.length=n0 at *;generalize x1.length=m1 at *;generalize y1.length=n1 at *;generalize x2.length=m2 at *;generalize y2.length=n2 at *;generalize x3.length=m3 at *;generalize y3.length=n3 at *
 go_enter Tryz.func17,Tryz.ntmps17
 go_wp2_with fail
 refine yi (D1.out _ (zah _ _ _)) ?_;rintro e W1 ⟨r1,rfl,D,T⟩;have a5:Hid _:=T;clear T;have E:Hid (Below w.heap.size w W1):=(zah w _ _).trans (D.mono (by simp;omega));have l0:=zab (zaB w #[.slice a0 m0 c0,.slice a1 m1 c1,.slice a2 m2 c2,.slice a3 m3 c3] 50 0 (.cells #[.slice Z n0 d0,.slice b1 n1 d1,.slice b2 n2 d2,.slice U n3 d3] 50) rfl) D;have F:=zab (zaC w #[.slice Z n0 d0,.slice b1 n1 d1,.slice b2 n2 d2,.slice U n3 d3] 50 0 (.cells #[.slice a0 m0 c0,.slice a1 m1 c1,.slice a2 m2 c2,.slice a3 m3 c3] 50) rfl) D;have l1:=zab (zaB w #[.slice a0 m0 c0,.slice a1 m1 c1,.slice a2 m2 c2,.slice a3 m3 c3] 50 1 (.cells #[.slice Z n0 d0,.slice b1 n1 d1,.slice b2 n2 d2,.slice U n3 d3] 50) rfl) D;have I:=zab (zaC w #[.slice Z n0 d0,.slice b1 n1 d1,.slice b2 n2 d2,.slice U n3 d3] 50 1 (.cells #[.slice a0 m0 c0,.slice a1 m1 c1,.slice a2 m2 c2,.slice a3 m3 c3] 50) rfl) D;have l2:=zab (zaB w #[.slice a0 m0 c0,.slice a1 m1 c1,.slice a2 m2 c2,.slice a3 m3 c3] 50 2 (.cells #[.slice Z n0 d0,.slice b1 n1 d1,.slice b2 n2 d2,.slice U n3 d3] 50) rfl) D;have J:=zab (zaC w #[.slice Z n0 d0,.slice b1 n1 d1,.slice b2 n2 d2,.slice U n3 d3] 50 2 (.cells #[.slice a0 m0 c0,.slice a1 m1 c1,.slice a2 m2 c2,.slice a3 m3 c3] 50) rfl) D;have l3:=zab (zaB w #[.slice a0 m0 c0,.slice a1 m1 c1,.slice a2 m2 c2,.slice a3 m3 c3] 50 3 (.cells #[.slice Z n0 d0,.slice b1 n1 d1,.slice b2 n2 d2,.slice U n3 d3] 50) rfl) D
 have M:=zab (zaC w #[.slice Z n0 d0,.slice b1 n1 d1,.slice b2 n2 d2,.slice U n3 d3] 50 3 (.cells #[.slice a0 m0 c0,.slice a1 m1 c1,.slice a2 m2 c2,.slice a3 m3 c3] 50) rfl) D;clear D D1;cases r1
 ·go_wp2_with fail
  go_ret;exact⟨_,rfl,E.out,⟨fun h=>(by cases h),fun h=>(by have:=a5.out.2 ((EX.out.1 h).1);cases this)⟩⟩
 go_wp2_with fail
 refine yi (D2.out _ E.out) ?_;rintro e W2 ⟨r2,rfl,D,T⟩;have a6:Hid _:=T;clear T;have E:Hid (Below w.heap.size w W2):=E.out.trans (D.mono E.out.size);have l0:=zab l0 D;have F:=zab F D;have l1:=zab l1 D;have I:=zab I D;have l2:=zab l2 D;have J:=zab J D;have l3:=zab l3 D;have M:=zab M D;clear D D2;cases r2
 ·go_wp2_with fail
  go_ret;exact⟨_,rfl,E.out,⟨fun h=>(by cases h),fun h=>(by have:=a6.out.2 ((EX.out.1 h).2.1);cases this)⟩⟩
 go_wp2_with fail
 refine yi (D3.out _ E.out) ?_;rintro e W3 ⟨r3,rfl,D,T⟩;have a7:Hid _:=T;clear T;have E:Hid (Below w.heap.size w W3):=E.out.trans (D.mono E.out.size);have l0:=zab l0 D;have F:=zab F D;have l1:=zab l1 D;have I:=zab I D;have l2:=zab l2 D;have J:=zab J D;have l3:=zab l3 D;have M:=zab M D;clear D D3;cases r3
 ·go_wp2_with fail
  go_ret;exact⟨_,rfl,E.out,⟨fun h=>(by cases h),fun h=>(by have:=a7.out.2 ((EX.out.1 h).2.2.1);cases this)⟩⟩
 go_wp2_with fail
 refine yi (D4.out _ E.out) ?_;rintro e W4 ⟨r4,rfl,D,T⟩;have a8:Hid _:=T;clear T;have E:Hid (Below w.heap.size w W4):=E.out.trans (D.mono E.out.size);have l0:=zab l0 D;have F:=zab F D;have l1:=zab l1 D;have I:=zab I D;have l2:=zab l2 D;have J:=zab J D;have l3:=zab l3 D;have M:=zab M D;clear D D4
 go_wp2_with fail
 go_ret;exact⟨_,rfl,E.out,⟨fun h=>EX.out.2 ⟨a5.out.1 trivial,a6.out.1 trivial,a7.out.1 trivial,a8.out.1 h⟩,fun h=>a8.out.2 (EX.out.1 h).2.2.2⟩⟩
theorem znE:zfN:=fun X A W k s w I D E F=>zqv X A W k s w I D E F
theorem zmf:zfn:=fun X A W O T L w M D E J F hl I=>zxm X A W O T L w M D E J F hl I
theorem zlk:zsv:=fun A B R Q w E h1 D=>zrV A B R Q w E h1 D
variable {H:Type} {enc:TypeId × Value->H} {w:World} {base:Nat} {spare:Nat->Bool} {held:Bool}
theorem zsS:Tryz.prog.cellsOf 3=1:=by kernel_rfl
theorem zhE:Tryz.prog.cellsOf 55=2:=by kernel_rfl
theorem ziZ:Tryz.prog.cellsOf 47=1:=by kernel_rfl
theorem zla{fuel:Nat}{I:List Value}{x:DataW H × List MemPlace}(h:DataW.trod enc Tryz.prog w base spare held fuel 48 I=some x) :
  ∃ ka kc,∃ ks:List Int,I=[.slice ka ks.length kc]/\ks.length<=kc/\kc<=9223372036854775807/\zak w ka ks:=by
 rcases open_ints Tryz.underlying48 Tryz.underlying3 zsS h with ⟨rfl,_⟩ |⟨a,len,cap,F,rfl,_,hl,M,O,_,D,_⟩
 ·exact⟨none,0,[],rfl,by simp,by omega,fun i hi=>absurd hi (yx _)⟩
 ·have J:len<=F.length:=by rw[O];split <;> omega
  have E:(F.take len).length=len:=by rw[List.length_take];omega
  refine⟨some a,cap,F.take len,by rw[E],by rw[E];exact hl,by unfold maxLen at M;omega,fun i hi=>?_⟩;rw[E] at hi;obtain⟨b,off,rfl,hc⟩:=ints_at D (by omega);refine⟨b,off,rfl,?_⟩;rw[hc i (by omega),zae F 0 (by omega),zae (F.take len) 0 (by omega),List.getElem_take]
theorem zuv{fuel b o:Nat}{D:List Value}{x:DataW H × List MemPlace}(h:DataW.trod enc Tryz.prog w base spare held fuel 55 D=some x)(hc:∀ j,j<2->w.cell? ⟨b,o+j,none⟩=D[j]?) :
  ∃ y:Cl,zzv w b o y/\y.ks.length<=9223372036854775807:=by
 obtain⟨xs,n,_,_,hl,E,F⟩:=DataW.trod_struct Tryz.underlying55 h;rw[zhE] at hl
 match D,hl with
 | [a0,a1],_ =>
  match xs,E with
  | [x0,x1],_ =>
   have M:=F 0 _ rfl;have g1:=F 1 _ rfl;obtain⟨Z,I,_⟩:=DataW.trod_int Tryz.underlying3 M;obtain⟨ka,kc,ks,J,T,U,O⟩:=zla g1
   cases I;cases J
   exact⟨⟨Z,ks⟩,⟨hc 0 (by omega),ka,kc,hc 1 (by omega),O⟩,by show ks.length<=_;omega⟩
theorem zwO(len:Nat)(P:Nat->Cl->Prop)(h:∀ i,i<len->∃ x,P i x):∃ S:List Cl,S.length=len/\∀ i,i<len->P i (cl S i):=by
 induction len with
 | zero=>exact⟨[],rfl,fun i hi=>absurd hi (yx _)⟩
 | succ n I =>
  obtain⟨S,hl,E⟩:=I (fun i hi=>h i (by omega));obtain⟨x,F⟩:=h n (by omega);refine⟨S++[x],by simp[hl],fun i hi=>?_⟩;by_cases e:i=n
  ·subst e;rw[zcv (by simp[hl])];simpa [hl] using F
  ·have D:i<S.length:=by omega
   have:=E i (by omega);rw[zcv D] at this;rw[zcv (by simp;omega),List.getElem_append_left D];exact this
theorem zhU{fuel:Nat}{cs:List Value}{x:DataW H × List MemPlace}(h:DataW.trod enc Tryz.prog w base spare held fuel 45 cs=some x) :
  ∃ a c,∃ S:List Cl,cs=[.slice a S.length c]/\S.length<=9223372036854775807/\zkb S/\zaI w a S:=by
 rcases Go.Deep.open_slice Tryz.underlying45 h with ⟨rfl,_⟩ |⟨a,len,cap,m,n,D,Pl,rfl,_,hl,hm,Z,_,hx⟩
 ·exact⟨none,0,[],rfl,by simp,fun i hi=>absurd hi (yx _),fun i hi=>absurd hi (yx _)⟩
 ·have a6:len<=m:=by rw[Z];split <;> omega
  obtain⟨M,O,J⟩:=a;by_cases h0:len=0
  ·subst h0;exact⟨_,cap,[],rfl,by simp,fun i hi=>absurd hi (yx _),fun i hi=>absurd hi (yx _)⟩
  ·have a5:J=none:=by
    obtain⟨T,hc,ht⟩:=hx 0 (by omega);rw[zhE] at hc;obtain⟨_,U,E⟩:=World.cells?_some hc;have h1:=E 0 (by omega);rw[List.getElem?_eq_getElem (by omega)] at h1;simpa [Addr.add] using World.cell?_spot h1
   subst a5
   obtain⟨S,F,I⟩:=zwO len (fun i x=>zzv w M (O+i*2) x/\x.ks.length<=9223372036854775807) (fun i hi=>by
    obtain⟨T,hc,ht⟩:=hx i (by omega);rw[zhE] at hc;obtain⟨_,U,E⟩:=World.cells?_some hc;refine zuv ht (fun j hj=>?_);have h1:=E j hj
    rwa [add_plain,add_plain] at h1)
   exact⟨some ⟨M,O,none⟩,cap,S,by rw[F],by rw[F];unfold maxLen at hm;omega,fun i hi=>(I i (by omega)).2,fun i hi=>⟨M,O,rfl,(I i (by omega)).1⟩⟩
variable {H:Type} {enc:TypeId × Value->H} {w:World} {base:Nat} {spare:Nat->Bool} {held:Bool}
theorem zhF:Tryz.prog.cellsOf 121=5:=by kernel_rfl
theorem zwQ(len:Nat)(P:Nat->List Cl->Prop)(h:∀ i,i<len->∃ x,P i x):∃ S:List (List Cl),S.length=len/\∀ i,i<len->P i (gr S i):=by
 induction len with
 | zero=>exact⟨[],rfl,fun i hi=>absurd hi (yx _)⟩
 | succ n F =>
  obtain⟨S,hl,D⟩:=F (fun i hi=>h i (by omega));obtain⟨x,E⟩:=h n (by omega);refine⟨S++[x],by simp[hl],fun i hi=>?_⟩;by_cases e:i=n
  ·subst e;rw[<- hl,zot];rw[hl];exact E
  ·rw[zou (by omega)];exact D i (by omega)
theorem zwR(len:Nat)(P:Nat->Pt->Prop)(h:∀ i,i<len->∃ x,P i x):∃ S:List Pt,S.length=len/\∀ i,i<len->P i (pt S i):=by
 induction len with
 | zero=>exact⟨[],rfl,fun i hi=>absurd hi (yx _)⟩
 | succ n F =>
  obtain⟨S,hl,D⟩:=F (fun i hi=>h i (by omega));obtain⟨x,E⟩:=h n (by omega);refine⟨S++[x],by simp[hl],fun i hi=>?_⟩;by_cases e:i=n
  ·subst e;rw[<- hl,zuH];rw[hl];exact E
  ·rw[zmb (by omega)];exact D i (by omega)
theorem znr{fuel:Nat}{cs:List Value}{x:DataW H × List MemPlace}(h:DataW.trod enc Tryz.prog w base spare held fuel 119 cs=some x) :
  ∃ a c,∃ S:List (List Cl),cs=[.slice a S.length c]/\S.length<=9223372036854775807/\zzt S/\zzz w a c S:=by
 rcases Go.Deep.open_slice Tryz.underlying119 h with ⟨rfl,_⟩ |⟨a,len,cap,m,n,D,Pl,rfl,_,hl,hm,a6,_,hx⟩
 ·exact⟨none,0,[],rfl,by simp,fun i hi=>absurd hi (yx _),⟨fun _=>rfl,by simp,by omega⟩,fun i hi=>absurd hi (yx _)⟩
 ·have a8:len<=m:=by rw[a6];split <;> omega
  have O:cap<=9223372036854775807:=by unfold maxLen at hm;omega
  obtain⟨U,Z,T⟩:=a;by_cases h0:len=0
  ·subst h0;exact⟨_,cap,[],rfl,by simp,fun i hi=>absurd hi (yx _),⟨(fun e=>by cases e),by simp,O⟩,fun i hi=>absurd hi (yx _)⟩
  ·have a7:T=none:=by
    obtain⟨I,hc,ht⟩:=hx 0 (by omega);rw[ziZ] at hc;obtain⟨_,M,F⟩:=World.cells?_some hc;have h1:=F 0 (by omega);rw[List.getElem?_eq_getElem (by omega)] at h1;simpa [Addr.add] using World.cell?_spot h1
   subst a7
   obtain⟨S,E,J⟩:=zwQ len (fun i x=>(∃ ga gc,w.cell? ⟨U,Z+i,none⟩=some (.slice ga x.length gc)/\zaI w ga x)/\x.length<=9223372036854775807/\zkb x) (fun i hi=>by
    obtain⟨I,hc,ht⟩:=hx i (by omega);rw[ziZ] at hc;obtain⟨_,M,F⟩:=World.cells?_some hc
    match I,M with
    | [a0],_ =>
     obtain⟨y0,n', _,_,g0⟩:=trod_struct1 Tryz.underlying47 ht;obtain⟨ga,gc,G,e,h1,h2,h3⟩:=zhU g0;cases e;refine⟨G,⟨ga,gc,?_,h3⟩,h1,h2⟩;have h4:=F 0 (by omega);rw[add_plain,add_plain,Nat.mul_one,Nat.add_zero] at h4;exact h4)
   exact⟨some ⟨U,Z,none⟩,cap,S,by rw[E],by rw[E];omega,fun i hi=>(J i (by omega)).2,⟨(fun e=>by cases e),by rw[E];exact hl,O⟩,fun i hi=>by
    obtain⟨ga,gc,c0,a5⟩:=(J i (by omega)).1;exact⟨U,Z,ga,gc,rfl,c0,a5⟩⟩
theorem zrE{fuel b o:Nat}{E:List Value}{x:DataW H × List MemPlace}(h:DataW.trod enc Tryz.prog w base spare held fuel 121 E=some x)(hc:∀ j,j<5->w.cell? ⟨b,o+j,none⟩=E[j]?) :
  ∃ y:Pt,zzB w b o y/\y.cm.length<=9223372036854775807/\zzt y.cm:=by
 obtain⟨xs,n,_,_,hl,J,D⟩:=DataW.trod_struct Tryz.underlying121 h;rw[zhF] at hl
 match E,hl with
 | [a0,a1,a2,a3,a4],_ =>
  match xs,J with
  | [x0,x1,x2,x3,x4],_ =>
   have g0:=D 0 _ rfl;have g1:=D 1 _ rfl;have g2:=D 2 _ rfl;have g3:=D 3 _ rfl;have g4:=D 4 _ rfl;obtain⟨n0,T,_⟩:=DataW.trod_int Tryz.underlying3 g0;obtain⟨n1,U,_⟩:=DataW.trod_int Tryz.underlying3 g1;obtain⟨n2,Z,_⟩:=DataW.trod_int Tryz.underlying3 g2;obtain⟨M,O,C,e3,F,I,hI⟩:=znr g3;obtain⟨n4,e4,_⟩:=DataW.trod_bool Tryz.underlying4 g4
   cases T;cases U;cases Z;cases e3;cases e4
   exact⟨⟨n0,n1,n2,C,n4⟩,⟨hc 0 (by omega),hc 1 (by omega),hc 2 (by omega),M,O,hc 3 (by omega),hI,hc 4 (by omega)⟩,F,I⟩
theorem zoV{fuel:Nat}{cs:List Value}{x:DataW H × List MemPlace}(h:DataW.trod enc Tryz.prog w base spare held fuel 26 cs=some x) :
  ∃ a c,∃ S:List Pt,cs=[.slice a S.length c]/\S.length<=9223372036854775807/\zsm S/\SlA a S.length c/\zdH w a S:=by
 rcases Go.Deep.open_slice Tryz.underlying26 h with ⟨rfl,_⟩ |⟨a,len,cap,m,n,D,Pl,rfl,_,hl,hm,a5,_,hx⟩
 ·exact⟨none,0,[],rfl,by simp,fun i hi=>absurd hi (yx _),⟨fun _=>rfl,by simp,by omega⟩,fun i hi=>absurd hi (yx _)⟩
 ·have a7:len<=m:=by rw[a5];split <;> omega
  have J:cap<=9223372036854775807:=by unfold maxLen at hm;omega
  obtain⟨O,T,M⟩:=a;by_cases h0:len=0
  ·subst h0;exact⟨_,cap,[],rfl,by simp,fun i hi=>absurd hi (yx _),⟨(fun e=>by cases e),by simp,J⟩,fun i hi=>absurd hi (yx _)⟩
  ·have a6:M=none:=by
    obtain⟨U,hc,ht⟩:=hx 0 (by omega);rw[zhF] at hc;obtain⟨_,Z,F⟩:=World.cells?_some hc;have h1:=F 0 (by omega);rw[List.getElem?_eq_getElem (by omega)] at h1;simpa [Addr.add] using World.cell?_spot h1
   subst a6
   obtain⟨S,E,I⟩:=zwR len (fun i x=>zzB w O (T+i*5) x/\x.cm.length<=9223372036854775807/\zzt x.cm) (fun i hi=>by
    obtain⟨U,hc,ht⟩:=hx i (by omega);rw[zhF] at hc;obtain⟨_,Z,F⟩:=World.cells?_some hc;refine zrE ht (fun j hj=>?_);have h1:=F j hj
    rwa [add_plain,add_plain] at h1)
   exact⟨some ⟨O,T,none⟩,cap,S,by rw[E],by rw[E];omega,fun i hi=>(I i (by omega)).2,⟨(fun e=>by cases e),by rw[E];exact hl,J⟩,fun i hi=>⟨O,T,rfl,(I i (by omega)).1⟩⟩
end Go.Proofs.YtcbcpomacdngmaaGreat
