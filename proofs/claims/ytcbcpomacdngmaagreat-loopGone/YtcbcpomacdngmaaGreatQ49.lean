/-
  x
-/
import Derived.Test.YtcbcpomacdngmaaGreatQ48
import Derived.ProofKit
import Derived.OpenShut
import Derived.ChangeOld
import Derived.Below
import Derived.Deep.Slices
import Derived.Lib.SmallJoins
namespace Go.Proofs.YtcbcpomacdngmaaGreat
set_option maxRecDepth 100000
set_option maxHeartbeats 4000000
set_option linter.unusedVariables false
open Go.RowKit Go.ChangeShapes Go.WideShapes Go.ChangeAt
theorem zyC:(Tryz.prog.info? 30).map (fun i=>(i.zero,i.size,i.bytes))=some (some (.int .i64 0),1,8):=by kernel_rfl
theorem zwx(n:Nat)(hn:n<=1000)(w:World):(Instr.makeSlice 72 (.int .i64 (n:Int)) (.int .i64 (n:Int))).run Tryz.prog w=.ok (.slice (some ⟨w.heap.size,0,none⟩) n n) (w.alloc (.cells (madeCells #[.int .i64 0] n) 30)) :=
 run_make_row' (P:=Tryz.prog) 72 30 (.int .i64 0) 8 Tryz.underlying72 zyC rfl .i64 .i64 n (by omega) (by omega) w
def znP(X:Nat->Prop)(w:World)(W:Wl)(L:List (Int × Bool))(e:Ending)(w' : World):Prop:=∃ (B:WA) (sa:Option Addr) (sc:Nat),e=.returned (.tuple #[wlV B (zff W L),.slice sa (zjO W L).length sc,.int .i64 (zeO W L)])/\Below w.heap.size w w' /\ WlC B (zff W L)/\ziA X w' B (zff W L)/\St X (fun w=>zaj w sa (zjO W L)) w'
theorem znP.no{X:Nat->Prop}{w w' : World}{W:Wl}{L:List (Int × Bool)}{E:Int}(h:zeO W L=E)(F:E≠0)(I:Below w.heap.size w w'):znP X w W L (.returned (.tuple #[.agg #[.slice none 0 0,.slice none 0 0,.slice none 0 0,.slice none 0 0,.slice none 0 0],.slice none 0 0,.int .i64 E])) w' := by
 subst h;have e:zff W L=zlg:=ya F;have D:zjO W L=[]:=ya F;refine⟨⟨none,none,none,none,none,0,0,0,0,0⟩,none,0,?_,I,?_,?_,?_⟩
 ·rw[e,D];rfl
 ·rw[e];exact⟨zcu,zcu,zcu,zcu,zcu⟩
 ·rw[e];exact fun w' _=>zpm w' _
 ·rw[D];exact fun _ _ _ h=>absurd h (yw _)
theorem zuK:∀ (L:List (Int × Bool)) (W:Wl) (k:Nat),k<L.length->(znv W L).getD k 0=zdL ((L.take k).foldl zdC W) (pk L k).1 (pk L k).2
 | [],_,_,h=>absurd h (yw _)
 | p :: l,W,0,_=>rfl
 | p :: l,W,k+1,h=>by
  have h1:=zuK l (zdC W p) k (by simpa using h);show (znv (zdC W p) l).getD k 0=_;rw[h1];rfl
theorem zuM{W:Wl}{L:List (Int × Bool)}{k:Nat}(h:k<L.length):(L.take (k+1)).foldl zdC W=zdC ((L.take k).foldl zdC W) (pk L k):=by
 rw[List.take_succ_eq_append_getElem h,List.foldl_append];show zdC _ _=_;unfold pk;rw[zae _ _ h]
theorem zue{W:Wl}(H:zan W)(h:W.fs.length=0):W=zlg:=by
 have F:W.pt.length=0:=by
  rcases Nat.eq_zero_or_pos W.pt.length with h1|h1
  ·exact h1
  ·have D:=H.pt.ok 0 h1;unfold zdv at D;rw[yb (.inl (fun E=>by have:=E.1;have:=E.2;rw[h] at this;omega))] at D;omega
 obtain⟨fs,rs,ps,qs,pt⟩:=W;have h1:=H.lr;have D:=H.lp;have E:=H.lq;dsimp only at h h1 D E F;rw[h] at h1 D E;obtain rfl:=List.eq_nil_of_length_eq_zero h;obtain rfl:=List.eq_nil_of_length_eq_zero h1;obtain rfl:=List.eq_nil_of_length_eq_zero D;obtain rfl:=List.eq_nil_of_length_eq_zero E;obtain rfl:=List.eq_nil_of_length_eq_zero F;rfl
structure RI (V2:World) (d8 sb N:Nat) (Wk:Wl) (S:List Int) (k:Nat) (A:WA) (wr:World):Prop where
 bel:Below V2.heap.size V2 wr
 box:wr.heap[d8]?=some (.cells #[.slice A.a0 Wk.fs.length A.c0,.slice A.a1 Wk.rs.length A.c1,.slice A.a2 Wk.ps.length A.c2,.slice A.a3 Wk.qs.length A.c3,.slice A.a4 Wk.pt.length A.c4] 28 (0,0))
 wl:ziA (fun b=>b<V2.heap.size\/b=d8\/b=sb) wr A Wk
 wc:WlC A Wk
 row:wr.rowIs sb 30 N (fun j=>if j<k then .int .i64 (S.getD j 0) else .int .i64 0)
theorem RI.lt{D:World}{E F N:Nat}{I:Wl}{S:List Int}{k:Nat}{A:WA}{wr:World}(h:RI D E F N I S k A wr):∀ b,(b<D.heap.size\/b=E\/b=F)->b<wr.heap.size:=fun b J=>by
 rcases J with h1|h1|h1
 ·exact yx h1 h.bel.size
 ·rw[h1];exact zaw h.box
 ·rw[h1];exact h.row.lt
theorem RI.next{D:World}{F O N:Nat}{Wk I:Wl}{S:List Int}{k:Nat}{A B:WA}{wr J M:World}(h:RI D F O N Wk S k A wr)(h8:D.heap.size<=F)(hs:D.heap.size<=O)(Z:F≠O)(T:Below wr.heap.size wr J)(b0:ziA (fun b=>b<D.heap.size\/b=F\/b=O) J B I)(a9:WlC B I)(U:M.heap[F]?=some (.cells #[.slice B.a0 I.fs.length B.c0,.slice B.a1 I.rs.length B.c1,.slice B.a2 I.ps.length B.c2,.slice B.a3 I.qs.length B.c3,.slice B.a4 I.pt.length B.c4] 28 (0,0)))(ho:zaq (fun b=>b=F) J M)(a6:M.os=J.os)(a8:M.tape=J.tape)(a7:M.output=J.output)(E:Int)(hE:S.getD k 0=E) :
  RI D F O N I S (k+1) B (M.setCell ⟨O,k,none⟩ (.int .i64 E)):=by
 have b1:Below D.heap.size D J:=h.bel.trans (T.mono h.bel.size);have b2:Below D.heap.size D M:=b1.trans ⟨a6,a8,a7,ho.size,fun b a5=>ho.block b (yx a5 b1.size) (by show ¬ b=F;omega)⟩;have o1:zaq (fun b=>b<D.heap.size\/b=F\/b=O) J M:=ho.mono (fun b T=>.inr (.inl T));refine⟨b2.setCell hs _,(ys _ _ _ _ Z).trans U,(b0.off o1).off (zaq.set _ _ (.inr (.inr rfl))),a9,?_⟩;have r1:=(h.row.of_block (T.block _ h.row.lt)).of_block (ho.block _ (yx h.row.lt T.size) (Ne.symm Z));refine yD (r1.set k (.int .i64 E)) (fun j _=>?_);by_cases e:j=k
 ·rw[yb e,yb (by omega),e,hE]
 ·rw[ya e];by_cases e2:j<k
  ·rw[yb e2,yb (by omega)]
  ·rw[ya e2,ya (by omega)]
theorem RI.done{X:Nat->Prop}{w I wr:World}{d8 M N E:Nat}{W D:Wl}{L:List (Int × Bool)}{A:WA}(h:RI I d8 M N D (znv W L) N A wr)(hX:∀ b,X b->b<w.heap.size)(F:Below w.heap.size w I)(hs:I.heap.size<=M)(J:w.heap.size<=E)(U:E<I.heap.size)(hN:L.length=N)(Z:zeO W L=0)(hW:L.foldl zdC W=D){V' : World}{u0 u1 u2 u3 u4:Value}
  (hV:V' =((((wr.setCell ⟨E,0,none⟩ u0).setCell ⟨E,1,none⟩ u1).setCell ⟨E,2,none⟩ u2).setCell ⟨E,3,none⟩ u3).setCell ⟨E,4,none⟩ u4) :
  znP X w W L (.returned (.tuple #[.agg #[.slice A.a0 D.fs.length A.c0,.slice A.a1 D.rs.length A.c1,.slice A.a2 D.ps.length A.c2,.slice A.a3 D.qs.length A.c3,.slice A.a4 D.pt.length A.c4],.slice (some ⟨M,0,none⟩) N N,.int .i64 0])) V' := by
 subst hV;have O:zff W L=D:=(yb Z).trans hW;have e2:zjO W L=znv W L:=yb Z;have T:(znv W L).length=N:=by rw[ziT,hN]
 have b8:Below w.heap.size w wr:=F.trans (h.bel.mono F.size);have o5:=znx U wr u0 u1 u2 u3 u4;refine⟨A,some ⟨M,0,none⟩,N,?_,((((b8.setCell J _).setCell J _).setCell J _).setCell J _).setCell J _,by rw[O];exact h.wc,?_,?_⟩
 ·rw[O,e2,Z,T]
 ·rw[O];exact((h.wl.less (fun b F=>.inl F)).off o5).less (fun b hx=>yx (hX b hx) F.size)
 ·rw[e2];intro a5 ho;have r1:=(h.row.of_block (o5.block _ h.row.lt (by show ¬ M<I.heap.size;omega))).of_block (ho.block _ (yx h.row.lt o5.size) (fun hx=>by have:=hX _ hx;have:=F.size;omega));refine zfR (t:=30) (yD (by rw[T];exact r1) (fun j hj=>?_));rw[T] at hj;rw[yb hj]
theorem zwR(X:Nat->Prop)(A:WA)(W:Wl)(la:Option Addr)(lc:Nat)(L:List (Int × Bool))(w:World)(hX:∀ b,X b->b<w.heap.size)(hB:zsc W)(hC:WlC A W)(hW:ziA X w A W)(hL:L.length<=9223372036854775807)(j0:SlA la L.length lc)(hP:zdG w la L):Calls Tryz.prog 20 #[wlV A W,.slice la L.length lc] w (znP X w W L):=by
 obtain⟨a0,a1,a2,a3,a4,c0,c1,c2,c3,c4⟩:=A;have e8:Hid (zic w ⟨a0,a1,a2,a3,a4,c0,c1,c2,c3,c4⟩ W):=hW.at;have D0:Hid (∀ V,Below w.heap.size w V->Calls _ _ _ _ _):=fun V hV=>zia ⟨a0,a1,a2,a3,a4,c0,c1,c2,c3,c4⟩ W V hB hC (e8.out.below hV);have D2:Hid (zan W->∀ V,Below w.heap.size w V->Calls _ _ _ _ _):=fun H V hV=>zgS ⟨a0,a1,a2,a3,a4,c0,c1,c2,c3,c4⟩ W V H (e8.out.below hV);have h8:Hid _:=hX;have HP:Hid (zdG w la L):=hP;clear hX hW hB hC hP j0;dsimp only[wlV] at D0 D2 |-;obtain⟨E0,a5⟩:∃ E,zbp W=E:=⟨_,rfl⟩;have c6:Hid (zbp W=E0):=a5;rw[a5] at D0;clear a5;obtain⟨N,hN⟩:∃ N,L.length=N:=⟨_,rfl⟩;have HN:Hid (L.length=N):=hN;rw[hN] at hL |-;have i9:=hN;clear hN;obtain⟨M,b2⟩:∃ n,W.fs.length=n:=⟨_,rfl⟩;obtain⟨n1,c9⟩:∃ n,W.rs.length=n:=⟨_,rfl⟩;obtain⟨n2,d4⟩:∃ n,W.ps.length=n:=⟨_,rfl⟩;obtain⟨n3,d5⟩:∃ n,W.qs.length=n:=⟨_,rfl⟩;obtain⟨n4,e0⟩:∃ n,W.pt.length=n:=⟨_,rfl⟩;have d6:Hid (W.fs.length=M):=b2;have g8:Hid (W.rs.length=n1):=c9;have g9:Hid (W.ps.length=n2):=d4;have h6:Hid (W.qs.length=n3):=d5;have h7:Hid (W.pt.length=n4):=e0;have c7:Hid (zan W->M=n1/\M=n2/\M=n3):=fun H=>⟨by rw[<- c9,H.lr,b2],by rw[<- d4,H.lp,b2],by rw[<- d5,H.lq,b2]⟩;rw[b2,c9,d4,d5,e0] at D0 D2 |-;clear b2 c9 d4 d5 e0 i9
 go_enter Tryz.func20,Tryz.ntmps20
 go_wp2_with J
 obtain⟨V1,b3⟩:∃ V1,(w.alloc (.cells #[.slice a0 M c0,.slice a1 n1 c1,.slice a2 n2 c2,.slice a3 n3 c3,.slice a4 n4 c4] 28)).alloc (.cells #[.slice none 0 0,.slice none 0 0,.slice none 0 0,.slice none 0 0,.slice none 0 0] 28)=V1:=⟨_,rfl⟩;have BV:Hid (Below w.heap.size w V1):=by rw[<- b3];exact zam _ _ _
 have X1:Hid (V1.heap[w.heap.size]?=some (.cells #[.slice a0 M c0,.slice a1 n1 c1,.slice a2 n2 c2,.slice a3 n3 c3,.slice a4 n4 c4] 28 (0,0))):=by
  rw[<- b3];exact zaD (heap_alloc_new w _) (zaa _ _)
 have X3:Hid (V1.heap[w.heap.size+1]?=some (.cells #[.slice none 0 0,.slice none 0 0,.slice none 0 0,.slice none 0 0,.slice none 0 0] 28 (0,0))):=by
  rw[<- b3];have h:=heap_alloc_new (w.alloc (.cells #[.slice a0 M c0,.slice a1 n1 c1,.slice a2 n2 c2,.slice a3 n3 c3,.slice a4 n4 c4] 28)) (.cells #[.slice none 0 0,.slice none 0 0,.slice none 0 0,.slice none 0 0,.slice none 0 0] 28);rw[yr] at h;exact h
 rw[b3];clear b3;refine ye (D0.out V1 BV.out) ?_;rintro e U ⟨rfl,hb⟩;have B2:Hid (Below V1.heap.size V1 U):=hb;have a9:Hid (Below w.heap.size w U):=BV.out.trans (hb.mono BV.out.size);clear hb D0;have Y1:Hid _:=zaD X1.out B2.out;have Y3:Hid _:=zaD X3.out B2.out;clear X1 X3;obtain⟨q0,q1,q2,q3,q4,qf,ql⟩:=zak Y1.out;obtain⟨z0,z1,z2,z3,z4,zf,zl⟩:=zak Y3.out;by_cases a5:E0=0
 ·subst a5;have HR:Hid (zan W):=zck.1 c6.out;by_cases j3:N<=120
  ·have e4:¬ ((120:Int)<(N:Int)):=by omega
   have RE:Hid (zeO W L=0):=by show _=_;unfold zeO;rw[yb c6.out,ya (by rw[HN.out];omega)]
   obtain⟨e1,e2,e3⟩:=c7.out HR.out;subst e1;subst e2;subst e3;have D3:Hid _:=D2.out HR.out U a9.out;clear c7 D2
   go_wp2_with J
   refine ye D3.out ?_;rintro e V3 ⟨s,rfl,d7,_,g6,g5⟩;have e6:Hid _:=g5;have e7:Hid _:=g6;have B3:Hid (Below U.heap.size U V3):=d7;have s3:=d7.size;clear g5 g6 d7 D3 q0 q1 q2 q3 q4 qf ql z0 z1 z2 z3 z4 zf zl;dsimp only[wlV,SD.wa];have j1:=zwx N (by omega)
   go_wp2_with J
   obtain⟨D,hd⟩:∃ d,V3.heap.size=d:=⟨_,rfl⟩;obtain⟨V4,b0⟩:∃ V4,V3.alloc (.cells #[.slice s.a0 M s.c0,.slice (some ⟨s.g1,0,none⟩) M M,.slice (some ⟨s.g2,0,none⟩) M M,.slice (some ⟨s.g3,0,none⟩) M M,.slice s.a4 n4 s.c4] 28)=V4:=⟨_,rfl⟩;have j2:V4.heap.size=D+1:=by rw[<- b0,<- hd];simp
   have X4:Hid (V4.heap[D]?=some (.cells #[.slice s.a0 M s.c0,.slice (some ⟨s.g1,0,none⟩) M M,.slice (some ⟨s.g2,0,none⟩) M M,.slice (some ⟨s.g3,0,none⟩) M M,.slice s.a4 n4 s.c4] 28 (0,0))):=by rw[<- b0,<- hd];exact heap_alloc_new _ _
   have B4:Hid (Below U.heap.size U V4):=by rw[<- b0];exact B3.out.trans ((zaa _ _).mono B3.out.size)
   have W4:Hid (ziA (fun b=>b<U.heap.size\/b=D) V4 (s.wa M) W):=by
    by_cases h0:W.fs.length=0
    ·intro V' _;rw[zue HR.out h0];exact zpm V' _
    ·have h:=(e6.out 0 (by have:=d6.out;omega)).wlX;rw[d6.out,b0,hd] at h;exact h
   have g0:U.heap.size<=D:=by omega
   clear e6;obtain⟨V5,c8⟩:∃ V5,V4.alloc (.cells (madeCells #[.int .i64 0] N) 30)=V5:=⟨_,rfl⟩
   have R0:Hid (RI U D (D+1) N W (znv W L) 0 (s.wa M) V5):=by
    have b5:=zaa V4 (.cells (madeCells #[.int .i64 0] N) 30);rw[c8] at b5;refine⟨B4.out.trans (b5.mono B4.out.size),?_,?_,e7.out,?_⟩
    ·dsimp only[SD.wa];rw[d6.out,g8.out,g9.out,h6.out,h7.out];exact zaD X4.out b5
    ·exact W4.out.grow (zaq.of_below b5) (fun b hb hy=>by rcases hy with h|h|h;exact .inl h;exact .inr h;omega)
    ·rw[<- c8,<- j2];have h:=World.rowIs_alloc V4 (madeCells #[.int .i64 0] N) 30 (fun j=>(madeCells #[.int .i64 0] N)[j]!) (fun j hj=>by simp[hj]);rw[size_madeCells] at h;refine yD h (fun j hj=>?_);rw[ya (yw _)];have e2:(madeCells #[Value.int .i64 0] N)[j]! =(#[Value.int .i64 0]:Array Value)[j % 1]!:=by simp[madeCells,hj]
     rw[e2,Nat.mod_one];rfl
   rw[b0,c8,hd];clear b0 c8 hd j1;clear W4 X4 e7 B4
   go_loopg [30] N (fun g s30 wr=>∃ (k:Nat) (A:WA),k<=N/\N-k<=g/\s30=.int .i64 k/\Hid (RI U D (D+1) N ((L.take k).foldl zdC W) (znv W L) k A wr))
   case atStart=>exact⟨0,_,by omega,by omega,rfl,R0.out⟩
   case round =>
    obtain⟨k,A,hk,hg,rfl,F⟩:=hrel;clear R0;by_cases g4:k<N
    ·have j4:(k:Int)<(N:Int):=by omega
     have d9:k<L.length:=by rw[HN.out];exact g4
     obtain⟨lb,lo,i0,x0,x1⟩:=HP.out k d9;subst i0;have e5:Hid (Below w.heap.size w wr):=a9.out.trans (F.out.bel.mono a9.out.size);replace x0:=zab x0 e5.out;replace x1:=zab x1 e5.out;have k0:lb<wr.heap.size:=yd _ _ x0;have SE:Hid _:=zuK L W k d9;have NX:Hid _:=zuM (W:=W) d9;have RR:Hid _:=(zfX (L.take k) HR.out).1;obtain⟨a6,b7⟩:∃ p,(pk L k).1=p:=⟨_,rfl⟩;obtain⟨a7,b8⟩:∃ p,(pk L k).2=p:=⟨_,rfl⟩;have h9:Hid (pk L k=(a6,a7)):=by rw[<- b7,<- b8];rfl
     rw[b7] at x0 SE;rw[b8] at x1 SE;rw[h9.out] at NX;obtain⟨I,b4⟩:∃ I,(L.take k).foldl zdC W=I:=⟨_,rfl⟩;rw[b4] at F SE NX RR;clear b4 b7 b8;have Z:Hid (zdC I (a6,a7)=if zdL I a6 a7=0 then zfd I a6 a7 else I):=rfl;have DS:Hid (∀ (Y:Nat->Prop) V,(∀ b,Y b->b<V.heap.size)->ziA Y V A I->Calls _ _ _ _ _):=fun Y V hY hV=>zxc Y A I a6 a7 V hY (zfW RR.out) F.out.wc hV;obtain⟨q0,q1,q2,q3,q4,qf,ql⟩:=zak F.out.box;obtain⟨O,e9⟩:∃ O,zfd I a6 a7=O:=⟨_,rfl⟩;unfold znT at DS;dsimp only[wlV] at DS;rw[e9] at Z DS;clear e9;obtain⟨E,hE⟩:∃ E,zdL I a6 a7=E:=⟨_,rfl⟩;rw[hE] at Z DS SE;clear hE
     skip
     have n8:¬ wr.heap.size=D:=by omega
     have k2:¬ D=wr.heap.size:=by omega
     have k4:¬ lb=wr.heap.size:=by omega
     have j7:¬ wr.heap.size=lb:=by omega
     go_upto_region 11 with J
     go_cut [11,12,30] from 30 to 49 (fun s11 s12 s30 wx=>∃ (b:Nat) (B:WA),s11=.pointer (some ⟨b,0,none⟩)/\s12=.int .i64 E/\s30=.int .i64 (k:Int)/\Hid (Below wr.heap.size wr wx)/\Hid (wx.heap[b]?=some (.cells #[.slice B.a0 O.fs.length B.c0,.slice B.a1 O.rs.length B.c1,.slice B.a2 O.ps.length B.c2,.slice B.a3 O.qs.length B.c3,.slice B.a4 O.pt.length B.c4] 28 (0,0)))/\wr.heap.size<=b/\Hid (WlC B O)/\Hid (ziA (fun b=>b<U.heap.size\/b=D\/b=D+1) wx B O))
     case first =>
      go_region_held3 (fun a8=>a8.cell? ⟨D,0,none⟩=some (.slice A.a0 I.fs.length A.c0)/\a8.cell? ⟨D,1,none⟩=some (.slice A.a1 I.rs.length A.c1)/\a8.cell? ⟨D,2,none⟩=some (.slice A.a2 I.ps.length A.c2)/\a8.cell? ⟨D,3,none⟩=some (.slice A.a3 I.qs.length A.c3)/\a8.cell? ⟨D,4,none⟩=some (.slice A.a4 I.pt.length A.c4)/\a8.cell? ⟨lb,lo+k*2,none⟩=some (.int .i64 a6)/\a8.cell? ⟨lb,lo+k*2+1,none⟩=some (.bool a7)) (go_keep) (first|(go_at_call 13;refine ye (DS.out (fun b=>b<U.heap.size\/b=D\/b=D+1) wr.drew F.out.lt (F.out.wl.off (zaq.of_below (yk _ _).drew))) ?_;rintro e w5 ⟨B,rfl,b1,b6,b9⟩;have T:Hid (Below wr.heap.size wr w5):=(yk _ _).drew.trans b1;have C5:Hid _:=b6;have W5:Hid (ziA (fun b=>b<U.heap.size\/b=D\/b=D+1) w5 B O):=b9;have i1:=zab q0 T.out;have i2:=zab q1 T.out;have i3:=zab q2 T.out;have i4:=zab q3 T.out;have i5:=zab q4 T.out;have i6:=zab x0 T.out;have i7:=zab x1 T.out;clear b1 b6 b9)|(go_at_call 13;refine ye (DS.out (fun b=>(b<U.heap.size\/b=D\/b=D+1)\/b=wr.heap.size) (wr.alloc (.cells #[.slice none 0 0,.slice none 0 0,.slice none 0 0,.slice none 0 0,.slice none 0 0] 28)).drew (fun b hb=>by rcases hb with h|h;have:=F.out.lt b h;simp;omega;simp;omega) (F.out.wl.grow (zaq.of_below (zaa wr _).drew) (fun b hb hy=>by rcases hy with h|h;exact h;omega))) ?_;rintro e w5 ⟨B,rfl,b1,b6,b9⟩;have T:Hid (Below wr.heap.size wr w5):=(zaa wr _).drew.trans (b1.mono (by simp));have C5:Hid _:=b6;have W5:Hid (ziA (fun b=>(b<U.heap.size\/b=D\/b=D+1)\/b=wr.heap.size) w5 B O):=b9;have i1:=zab q0 T.out;have i2:=zab q1 T.out;have i3:=zab q2 T.out;have i4:=zab q3 T.out;have i5:=zab q4 T.out;have i6:=zab x0 T.out;have i7:=zab x1 T.out;have X5:Hid (w5.heap[wr.heap.size]?=some (.cells #[.slice none 0 0,.slice none 0 0,.slice none 0 0,.slice none 0 0,.slice none 0 0] 28 (0,0))):=zaD (W:=(wr.alloc (.cells #[.slice none 0 0,.slice none 0 0,.slice none 0 0,.slice none 0 0,.slice none 0 0] 28)).drew) (heap_alloc_new wr _) b1;obtain⟨y0,y1,y2,y3,y4,yf,yl⟩:=zak X5.out;clear b1 b6 b9))
      ·go_wp2_with J
       go_meet
       case rel=>exact⟨_,B,rfl,rfl,rfl,T.out.trans ((zaa _ _).mono T.out.size),heap_alloc_new _ _,T.out.size,C5.out,W5.out.off (zaq.of_below (zaa _ _))⟩
      ·go_wp2_with J
       go_meet
       case rel=>exact⟨_,B,rfl,rfl,rfl,((((T.out.setCell (yj _) _).setCell (yj _) _).setCell (yj _) _).setCell (yj _) _).setCell (yj _) _,zls X5.out,yj _,C5.out,(W5.out.off ((zmg _ _ _ _ _ _).mono (fun b hb=>.inr hb))).less (fun b hb=>.inl hb)⟩
     case rest =>
      obtain⟨b,B,rfl,rfl,rfl,HB,HX,j9,HC,HW⟩:=hcut;clear q0 q1 q2 q3 q4 qf DS x0 x1;have R1:Hid (∀ wy,wy.heap[D]?=some (.cells #[.slice B.a0 O.fs.length B.c0,.slice B.a1 O.rs.length B.c1,.slice B.a2 O.ps.length B.c2,.slice B.a3 O.qs.length B.c3,.slice B.a4 O.pt.length B.c4] 28 (0,0))->zaq (fun b=>b=D) wc wy->wy.os=wc.os->wy.tape=wc.tape->wy.output=wc.output->E=0->RI U D (D+1) N O (znv W L) (k+1) B (wy.setCell ⟨D+1,k,none⟩ (.int .i64 E))):=fun wy h1 h2 h3 h4 h5 _=>F.out.next g0 (by omega) (by omega) HB.out HW.out HC.out h1 h2 h3 h4 h5 E SE.out;have R2:Hid (RI U D (D+1) N I (znv W L) (k+1) A (wc.setCell ⟨D+1,k,none⟩ (.int .i64 E))):=F.out.next g0 (by omega) (by omega) HB.out (F.out.wl.off (zaq.of_below HB.out)) F.out.wc (zaD F.out.box HB.out) (zaq.refl _ _) rfl rfl rfl E SE.out;have RF:Hid _:=(F.out.row.of_block (HB.out.block _ F.out.row.lt)).frozen k;have RC:Hid (∃ v,wc.cell? ⟨D+1,k,none⟩=some v):=⟨_,(F.out.row.of_block (HB.out.block _ F.out.row.lt)).cell g4⟩;have Q8:Hid _:=zaD F.out.box HB.out;obtain⟨cv,rc⟩:=RC.out;have rf:=RF.out;clear F HW HC RC RF;obtain⟨p0,p1,p2,p3,p4,pf,pl⟩:=zak HX.out;obtain⟨q0,q1,q2,q3,q4,qf,k6⟩:=zak Q8.out;have k3:¬ b=D:=by omega
      have j6:¬ D=b:=by omega
      have k5:¬ D+1=D:=by omega
      have j8:¬ D=D+1:=by omega
      by_cases hE:E=0
      ·subst hE;rw[yb rfl] at Z;rw[Z.out] at NX;have FB:Hid _:=R1.out _ (zls (u0:=.slice B.a0 O.fs.length B.c0) (u1:=.slice B.a1 O.rs.length B.c1) (u2:=.slice B.a2 O.ps.length B.c2) (u3:=.slice B.a3 O.qs.length B.c3) (u4:=.slice B.a4 O.pt.length B.c4) Q8.out) (zmg _ _ _ _ _ _) rfl rfl rfl rfl;clear R1 R2 Z
       skip
       go_wp2_with J
       go_roundg (N-(k+1))
       case measure=>omega
       case rel=>exact⟨k+1,B,by omega,by omega,by go_num,(by rw[NX.out];exact FB.out)⟩
      ·have hz:(E == 0)=false:=by simp[hE]
       rw[ya hE] at Z;rw[Z.out] at NX;have FB:Hid _:=R2.out;clear R1 R2 Z
       go_wp2_with J
       go_roundg (N-(k+1))
       case measure=>omega
       case rel=>exact⟨k+1,A,by omega,by omega,by go_num,(by rw[NX.out];exact FB.out)⟩
    ·have:k=N:=by omega
     subst this;have hz:¬ ((k:Int)<(k:Int)):=by omega
     have EW:Hid (L.foldl zdC W=(L.take k).foldl zdC W):=by show _=_;rw[<- HN.out,List.take_length]
     have Z8:Hid (wr.heap[w.heap.size+1]?=some (.cells #[.slice none 0 0,.slice none 0 0,.slice none 0 0,.slice none 0 0,.slice none 0 0] 28 (0,0))):=(F.out.bel.block _ (zaw Y3.out)).trans Y3.out;obtain⟨z0,z1,z2,z3,z4,zf,zl⟩:=zak Z8.out;obtain⟨q0,q1,q2,q3,q4,qf,ql⟩:=zak F.out.box;have i8:w.heap.size+1<U.heap.size:=zaw Y3.out;have k1:¬ D=w.heap.size+1:=by omega
     have j5:¬ w.heap.size+1=D:=by omega
     obtain⟨I,b4⟩:∃ I,(L.take k).foldl zdC W=I:=⟨_,rfl⟩;rw[b4] at F EW q0 q1 q2 q3 q4;clear b4;have g7:Hid (∀ u0 u1 u2 u3 u4 V', _->znP X w W L _ V'):=fun u0 u1 u2 u3 u4 V' h=>F.out.done (u0:=u0) (u1:=u1) (u2:=u2) (u3:=u3) (u4:=u4) h8.out a9.out (by omega) (by omega:w.heap.size<=w.heap.size+1) i8 HN.out RE.out EW.out h;clear F EW
     skip
     go_wp2
     exact yv (v:=.tuple #[.agg #[.slice A.a0 I.fs.length A.c0,.slice A.a1 I.rs.length A.c1,.slice A.a2 I.ps.length A.c2,.slice A.a3 I.qs.length A.c3,.slice A.a4 I.pt.length A.c4],.slice (some ⟨D+1,0,none⟩) k k,.int .i64 0]) (by simp[results,Tryz.results20,go_sem,z0,z1,z2,z3,z4]) rfl (g7.out _ _ _ _ _ _ rfl)
  ·have e4:(120:Int)<(N:Int):=by omega
   have RE:Hid (zeO W L=1):=by show _=_;unfold zeO;rw[yb c6.out,yb (by rw[HN.out];omega)]
   clear D2 c7
   go_wp2
   exact yv (v:=.tuple #[.agg #[.slice none 0 0,.slice none 0 0,.slice none 0 0,.slice none 0 0,.slice none 0 0],.slice none 0 0,.int .i64 1]) (by simp[results,Tryz.results20,go_sem,z0,z1,z2,z3,z4]) rfl (znP.no RE.out (by decide) (((((a9.out.setCell (by show w.heap.size<=w.heap.size+1;omega) _).setCell (by show w.heap.size<=w.heap.size+1;omega) _).setCell (by show w.heap.size<=w.heap.size+1;omega) _).setCell (by show w.heap.size<=w.heap.size+1;omega) _).setCell (by show w.heap.size<=w.heap.size+1;omega) _))
 ·have hz:(E0 == 0)=false:=by simp[a5]
  have RE:Hid (zeO W L=E0):=by show _=_;unfold zeO;rw[c6.out,ya a5]
  clear D2 c7
  go_wp2
  exact yv (v:=.tuple #[.agg #[.slice none 0 0,.slice none 0 0,.slice none 0 0,.slice none 0 0,.slice none 0 0],.slice none 0 0,.int .i64 E0]) (by simp[results,Tryz.results20,go_sem,z0,z1,z2,z3,z4]) rfl (znP.no RE.out a5 (((((a9.out.setCell (by show w.heap.size<=w.heap.size+1;omega) _).setCell (by show w.heap.size<=w.heap.size+1;omega) _).setCell (by show w.heap.size<=w.heap.size+1;omega) _).setCell (by show w.heap.size<=w.heap.size+1;omega) _).setCell (by show w.heap.size<=w.heap.size+1;omega) _))
theorem zwQ:zhw:=fun X A W O T L w M D E J F hl I=>zwR X A W O T L w M D E J F hl I
theorem zrK:zxo:=fun A B R Q w E h1 D=>zrL A B R Q w E h1 D
variable {H:Type} {enc:TypeId × Value->H} {w:World} {base:Nat} {spare:Nat->Bool} {held:Bool}
theorem zsE:Tryz.prog.cellsOf 3=1:=by kernel_rfl
theorem zhA:Tryz.prog.cellsOf 55=2:=by kernel_rfl
theorem zjb:Tryz.prog.cellsOf 47=1:=by kernel_rfl
theorem zkW{F:Nat}{J:List Value}{x:DataW H × List MemPlace}(h:DataW.trod enc Tryz.prog w base spare held F 48 J=some x) :
  ∃ ka kc,∃ ks:List Int,J=[.slice ka ks.length kc]/\ks.length<=kc/\kc<=9223372036854775807/\zaj w ka ks:=by
 rcases open_ints Tryz.underlying48 Tryz.underlying3 zsE h with ⟨rfl,_⟩ |⟨a,len,cap,I,rfl,_,hl,O,T,_,D,_⟩
 ·exact⟨none,0,[],rfl,by simp,by omega,fun i hi=>absurd hi (yw _)⟩
 ·have M:len<=I.length:=by rw[T];split <;> omega
  have E:(I.take len).length=len:=by rw[List.length_take];omega
  refine⟨some a,cap,I.take len,by rw[E],by rw[E];exact hl,by unfold maxLen at O;omega,fun i hi=>?_⟩;rw[E] at hi;obtain⟨b,off,rfl,hc⟩:=ints_at D (by omega);refine⟨b,off,rfl,?_⟩;rw[hc i (by omega),zae I 0 (by omega),zae (I.take len) 0 (by omega),List.getElem_take]
theorem zuk{D b o:Nat}{E:List Value}{x:DataW H × List MemPlace}(h:DataW.trod enc Tryz.prog w base spare held D 55 E=some x)(hc:∀ j,j<2->w.cell? ⟨b,o+j,none⟩=E[j]?) :
  ∃ y:Cl,zzf w b o y/\y.ks.length<=9223372036854775807:=by
 obtain⟨xs,n,_,_,hl,F,I⟩:=DataW.trod_struct Tryz.underlying55 h;rw[zhA] at hl
 match E,hl with
 | [a0,a1],_ =>
  match xs,F with
  | [x0,x1],_ =>
   have O:=I 0 _ rfl;have g1:=I 1 _ rfl;obtain⟨n1,J,_⟩:=DataW.trod_int Tryz.underlying3 O;obtain⟨ka,kc,ks,M,U,Z,T⟩:=zkW g1
   cases J;cases M
   exact⟨⟨n1,ks⟩,⟨hc 0 (by omega),ka,kc,hc 1 (by omega),T⟩,by show ks.length<=_;omega⟩
theorem zws(len:Nat)(P:Nat->Cl->Prop)(h:∀ i,i<len->∃ x,P i x):∃ S:List Cl,S.length=len/\∀ i,i<len->P i (cl S i):=by
 induction len with
 | zero=>exact⟨[],rfl,fun i hi=>absurd hi (yw _)⟩
 | succ n I =>
  obtain⟨S,hl,E⟩:=I (fun i hi=>h i (by omega));obtain⟨x,F⟩:=h n (by omega);refine⟨S++[x],by simp[hl],fun i hi=>?_⟩;by_cases e:i=n
  ·subst e;rw[zcq (by simp[hl])];simpa [hl] using F
  ·have D:i<S.length:=by omega
   have:=E i (by omega);rw[zcq D] at this;rw[zcq (by simp;omega),List.getElem_append_left D];exact this
theorem zhP{F:Nat}{cs:List Value}{x:DataW H × List MemPlace}(h:DataW.trod enc Tryz.prog w base spare held F 45 cs=some x) :
  ∃ a c,∃ S:List Cl,cs=[.slice a S.length c]/\S.length<=9223372036854775807/\zkz S/\zaG w a S:=by
 rcases Go.Deep.open_slice Tryz.underlying45 h with ⟨rfl,_⟩ |⟨a,len,cap,m,n,D,Pl,rfl,_,hl,hm,a5,_,hx⟩
 ·exact⟨none,0,[],rfl,by simp,fun i hi=>absurd hi (yw _),fun i hi=>absurd hi (yw _)⟩
 ·have a7:len<=m:=by rw[a5];split <;> omega
  obtain⟨O,T,M⟩:=a;by_cases h0:len=0
  ·subst h0;exact⟨_,cap,[],rfl,by simp,fun i hi=>absurd hi (yw _),fun i hi=>absurd hi (yw _)⟩
  ·have a6:M=none:=by
    obtain⟨U,hc,ht⟩:=hx 0 (by omega);rw[zhA] at hc;obtain⟨_,Z,E⟩:=World.cells?_some hc;have h1:=E 0 (by omega);rw[List.getElem?_eq_getElem (by omega)] at h1;simpa [Addr.add] using World.cell?_spot h1
   subst a6
   obtain⟨S,I,J⟩:=zws len (fun i x=>zzf w O (T+i*2) x/\x.ks.length<=9223372036854775807) (fun i hi=>by
    obtain⟨U,hc,ht⟩:=hx i (by omega);rw[zhA] at hc;obtain⟨_,Z,E⟩:=World.cells?_some hc;refine zuk ht (fun j hj=>?_);have h1:=E j hj
    rwa [add_plain,add_plain] at h1)
   exact⟨some ⟨O,T,none⟩,cap,S,by rw[I],by rw[I];unfold maxLen at hm;omega,fun i hi=>(J i (by omega)).2,fun i hi=>⟨O,T,rfl,(J i (by omega)).1⟩⟩
variable {H:Type} {enc:TypeId × Value->H} {w:World} {base:Nat} {spare:Nat->Bool} {held:Bool}
theorem zhB:Tryz.prog.cellsOf 121=5:=by kernel_rfl
theorem zwu(len:Nat)(P:Nat->List Cl->Prop)(h:∀ i,i<len->∃ x,P i x):∃ S:List (List Cl),S.length=len/\∀ i,i<len->P i (gr S i):=by
 induction len with
 | zero=>exact⟨[],rfl,fun i hi=>absurd hi (yw _)⟩
 | succ n F =>
  obtain⟨S,hl,D⟩:=F (fun i hi=>h i (by omega));obtain⟨x,E⟩:=h n (by omega);refine⟨S++[x],by simp[hl],fun i hi=>?_⟩;by_cases e:i=n
  ·subst e;rw[<- hl,zor];rw[hl];exact E
  ·rw[zos (by omega)];exact D i (by omega)
theorem zwv(len:Nat)(P:Nat->Pt->Prop)(h:∀ i,i<len->∃ x,P i x):∃ S:List Pt,S.length=len/\∀ i,i<len->P i (pt S i):=by
 induction len with
 | zero=>exact⟨[],rfl,fun i hi=>absurd hi (yw _)⟩
 | succ n F =>
  obtain⟨S,hl,D⟩:=F (fun i hi=>h i (by omega));obtain⟨x,E⟩:=h n (by omega);refine⟨S++[x],by simp[hl],fun i hi=>?_⟩;by_cases e:i=n
  ·subst e;rw[<- hl,zuv];rw[hl];exact E
  ·rw[zlZ (by omega)];exact D i (by omega)
theorem zno{J:Nat}{cs:List Value}{x:DataW H × List MemPlace}(h:DataW.trod enc Tryz.prog w base spare held J 119 cs=some x) :
  ∃ a c,∃ S:List (List Cl),cs=[.slice a S.length c]/\S.length<=9223372036854775807/\zze S/\zzj w a c S:=by
 rcases Go.Deep.open_slice Tryz.underlying119 h with ⟨rfl,_⟩ |⟨a,len,cap,m,n,D,Pl,rfl,_,hl,hm,a6,_,hx⟩
 ·exact⟨none,0,[],rfl,by simp,fun i hi=>absurd hi (yw _),⟨fun _=>rfl,by simp,by omega⟩,fun i hi=>absurd hi (yw _)⟩
 ·have a8:len<=m:=by rw[a6];split <;> omega
  have T:cap<=9223372036854775807:=by unfold maxLen at hm;omega
  obtain⟨Z,ao,U⟩:=a;by_cases h0:len=0
  ·subst h0;exact⟨_,cap,[],rfl,by simp,fun i hi=>absurd hi (yw _),⟨(fun e=>by cases e),by simp,T⟩,fun i hi=>absurd hi (yw _)⟩
  ·have a7:U=none:=by
    obtain⟨I,hc,ht⟩:=hx 0 (by omega);rw[zjb] at hc;obtain⟨_,O,F⟩:=World.cells?_some hc;have h1:=F 0 (by omega);rw[List.getElem?_eq_getElem (by omega)] at h1;simpa [Addr.add] using World.cell?_spot h1
   subst a7
   obtain⟨S,E,M⟩:=zwu len (fun i x=>(∃ ga gc,w.cell? ⟨Z,ao+i,none⟩=some (.slice ga x.length gc)/\zaG w ga x)/\x.length<=9223372036854775807/\zkz x) (fun i hi=>by
    obtain⟨I,hc,ht⟩:=hx i (by omega);rw[zjb] at hc;obtain⟨_,O,F⟩:=World.cells?_some hc
    match I,O with
    | [a0],_ =>
     obtain⟨y0,n', _,_,g0⟩:=trod_struct1 Tryz.underlying47 ht;obtain⟨ga,gc,G,e,h1,h2,h3⟩:=zhP g0;cases e;refine⟨G,⟨ga,gc,?_,h3⟩,h1,h2⟩;have h4:=F 0 (by omega);rw[add_plain,add_plain,Nat.mul_one,Nat.add_zero] at h4;exact h4)
   exact⟨some ⟨Z,ao,none⟩,cap,S,by rw[E],by rw[E];omega,fun i hi=>(M i (by omega)).2,⟨(fun e=>by cases e),by rw[E];exact hl,T⟩,fun i hi=>by
    obtain⟨ga,gc,c0,a5⟩:=(M i (by omega)).1;exact⟨Z,ao,ga,gc,rfl,c0,a5⟩⟩
theorem zru{D b o:Nat}{F:List Value}{x:DataW H × List MemPlace}(h:DataW.trod enc Tryz.prog w base spare held D 121 F=some x)(hc:∀ j,j<5->w.cell? ⟨b,o+j,none⟩=F[j]?) :
  ∃ y:Pt,zzl w b o y/\y.cm.length<=9223372036854775807/\zze y.cm:=by
 obtain⟨xs,n,_,_,hl,M,E⟩:=DataW.trod_struct Tryz.underlying121 h;rw[zhB] at hl
 match F,hl with
 | [a0,a1,a2,a3,a4],_ =>
  match xs,M with
  | [x0,x1,x2,x3,x4],_ =>
   have g0:=E 0 _ rfl;have g1:=E 1 _ rfl;have g2:=E 2 _ rfl;have g3:=E 3 _ rfl;have g4:=E 4 _ rfl;obtain⟨n0,U,_⟩:=DataW.trod_int Tryz.underlying3 g0;obtain⟨n1,Z,_⟩:=DataW.trod_int Tryz.underlying3 g1;obtain⟨n2,e2,_⟩:=DataW.trod_int Tryz.underlying3 g2;obtain⟨O,T,C,e3,I,J,hI⟩:=zno g3;obtain⟨n4,e4,_⟩:=DataW.trod_bool Tryz.underlying4 g4
   cases U;cases Z;cases e2;cases e3;cases e4
   exact⟨⟨n0,n1,n2,C,n4⟩,⟨hc 0 (by omega),hc 1 (by omega),hc 2 (by omega),O,T,hc 3 (by omega),hI,hc 4 (by omega)⟩,I,J⟩
theorem zoT{I:Nat}{cs:List Value}{x:DataW H × List MemPlace}(h:DataW.trod enc Tryz.prog w base spare held I 26 cs=some x) :
  ∃ a c,∃ S:List Pt,cs=[.slice a S.length c]/\S.length<=9223372036854775807/\zmu S/\SlA a S.length c/\zbR w a S:=by
 rcases Go.Deep.open_slice Tryz.underlying26 h with ⟨rfl,_⟩ |⟨a,len,cap,m,n,D,Pl,rfl,_,hl,hm,a6,_,hx⟩
 ·exact⟨none,0,[],rfl,by simp,fun i hi=>absurd hi (yw _),⟨fun _=>rfl,by simp,by omega⟩,fun i hi=>absurd hi (yw _)⟩
 ·have a8:len<=m:=by rw[a6];split <;> omega
  have M:cap<=9223372036854775807:=by unfold maxLen at hm;omega
  obtain⟨T,U,O⟩:=a;by_cases h0:len=0
  ·subst h0;exact⟨_,cap,[],rfl,by simp,fun i hi=>absurd hi (yw _),⟨(fun e=>by cases e),by simp,M⟩,fun i hi=>absurd hi (yw _)⟩
  ·have a7:O=none:=by
    obtain⟨Z,hc,ht⟩:=hx 0 (by omega);rw[zhB] at hc;obtain⟨_,a5,F⟩:=World.cells?_some hc;have h1:=F 0 (by omega);rw[List.getElem?_eq_getElem (by omega)] at h1;simpa [Addr.add] using World.cell?_spot h1
   subst a7
   obtain⟨S,E,J⟩:=zwv len (fun i x=>zzl w T (U+i*5) x/\x.cm.length<=9223372036854775807/\zze x.cm) (fun i hi=>by
    obtain⟨Z,hc,ht⟩:=hx i (by omega);rw[zhB] at hc;obtain⟨_,a5,F⟩:=World.cells?_some hc;refine zru ht (fun j hj=>?_);have h1:=F j hj
    rwa [add_plain,add_plain] at h1)
   exact⟨some ⟨T,U,none⟩,cap,S,by rw[E],by rw[E];omega,fun i hi=>(J i (by omega)).2,⟨(fun e=>by cases e),by rw[E];exact hl,M⟩,fun i hi=>⟨T,U,rfl,(J i (by omega)).1⟩⟩
end Go.Proofs.YtcbcpomacdngmaaGreat
