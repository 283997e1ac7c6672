/-
  x
-/
import Derived.Test.YtcbcpomacdngmaaGreatS45
namespace Go.Proofs.YtcbcpomacdngmaaGreat
set_option maxRecDepth 100000
set_option maxHeartbeats 4000000
set_option linter.unusedVariables false
open Go.RowKit Go.ChangeShapes Go.WideShapes
theorem zxH{w:World}{b:Nat}{u0:Value}(c0:w.cell? ⟨b,0,none⟩=some u0):∀ j u,([u0]:List Value)[j]?=some u->w.cell? ((⟨b,0,none⟩:Addr).add j)=some u:=fun j u D=>by
 rw[Addr.add_lit,yB]
 match j,D with
 | 0,D=>cases D;exact c0
def zAT(D:W0)(d me:Nat)(W:Wl)(e:Ending)(V:World):Prop:=e=.returned (.tuple #[])/\∃ s,SW D d me W s V
theorem zta{me:Nat}{W:Wl}{pl:List Ac}{i:Nat}(h:i<pl.length):(pl.take (i+1)).foldl (doW me) W=doW me ((pl.take i).foldl (doW me) W) (ac pl i):=by
 rw[List.take_succ_eq_append_getElem h,List.foldl_append];show doW me _ _=_;unfold ac;rw[zae _ _ h]
theorem SW.tellv{D:W0}{d me:Nat}{W:Wl}{s:SD}{V:World}(I:SW D d me W s V){v:Value}{o:Int}(J:(rlm W me).t.length+1<=4800)(M:v=.int .i64 o) :
  (App (SX D.heap.size d s) D.heap.size 3 1 (s.R me).a3 (rlm W me).t.length (s.R me).c3 ((rlm W me).t.map (Value.int .i64)) s.t V)/\(∀ j,s.t=some j->j≠d/\j≠s.g1) /\
  ∀ E g cap,V.grownBy E s.t->E.ownsRow D.heap.size 3 1 (.slice (some ⟨g,0,none⟩) ((rlm W me).t.length+1) cap) ((rlm W me).t.length+1) ((rlm W me).t.map (Value.int .i64)++[v])->(s.t=some g\/V.heap.size<=g)->∃ O,SW D d me (zmb W me o) O (E.setCell ⟨s.g1,me*4+3,none⟩ (.slice (some ⟨g,0,none⟩) ((rlm W me).t.length+1) cap)):=by
 subst M;refine⟨I.dp.ts,fun j h=>⟨(I.ap.tt j h).1,(I.ap.tt j h).2.1⟩,fun E g cap hg F hl=>⟨_,I.told hg F hl ?_ rfl⟩⟩;have H:=zjR I.rt I.sf o J;have h:=H.rs me (by show me<W.fs.length;exact I.sf);rw[znx (by rw[I.rt.lr];exact I.sf)] at h;exact h
theorem zyV(me:Nat)(W:Wl)(w0:W0)(d:Nat)(s:SD)(V:World)(I:SW w0 d me W s V)(ht:(rlm W me).t.length+(prg W me).length<=4800):yM 41 #[.pointer (some ⟨d,0,none⟩),.int .i64 (me:Int)] V (zAT w0 d me ((prg W me).foldl (doW me) W)):=by
 have I0:Hid _:=I.ghost (I.dp.pr me I.sf);obtain⟨l0,l1,l2,l3,l4,lf,ll⟩:=zal I.box;have p2:V.cell? ⟨s.g2,me,none⟩=some (.slice (s.P me).1 (prg W me).length (s.P me).2):=I.r2.cell I.sf;have n8:W.fs.length<=8:=I.rt.fs.few;have g8:me<W.fs.length:=I.sf;have hp:(prg W me).length<=40:=I.rt.ps me I.sf
 have HF:Hid (∀ i,i<=(prg W me).length->(rlm (((prg W me).take i).foldl (doW me) W) me).t.length=(rlm W me).t.length+i):=fun i hi=>by
  have h:=(zlB ((prg W me).take i) I.rt I.sf (by rw[List.length_take];omega)).2.2;rw[h,List.length_take];omega
 have HT:Hid _:=ht;obtain⟨pl,e0⟩:∃ p,prg W me=p:=⟨_,rfl⟩;rw[e0] at I0 p2 HF HT hp |-;obtain⟨N,hN⟩:∃ N,pl.length=N:=⟨_,rfl⟩;have HN:Hid (pl.length=N):=hN;rw[hN] at p2 HF HT hp;generalize s.P me=Pm at *;obtain⟨pa,pc⟩:=Pm;dsimp only at p2 I0;have b9:Hid (pl.take N=pl):=by rw[<- hN];exact List.take_length
 have g5:(me:Int)<(W.fs.length:Int):=by omega
 clear ht hN e0 l0 l1 l3 l4 I;generalize W.fs.length=n0 at *
 go_enter Tryz.func41,Tryz.ntmps41
 go_wp2_with fail
 go_loopg [16] N (fun g s16 wr=>∃ (i:Nat) (si:SD),i<=N/\N-i<=g/\s16=.int .i64 i/\Hid (SW ⟨w0.w,fun V=>w0.P V/\zbX V pa pl⟩ d me ((pl.take i).foldl (doW me) W) si wr))
 case atStart=>exact⟨0,s,by omega,by omega,rfl,I0.out⟩
 case round =>
  obtain⟨i,si,hi,hg,rfl,HI⟩:=hrel;clear I0 l2 p2 ll lf;by_cases d7:i<N
  ·have d8:(i:Int)<(N:Int):=(by omega);obtain⟨pb,po,e5,x0,x1,x2,x3,x4⟩:=HI.out.drop.2 i (by rw[HN.out];exact d7);subst e5;have TL:Hid _:=HF.out i (by omega);have NX:Hid (_=_):=zta (me:=me) (W:=W) (pl:=pl) (i:=i) (by rw[HN.out];exact d7);obtain⟨X,hX⟩:∃ X,ac pl i=X:=⟨_,rfl⟩;rw[hX] at x0 x1 x2 x3 x4 NX;clear hX;obtain⟨Wi,c8⟩:∃ Wi,(pl.take i).foldl (doW me) W=Wi:=⟨_,rfl⟩;rw[c8] at HI TL NX;clear c8;obtain⟨xk,xa,xb,xc,xn⟩:=X;dsimp only at x0 x1 x2 x3 x4;have e1:=HI.out.lt;have e3:Hid _:=e1;have HR:Hid (zao Wi):=HI.out.rt;have HM:Hid (me<Wi.fs.length):=HI.out.sf;have DO:Hid (∀ V,Calls _ _ _ _ _):=fun V=>zoB me Wi ⟨xk,xa,xb,xc,xn⟩ V HR.out HM.out;have b1:Hid _:=zAu HR.out HM.out ⟨xk,xa,xb,xc,xn⟩;have QD:Hid (doW me Wi ⟨xk,xa,xb,xc,xn⟩=zmb (zdT Wi me ⟨xk,xa,xb,xc,xn⟩).w me (toldOf (zdT Wi me ⟨xk,xa,xb,xc,xn⟩))):=rfl;have QT:Hid _:=zpl HR.out HM.out ⟨xk,xa,xb,xc,xn⟩;unfold zjY at DO;obtain⟨q,hq⟩:∃ q,zdT Wi me ⟨xk,xa,xb,xc,xn⟩=q:=⟨_,rfl⟩;rw[hq] at b1 QD QT DO;clear hq e1;obtain⟨qe,O,qo⟩:=q;dsimp only at b1 QD QT
   go_upto_region 3 with fail
   obtain⟨V1,b2⟩:∃ V1,wr.alloc (.cells #[.int .i64 xk,.int .i64 xa,.int .i64 xb,.int .i64 xc,.int .i64 xn] 36)=V1:=⟨_,rfl⟩;have BV:Hid (Below wr.heap.size wr V1):=(by rw[<- b2];exact zaa _ _);have YB:Hid (V1.heap[wr.heap.size]?=some (.cells #[.int .i64 xk,.int .i64 xa,.int .i64 xb,.int .i64 xc,.int .i64 xn] 36 (0,0))):=(by rw[<- b2];exact yL _ _);rw[b2];clear b2;obtain⟨y0,y1,y2,y3,y4,yf,yl⟩:=zal YB.out;have I1:Hid (SW ⟨w0.w,fun V=>(w0.P V/\zbX V (some ⟨pb,po,none⟩) pl)/\V.heap[wr.heap.size]?=some (.cells #[.int .i64 xk,.int .i64 xa,.int .i64 xb,.int .i64 xc,.int .i64 xn] 36 (0,0))⟩ d me Wi si V1):=(HI.out.below BV.out).ghost (fun V' ho=>(ho.block _ yl (fun h=>by have:=e3.out _ h;omega)).trans YB.out)
   go_region_held3 (fun M=>M.cell? ⟨wr.heap.size,0,none⟩=some (.int .i64 xk)/\M.cell? ⟨wr.heap.size,1,none⟩=some (.int .i64 xa)/\M.cell? ⟨wr.heap.size,2,none⟩=some (.int .i64 xb)/\M.cell? ⟨wr.heap.size,3,none⟩=some (.int .i64 xc)/\M.cell? ⟨wr.heap.size,4,none⟩=some (.int .i64 xn)) (go_keep) (first|(go_at_call 79;refine ye (DO.out V1.drew) ?_;rintro e w3 ⟨K,c7,C,rfl,c9,d5,d9,g7,d6⟩;have B3:Hid (Below V1.heap.size V1 w3):=(yk _ _).drew.trans c9;have C3:Hid (C w3):=d5;have LD:Hid (zhp K c7 C me Wi ⟨xk,xa,xb,xc,xn⟩ ⟨qe,O,qo⟩):=d6;have I3:Hid _:=I1.out.below B3.out;have e6:=zab y0 B3.out;have e7:=zab y1 B3.out;have e8:=zab y2 B3.out;have e9:=zab y3 B3.out;have g0:=zab y4 B3.out;clear c9 d5 d9 d6)|(go_at_fn K;refine ye (LD.out _ d si w3 I3.out C3.out) ?_;rintro e F ⟨o,s4,rfl,ho,b5⟩;have HO:Hid _:=ho;have I4:Hid _:=b5.drop.1;obtain⟨u0,u1,u2,u3,u4,uf,ul⟩:=zal b5.drop.2;clear ho b5))
   clear y0 y1 y2 y3 y4 e6 e7 e8 e9 g0 u0 u1 u2 u3 u4 yf yl uf ul x0 x1 x2 x3 x4 DO LD C3 I1 I3 HI YB;have e2:(rlm O me).t.length+1<=4800:=(by rw[QT.out,TL.out];have:=HT.out;omega);have c6:Hid _:=b1.out;obtain⟨d0,c1,d2,d3,d4,df,dl⟩:=zal I4.out.box;obtain⟨k0,k1,k2,ct,kf,kl⟩:=I4.out.rcells I4.out.sf;obtain⟨n,hn⟩:∃ n,O.fs.length=n:=⟨_,rfl⟩;rw[hn] at c1;have g9:me<n:=(by rw[<- hn];exact I4.out.sf);have h3:n<=8:=(by rw[<- hn];exact I4.out.rt.fs.few);have g6:(me:Int)<(n:Int):=(by omega);clear d0 d2 d3 d4 k0 k1 k2 hn;have TB:Hid ((rlm O me).t.length<=4800):=by show _<=_;omega
   have a5:Hid (∀ E:Int,E=toldOf ⟨qe,O,qo⟩->(App (SX w0.heap.size d s4) w0.heap.size 3 1 (s4.R me).a3 (rlm O me).t.length (s4.R me).c3 ((rlm O me).t.map (Value.int .i64)) s4.t (F.drew.alloc (.cells #[.int .i64 E] 3)))/\(∀ j,s4.t=some j->j≠d/\j≠s4.g1)/\(∀ w9,(F.drew.alloc (.cells #[.int .i64 E] 3)).grownBy w9 s4.t->w9.frozen? ⟨s4.g1,me*4+3,none⟩=false)/\(w0.heap.size<=(F.drew.alloc (.cells #[.int .i64 E] 3)).heap.size)/\∀ V1 g cap,(F.drew.alloc (.cells #[.int .i64 E] 3)).grownBy V1 s4.t->V1.ownsRow w0.heap.size 3 1 (.slice (some ⟨g,0,none⟩) ((rlm O me).t.length+1) cap) ((rlm O me).t.length+1) ((rlm O me).t.map (Value.int .i64)++[.int .i64 E])->(s4.t=some g\/(F.drew.alloc (.cells #[.int .i64 E] 3)).heap.size<=g)->∃ s', SW ⟨w0.w,fun V=>w0.P V/\zbX V (some ⟨pb,po,none⟩) pl⟩ d me ((pl.take (i+1)).foldl (doW me) W) s' (V1.setCell ⟨s4.g1,me*4+3,none⟩ (.slice (some ⟨g,0,none⟩) ((rlm O me).t.length+1) cap))):=fun E T=>by
    have I5:=I4.out.below ((yk F.heap.size F).drew.alloc (yj _) (.cells #[.int .i64 E] 3));have h:=I5.tellv (v:=.int .i64 E) (o:=E) e2 rfl;refine⟨h.1,h.2.1,fun w9 hg=>(yD (hg.block s4.g1 I5.r1.lt (fun e=>(h.2.1 s4.g1 e.symm).2 rfl))).trans (I5.r1.frozen _),I5.bel.size,fun V1 g cap a b c=>?_⟩;rw[NX.out,QD.out,<- T];exact h.2.2 V1 g cap a b c
   clear e2 I4 QD NX QT b1;by_cases hE:qe=0
   ·subst hE;obtain rfl:=HO.out rfl;have FA:=a5.out o (show o=toldOf ⟨0,O,o⟩ from rfl);obtain⟨fa,nt,fz,a8,a7⟩:=FA;have HA:Hid _:=fa;have FZ:Hid _:=fz;have Z:Hid _:=a7;clear fa fz a7 a5 HO;generalize (rlm O me).t.map (Value.int .i64)=ts at *;have e4:(rlm O me).t.length<=4800:=TB.out;generalize (rlm O me).t.length=tl at *;generalize s4.t=tt at *;generalize s4.g1=g1 at *;generalize (s4.R me).a3=ta at *;generalize (s4.R me).c3=tc at *;obtain⟨E,T⟩:∃ E,E=o:=⟨_,rfl⟩;rw[<- T] at HA FZ Z a8 |-;clear T
    go_wp2_with fail
    obtain⟨i0,b4,b6,b7,b8⟩:=info_parts ziG;refine wp_region_noPanic ?_;refine zeR (S:=fun M=>M.cell? ⟨d,1,none⟩=some (.slice (some ⟨g1,0,none⟩) n n)/\M.cell? ⟨g1,me*4+3,none⟩=some (.slice ta tl tc)) 18 (by kernel_rfl) (by(try dsimp only);go_keep) (fun hHeld=>?_);refine zah (i:=0) ?_;simp[Act.put];refine zah (i:=1) ?_;simp[Act.put];refine zah (i:=2) ?_;simp[Act.put];refine zah (i:=3) ?_;simp[Act.put];refine zah (i:=4) ?_;simp[Act.put];refine zah (i:=5) ?_;simp[Act.put];refine zah (i:=6) ?_;simp[Act.put];refine zah (i:=7) ?_;simp[Act.put];refine zah (i:=8) ?_;simp[Act.put];refine zah (i:=9) ?_;simp[Act.put];refine zah (i:=10) ?_;simp[Act.put];refine zah (i:=11) ?_;simp[Act.put];refine zah (i:=12) ?_;simp[Act.put];refine zah (i:=13) ?_;simp[Act.put];refine zbz (i:=14) (by kernel_rfl) rfl (fun K hK=>?_);go_simp;refine hK.out _ _ ?_ (fun hHeld=>?_)
    ·exact⟨zab c1 ((yk F.heap.size F).drew.alloc (yj _) (.cells #[.int .i64 E] 3)),zab ct ((yk F.heap.size F).drew.alloc (yj _) (.cells #[.int .i64 E] 3))⟩
    clear hK K hHeld
    try simp[Act.put]
    refine zbz (i:=15) (by kernel_rfl) rfl (fun K hK=>?_);refine zma (F.drew.alloc (.cells #[.int .i64 E] 3)) rfl (.tmp 46) (.tmp 48) 48 rfl 3 i0 (.int .i64 0) 1 8 Tryz.underlying48 b4 b6 b7 b8 rfl (by decide) ta tl tc ts tt HA.out a8 rfl ⟨F.heap.size,0,none⟩ 1 1 [.int .i64 E] rfl rfl (zxH (zad F.drew _ _ 0 rfl)) (by intro u hu;simp at hu;subst hu;rfl) (by decide) (by unfold maxLen;omega) (by omega) ?_;intro g cap w9 U D J g4;have t1:w9.cell? ⟨d,1,none⟩=some (.slice (some ⟨g1,0,none⟩) n n):=D.cell (a:=⟨d,1,none⟩) (zab c1 ((yk F.heap.size F).drew.alloc (yj _) (.cells #[.int .i64 E] 3))) (fun e=>(nt d e.symm).1 rfl);have b0:w9.cell? ⟨g1,me*4+3,none⟩=some (.slice ta tl tc):=D.cell (a:=⟨g1,me*4+3,none⟩) (zab ct ((yk F.heap.size F).drew.alloc (yj _) (.cells #[.int .i64 E] 3))) (fun e=>(nt g1 e.symm).2 rfl);have f9:w9.frozen? ⟨g1,me*4+3,none⟩=false:=FZ.out w9 D;have a6:Hid _:=Z.out w9 g cap D U J;refine hK.out _ _ ?_ (fun hHeld=>?_)
    ·exact⟨t1,b0⟩
    clear hK K U D J Z FZ
    try simp[Act.put]
    clear hHeld;refine zbz (i:=16) (by kernel_rfl) rfl (fun K hK=>?_);go_simp;refine hK.out _ _ ?_ (fun hHeld=>?_)
    ·(try dsimp only)
     exact⟨t1,b0⟩
    clear hK K
    try simp[Act.put]
    refine zah (i:=17) ?_;simp[Act.put];clear hHeld;refine zeQ (by kernel_rfl) rfl (fun K hK=>?_);go_simp;refine hK.out _ _ ?_;clear hK K
    try simp[Act.put]
    refine zeP (by kernel_rfl) ?_ _;refine NoPanic.normal ?_;obtain⟨s9,a9⟩:=a6.out;have b3:Hid _:=a9;clear a9 a6
    go_wp2_with fail
    go_roundg (N-(i+1))
    case measure=>omega
    case rel=>exact⟨i+1,s9,by omega,by omega,by go_num,b3.out⟩
   ·have hz:(qe == 0)=false:=(by simp[hE]);have FA:=a5.out (-qe) (show -qe=toldOf ⟨qe,O,qo⟩ from (ya hE).symm);obtain⟨fa,nt,fz,a8,a7⟩:=FA;have HA:Hid _:=fa;have FZ:Hid _:=fz;have Z:Hid _:=a7;clear fa fz a7 a5 HO;generalize (rlm O me).t.map (Value.int .i64)=ts at *;have e4:(rlm O me).t.length<=4800:=TB.out;generalize (rlm O me).t.length=tl at *;generalize s4.t=tt at *;generalize s4.g1=g1 at *;generalize (s4.R me).a3=ta at *;generalize (s4.R me).c3=tc at *;obtain⟨E,T⟩:∃ E,E = -qe:=⟨_,rfl⟩;rw[<- T] at HA FZ Z a8;have hw:IntKind.i64.wrap (-qe) = -qe:=by have h1:=c6.out.1;have h2:=c6.out.2;rw[yI];omega
    go_wp2_with fail
    rw[<- T];clear T hw;obtain⟨i0,b4,b6,b7,b8⟩:=info_parts ziG;refine wp_region_noPanic ?_;refine zeR (S:=fun M=>M.cell? ⟨d,1,none⟩=some (.slice (some ⟨g1,0,none⟩) n n)/\M.cell? ⟨g1,me*4+3,none⟩=some (.slice ta tl tc)) 18 (by kernel_rfl) (by(try dsimp only);go_keep) (fun hHeld=>?_);refine zah (i:=0) ?_;simp[Act.put];refine zah (i:=1) ?_;simp[Act.put];refine zah (i:=2) ?_;simp[Act.put];refine zah (i:=3) ?_;simp[Act.put];refine zah (i:=4) ?_;simp[Act.put];refine zah (i:=5) ?_;simp[Act.put];refine zah (i:=6) ?_;simp[Act.put];refine zah (i:=7) ?_;simp[Act.put];refine zah (i:=8) ?_;simp[Act.put];refine zah (i:=9) ?_;simp[Act.put];refine zah (i:=10) ?_;simp[Act.put];refine zah (i:=11) ?_;simp[Act.put];refine zah (i:=12) ?_;simp[Act.put];refine zah (i:=13) ?_;simp[Act.put];refine zbz (i:=14) (by kernel_rfl) rfl (fun K hK=>?_);go_simp;refine hK.out _ _ ?_ (fun hHeld=>?_)
    ·exact⟨zab c1 ((yk F.heap.size F).drew.alloc (yj _) (.cells #[.int .i64 E] 3)),zab ct ((yk F.heap.size F).drew.alloc (yj _) (.cells #[.int .i64 E] 3))⟩
    clear hK K hHeld
    try simp[Act.put]
    refine zbz (i:=15) (by kernel_rfl) rfl (fun K hK=>?_);refine zma (F.drew.alloc (.cells #[.int .i64 E] 3)) rfl (.tmp 46) (.tmp 48) 48 rfl 3 i0 (.int .i64 0) 1 8 Tryz.underlying48 b4 b6 b7 b8 rfl (by decide) ta tl tc ts tt HA.out a8 rfl ⟨F.heap.size,0,none⟩ 1 1 [.int .i64 E] rfl rfl (zxH (zad F.drew _ _ 0 rfl)) (by intro u hu;simp at hu;subst hu;rfl) (by decide) (by unfold maxLen;omega) (by omega) ?_;intro g cap w9 U D J g4;have t1:w9.cell? ⟨d,1,none⟩=some (.slice (some ⟨g1,0,none⟩) n n):=D.cell (a:=⟨d,1,none⟩) (zab c1 ((yk F.heap.size F).drew.alloc (yj _) (.cells #[.int .i64 E] 3))) (fun e=>(nt d e.symm).1 rfl);have b0:w9.cell? ⟨g1,me*4+3,none⟩=some (.slice ta tl tc):=D.cell (a:=⟨g1,me*4+3,none⟩) (zab ct ((yk F.heap.size F).drew.alloc (yj _) (.cells #[.int .i64 E] 3))) (fun e=>(nt g1 e.symm).2 rfl);have f9:w9.frozen? ⟨g1,me*4+3,none⟩=false:=FZ.out w9 D;have a6:Hid _:=Z.out w9 g cap D U J;refine hK.out _ _ ?_ (fun hHeld=>?_)
    ·exact⟨t1,b0⟩
    clear hK K U D J Z FZ
    try simp[Act.put]
    clear hHeld;refine zbz (i:=16) (by kernel_rfl) rfl (fun K hK=>?_);go_simp;refine hK.out _ _ ?_ (fun hHeld=>?_)
    ·(try dsimp only)
     exact⟨t1,b0⟩
    clear hK K
    try simp[Act.put]
    refine zah (i:=17) ?_;simp[Act.put];clear hHeld;refine zeQ (by kernel_rfl) rfl (fun K hK=>?_);go_simp;refine hK.out _ _ ?_;clear hK K
    try simp[Act.put]
    refine zeP (by kernel_rfl) ?_ _;refine NoPanic.normal ?_;obtain⟨s9,a9⟩:=a6.out;have b3:Hid _:=a9;clear a9 a6
    go_wp2_with fail
    go_roundg (N-(i+1))
    case measure=>omega
    case rel=>exact⟨i+1,s9,by omega,by omega,by go_num,b3.out⟩
  ·have d8:¬ (i:Int)<(N:Int):=(by omega);have:i=N:=(by omega);subst this;have h:=HI.out.drop.1;rw[b9.out] at h;have HE:Hid _:=h;clear h
   go_wp2
   first|exact yw (v:=.tuple #[]) (by simp[results,Tryz.results41,go_sem]) rfl ⟨rfl,si,HE.out⟩|(go_ret;exact⟨rfl,si,HE.out⟩)
theorem SW.wlX{M:W0}{d me:Nat}{W:Wl}{s:SD}{V:World}(I:SW M d me W s V):ziv (fun b=>b<M.heap.size\/b=d) V (s.wa W.fs.length) W:=fun E J=>by
 have ha:=I.ap;have D:zaq (SX M.heap.size d s) V E:=J.mono (fun b h=>h.elim .inl (fun h=>.inr (.inl h)));have r1:=I.r1.of_block (J.block _ I.r1.lt (by have h1:=ha.g1;have O:=ha.d1;show ¬ (_\/_);omega));have r2:=I.r2.of_block (J.block _ I.r2.lt (by have h1:=ha.g2;have O:=ha.d2;show ¬ (_\/_);omega));have r3:=I.r3.of_block (J.block _ I.r3.lt (by have h1:=ha.g3;have O:=ha.d3;show ¬ (_\/_);omega));have T:=I.dp.ts.kept D (Y:=SX M.heap.size d s) (fun _ _ h=>h) (fun b F=>J.block b (I.dp.ts.lt b F).1 (by have h1:=(I.dp.ts.lt b F).2;have O:=(ha.tt b F).1;show ¬ (_\/_);omega));refine⟨I.dp.fr E D,fun i hi=>?_,fun i hi=>?_,fun i hi=>?_,I.dp.pt E D⟩
 ·rw[I.rt.lr] at hi;refine⟨s.g1,0,s.R i,rfl,?_,?_,?_,?_,(I.dp.rl i hi E D).1,(I.dp.rl i hi E D).2.1,(I.dp.rl i hi E D).2.2,?_⟩
  ·rw[yB,r1.cell (by omega),zjG];rfl
  ·rw[yB,r1.cell (by omega),zjH];rfl
  ·rw[yB,r1.cell (by omega),zkY];rfl
  ·rw[yB,r1.cell (by omega),zkZ];rfl
  ·by_cases e:i=me
   ·subst e;exact zpn T
   ·exact I.dp.tl i hi e E D
 ·rw[I.rt.lp] at hi;exact⟨s.g2,0,(s.P i).1,(s.P i).2,rfl,by rw[yB,r2.cell hi];rfl,I.dp.pr i hi E D⟩
 ·rw[I.rt.lq] at hi;have U:=(I.dp.qs i hi).kept D (Y:=SX M.heap.size d s) (fun _ _ h=>h) (fun b F=>J.block b ((I.dp.qs i hi).lt b F).1 (by have h1:=((I.dp.qs i hi).lt b F).2;have O:=(ha.qq i b F).2.1;show ¬ (_\/_);omega));have Z:=(zbJ.1 (I.rt.qs i hi)).1;exact⟨s.g3,0,(s.Q i).1,(s.Q i).2,rfl,by rw[yB,r3.cell hi];rfl,zzw U (show (que W i).length<=_ by omega),zxX U (fun j hj=>I.dp.qg i hi j hj E D)⟩
theorem SW.wlC{D:W0}{d me:Nat}{W:Wl}{s:SD}{V:World}(I:SW D d me W s V):WlC (s.wa W.fs.length) W:=by
 have hn:W.fs.length<=8:=I.rt.fs.few;refine⟨I.dp.fc,?_,?_,?_,I.dp.pc⟩
 ·rw[I.rt.lr];exact⟨(fun e=>by cases e),yj _,by show W.fs.length<=9223372036854775807;omega⟩
 ·rw[I.rt.lp];exact⟨(fun e=>by cases e),yj _,by show W.fs.length<=9223372036854775807;omega⟩
 ·rw[I.rt.lq];exact⟨(fun e=>by cases e),yj _,by show W.fs.length<=9223372036854775807;omega⟩
def znN(X:Nat->Prop)(w:World)(W:Wl)(k:Int)(st:Bool)(e:Ending)(w' : World):Prop:=∃ B:WA,e=.returned (.tuple #[wlV B (zfc W k st),.int .i64 (zfb W k st)])/\Below w.heap.size w w' /\ WlC B (zfc W k st)/\ziv X w' B (zfc W k st)
theorem znN.no{X:Nat->Prop}{w w' : World}{W:Wl}{k E:Int}{st:Bool}(h:zfb W k st=E)(D:E≠0)(F:Below w.heap.size w w'):znN X w W k st (.returned (.tuple #[.agg #[.slice none 0 0,.slice none 0 0,.slice none 0 0,.slice none 0 0,.slice none 0 0],.int .i64 E])) w' := by
 subst h;have e:zfc W k st=zlf:=ya D;refine⟨⟨none,none,none,none,none,0,0,0,0,0⟩,?_,F,?_,?_⟩
 ·rw[e];rfl
 ·rw[e];exact⟨zcl,zcl,zcl,zcl,zcl⟩
 ·rw[e];exact fun w' _=>zpg w' _
theorem zuo{W:Wl}{k:Int}{st:Bool}(h:zbH W=0):zfb W k st=zan [zaz W.fs k,if bits .and .i64 (zjo W k.toNat) 1=0 then 7 else 0,if 4760<(rlm W k.toNat).t.length then 1 else 0,if st=false/\(que W k.toNat).length=0 then 8 else 0]:=by
 unfold zfb;show (if zbH W=0 then _ else _)=_;rw[yb h]
theorem znp{b n:Nat}(D:b<n)(W:World)(u0 u1 u2 u3 u4:Value):zaq (fun x=>x<n) W (((((W.setCell ⟨b,0,none⟩ u0).setCell ⟨b,1,none⟩ u1).setCell ⟨b,2,none⟩ u2).setCell ⟨b,3,none⟩ u3).setCell ⟨b,4,none⟩ u4) :=
 ((((zaq.set (X:=fun x=>x<n) _ _ D).trans (zaq.set (X:=fun x=>x<n) _ _ D)).trans (zaq.set (X:=fun x=>x<n) _ _ D)).trans (zaq.set (X:=fun x=>x<n) _ _ D)).trans (zaq.set (X:=fun x=>x<n) _ _ D)
theorem zvw(W:Wl)(me:Nat)(st:Bool):setR (if st then W else { W with qs:=W.qs.set me ((que W me).drop 1) }) me { rlm (if st then W else { W with qs:=W.qs.set me ((que W me).drop 1) }) me with i:=if st then [] else ((que W me).getD 0 ⟨0,[]⟩).g }=zcn W me st:=by cases st <;> rfl
theorem take2(me:Nat)(W:Wl)(st:Bool)(J:W0)(d:Nat)(s:SD)(V:World)(I:SW J d me W s V)(hq:s.q me=none)(hl:st=false->(que W me).length≠0){n gl:Nat}(hn:W.fs.length=n)(T:(if st then [] else ((que W me).getD 0 ⟨0,[]⟩).g).length=gl):yM 40 #[.pointer (some ⟨d,0,none⟩),.agg #[.int .i64 (me:Int),.bool st]] V fun e E=>∃ ga gc s7 v,e=.returned (.agg #[.slice ga gl gc])/\Hid (Below J.heap.size J.w E)/\E.cell? ⟨d,1,none⟩=some (.slice (some ⟨s.g1,0,none⟩) n n)/\E.cell? ⟨s.g1,me*4+2,none⟩=some v/\E.frozen? ⟨s.g1,me*4+2,none⟩=false/\s.g1<E.heap.size/\d<E.heap.size/\Hid (SW J d me (zcn W me st) s7 (E.setCell ⟨s.g1,me*4+2,none⟩ (.slice ga gl gc))):=by
 refine(zxl me W st J d s V I hq hl).mono ?_;rintro e E ⟨ga,gc,s6,rfl,D,F,O⟩;subst hn;subst T;have H:=(ziS I.rt I.sf st hl).rs me (by rw[ziR];exact I.sf);rw[zhs (by rw[I.rt.lr];exact I.sf)] at H;have eR:rlm (if st then W else { W with qs:=W.qs.set me ((que W me).drop 1) }) me=rlm W me:=by cases st <;> rfl
 have eF:(if st then W else { W with qs:=W.qs.set me ((que W me).drop 1) }:Wl).fs=W.fs:=by cases st <;> rfl
 have U:=D.setIn (a:=ga) (c:=gc) (G:=if st then [] else ((que W me).getD 0 ⟨0,[]⟩).g) (by rw[eR];exact H) O;rw[zvw,F] at U;obtain⟨_,M,_,_,_,_,bl⟩:=zal D.box;obtain⟨_,_,Z,_,kf,kl⟩:=D.rcells D.sf;rw[F] at M Z kf kl;rw[eF] at M;exact⟨ga,gc,_,_,rfl,D.bel,M,Z,kf _,kl,bl,U⟩
theorem step_end{X:Nat->Prop}{w O M:World}{P:World->Prop}{d me D:Nat}{W E:Wl}{k:Int}{st:Bool}{s:SD}(hX:∀ b,X b->b<w.heap.size)(J:Below w.heap.size w O)(I:SW ⟨O,P⟩ d me E s M)(hE:zfb W k st=0)(U:zfc W k st=E)(F:w.heap.size<=D)(T:D<O.heap.size){V' : World}{n nt:Nat}(hn:E.fs.length=n)(Z:E.pt.length=nt)(u0 u1 u2 u3 u4:Value)
  (hV:V' =((((M.setCell ⟨D,0,none⟩ u0).setCell ⟨D,1,none⟩ u1).setCell ⟨D,2,none⟩ u2).setCell ⟨D,3,none⟩ u3).setCell ⟨D,4,none⟩ u4) :
  znN X w W k st (.returned (.tuple #[.agg #[.slice s.a0 n s.c0,.slice (some ⟨s.g1,0,none⟩) n n,.slice (some ⟨s.g2,0,none⟩) n n,.slice (some ⟨s.g3,0,none⟩) n n,.slice s.a4 nt s.c4],.int .i64 0])) V' := by
 subst hV;subst hn;subst Z;have b8:Below w.heap.size w M:=J.trans (I.bel.mono J.size);refine⟨s.wa E.fs.length,?_,((((b8.setCell F _).setCell F _).setCell F _).setCell F _).setCell F _,by rw[U];exact I.wlC,?_⟩
 ·rw[U,hE];dsimp only[wlV,SD.wa];rw[I.rt.lr,I.rt.lp,I.rt.lq]
 ·rw[U];exact((I.wlX.less (fun b J=>.inl J)).off (znp T M u0 u1 u2 u3 u4)).less (fun b h=>yz (hX b h) J.size)
theorem zxj(X:Nat->Prop)(A:WA)(W:Wl)(k:Int)(st:Bool)(w:World)(hX:∀ b,X b->b<w.heap.size)(hB:zpi W)(hC:WlC A W)(hW:ziv X w A W):yM 13 #[wlV A W,.agg #[.int .i64 k,.bool st]] w (znN X w W k st):=by
 obtain⟨a0,a1,a2,a3,a4,c0,c1,c2,c3,c4⟩:=A;have b0:Hid (zeY w ⟨a0,a1,a2,a3,a4,c0,c1,c2,c3,c4⟩ W):=hW.at;have D0:Hid (∀ V,Below w.heap.size w V->Calls _ _ _ _ _):=fun V hV=>zlc ⟨a0,a1,a2,a3,a4,c0,c1,c2,c3,c4⟩ W V hB hC (b0.out.below hV);have D1:Hid (zao W->∀ V,Below w.heap.size w V->Calls _ _ _ _ _):=fun H V hV=>zlr ⟨a0,a1,a2,a3,a4,c0,c1,c2,c3,c4⟩ W k st V H (b0.out.below hV);have D2:Hid (zao W->∀ V,Below w.heap.size w V->Calls _ _ _ _ _):=fun H V hV=>zgL ⟨a0,a1,a2,a3,a4,c0,c1,c2,c3,c4⟩ W V H (b0.out.below hV);have PE:Hid (zbH W=0->_):=fun h=>zuo (W:=W) (k:=k) (st:=st) h;have PN:Hid (zbH W≠0->zfb W k st=zbH W):=fun h=>ya h;have e5:Hid _:=hX;clear hX hW hB hC;dsimp only[wlV] at D0 D1 D2 |-;generalize zan [zaz W.fs k,if bits .and .i64 (zjo W k.toNat) 1=0 then 7 else 0,if 4760<(rlm W k.toNat).t.length then 1 else 0,if st=false/\(que W k.toNat).length=0 then 8 else 0]=E1 at *;obtain⟨E0,F⟩:∃ E,zbH W=E:=⟨_,rfl⟩;have d7:Hid (zbH W=E0):=F;rw[F] at D0 PE PN;clear F;obtain⟨D,J⟩:∃ n,W.fs.length=n:=⟨_,rfl⟩;obtain⟨n1,b4⟩:∃ n,W.rs.length=n:=⟨_,rfl⟩;obtain⟨n2,b5⟩:∃ n,W.ps.length=n:=⟨_,rfl⟩;obtain⟨n3,b6⟩:∃ n,W.qs.length=n:=⟨_,rfl⟩;obtain⟨n4,b7⟩:∃ n,W.pt.length=n:=⟨_,rfl⟩;have a5:Hid (W.fs.length=D):=J;have g4:Hid (W.pt.length=n4):=b7;have c6:Hid (zao W->D=n1/\D=n2/\D=n3):=fun H=>⟨by rw[<- b4,H.lr,J],by rw[<- b5,H.lp,J],by rw[<- b6,H.lq,J]⟩;rw[J,b4,b5,b6,b7] at D0 D1 D2 |-;clear J b4 b5 b6 b7
 go_enter Tryz.func13,Tryz.ntmps13
 go_wp2_with fail
 obtain⟨V1,I⟩:∃ V1,((w.alloc (.cells #[.slice a0 D c0,.slice a1 n1 c1,.slice a2 n2 c2,.slice a3 n3 c3,.slice a4 n4 c4] 28)).alloc (.cells #[.int .i64 k,.bool st] 40)).alloc (.cells #[.slice none 0 0,.slice none 0 0,.slice none 0 0,.slice none 0 0,.slice none 0 0] 28)=V1:=⟨_,rfl⟩;have BV:Hid (Below w.heap.size w V1):=by rw[<- I];exact((zaa _ _).trans ((zaa _ _).mono (by simp))).trans ((zaa _ _).mono (by simp;omega))
 have X1:Hid (V1.heap[w.heap.size]?=some (.cells #[.slice a0 D c0,.slice a1 n1 c1,.slice a2 n2 c2,.slice a3 n3 c3,.slice a4 n4 c4] 28 (0,0))):=by
  rw[<- I];exact zaA (zaA (yL w _) (zaa _ _)) (zaa _ _)
 have X2:Hid (V1.heap[w.heap.size+1]?=some (.cells #[.int .i64 k,.bool st] 40 (0,0))):=by
  rw[<- I];have h:=zaA (yL (w.alloc (.cells #[.slice a0 D c0,.slice a1 n1 c1,.slice a2 n2 c2,.slice a3 n3 c3,.slice a4 n4 c4] 28)) (.cells #[.int .i64 k,.bool st] 40)) (zaa _ (.cells #[.slice none 0 0,.slice none 0 0,.slice none 0 0,.slice none 0 0,.slice none 0 0] 28));rw[yr] at h;exact h
 have X3:Hid (V1.heap[w.heap.size+2]?=some (.cells #[.slice none 0 0,.slice none 0 0,.slice none 0 0,.slice none 0 0,.slice none 0 0] 28 (0,0))):=by
  rw[<- I];have h:=yL ((w.alloc (.cells #[.slice a0 D c0,.slice a1 n1 c1,.slice a2 n2 c2,.slice a3 n3 c3,.slice a4 n4 c4] 28)).alloc (.cells #[.int .i64 k,.bool st] 40)) (.cells #[.slice none 0 0,.slice none 0 0,.slice none 0 0,.slice none 0 0,.slice none 0 0] 28);rw[yr,yr] at h;exact h
 rw[I];clear I;refine ye (D0.out V1 BV.out) ?_;rintro e V2 ⟨rfl,hb⟩;have B2:Hid (Below V1.heap.size V1 V2):=hb;have Z:Hid (Below w.heap.size w V2):=BV.out.trans (hb.mono BV.out.size);clear hb D0;have Y1:Hid _:=zaA X1.out B2.out;have Y2:Hid _:=zaA X2.out B2.out;have Y3:Hid _:=zaA X3.out B2.out;clear X1 X2 X3;obtain⟨q0,q1,q2,q3,q4,qf,ql⟩:=zal Y1.out;obtain⟨z0,z1,z2,z3,z4,zf,zl⟩:=zal Y3.out;obtain⟨p0,p1,pl⟩:=zbi Y2.out;by_cases F:E0=0
 ·subst F;have HR:Hid (zao W):=zdA.1 d7.out;have PK:Hid (zfb W k st=E1):=PE.out rfl;have b9:Hid _:=D1.out HR.out V2 Z.out;clear PE PN D1
  go_wp2_with fail
  refine ye b9.out ?_;rintro e M ⟨rfl,hb⟩;have B3:Hid (Below V2.heap.size V2 M):=hb;have a7:Hid (Below w.heap.size w M):=Z.out.trans (hb.mono Z.out.size);clear hb b9 q0 q1 q2 q3 q4 qf ql z0 z1 z2 z3 z4 zf zl p0 p1 pl;have e6:Hid _:=zaA Y1.out B3.out;have O:Hid _:=zaA Y2.out B3.out;have a6:Hid _:=zaA Y3.out B3.out;clear Y1 Y2 Y3;obtain⟨q0,q1,q2,q3,q4,qf,ql⟩:=zal e6.out;obtain⟨z0,z1,z2,z3,z4,zf,zl⟩:=zal a6.out;obtain⟨p0,p1,pl⟩:=zbi O.out;by_cases a9:E1=0
  ·subst a9;obtain⟨_,me,hk,b2,_,_,c9,hq⟩:=zhM PK.out;subst hk;have a8:Hid (me<W.fs.length):=b2;have d8:Hid _:=c9;have HQ:Hid _:=hq;have e8:me<D:=(by rw[<- a5.out];exact b2);have g8:D<=8:=(by rw[<- a5.out];exact HR.out.fs.few);obtain⟨e1,e2,e3⟩:=c6.out HR.out;subst e1;subst e2;subst e3;have D3:Hid _:=D2.out HR.out M a7.out;clear b2 c9 hq c6 D2
   go_wp2_with fail
   refine ye D3.out ?_;rintro e V4 ⟨s,rfl,b1,d5,_,d6⟩;have e4:Hid _:=d5;have I5:Hid _:=d6 me e8;have B4:Hid (Below M.heap.size M V4):=b1;have s4:=b1.size;clear d5 d6 b1 D3 q0 q1 q2 q3 q4 qf ql z0 z1 z2 z3 z4 zf zl p0 p1 pl;dsimp only[wlV,SD.wa]
   go_upto_region 8 with fail
   obtain⟨d,hd⟩:∃ d,V4.heap.size=d:=⟨_,rfl⟩;obtain⟨V5,T⟩:∃ V5,V4.alloc (.cells #[.slice s.a0 D s.c0,.slice (some ⟨s.g1,0,none⟩) D D,.slice (some ⟨s.g2,0,none⟩) D D,.slice (some ⟨s.g3,0,none⟩) D D,.slice s.a4 n4 s.c4] 28)=V5:=⟨_,rfl⟩;have B5:Hid (Below M.heap.size M V5):=(by rw[<- T];exact B4.out.trans ((zaa _ _).mono B4.out.size));rw[hd,T] at I5;have g5:d<V5.heap.size:=(by rw[<- T,<- hd];simp);have g6:M.heap.size<=d:=(by omega);rw[T];rw[hd];clear T hd;have Z2:Hid _:=zaA O.out B5.out;obtain⟨l0,l1,l2,l3,l4,lf,ll⟩:=zal I5.out.box;rw[a5.out] at l1;obtain⟨p0,p1,pl⟩:=zbi Z2.out;have e9:(me:Int)<(D:Int):=(by omega);obtain⟨j0,j1,j2,j3,jf,jl⟩:=I5.out.rcells a8.out;obtain⟨gl,c8⟩:∃ g,(if st then [] else ((que W me).getD 0 ⟨0,[]⟩).g).length=g:=⟨_,rfl⟩;have DT:Hid (∀ V,Below V5.heap.size V5 V->Calls _ _ _ _ _):=fun V hV=>take2 me W st _ d s V (I5.out.below hV) (e4.out me) HQ.out a5.out c8;have g7:M.heap.size<=s.g1:=I5.out.ap.g1;have d4:w.heap.size+1<M.heap.size:=zaw O.out;have ng:¬ w.heap.size+1=s.g1:=(by omega);have h6:¬ s.g1=w.heap.size+1:=(by omega);have nd:¬ d=s.g1:=I5.out.ap.d1;have g9:¬ s.g1=d:=fun e=>nd e.symm;clear l0 l2 l3 l4 j0 j1 j2 j3 lf ll jf c8
   go_region_held3 (fun b8=>b8.cell? ⟨d,1,none⟩=some (.slice (some ⟨s.g1,0,none⟩) D D)/\b8.cell? ⟨w.heap.size+1,0,none⟩=some (.int .i64 (me:Int))/\b8.cell? ⟨w.heap.size+1,1,none⟩=some (.bool st)) (go_keep) (first|(go_at_call 40;refine ye (DT.out V5.drew (yk _ _).drew) ?_;rintro e V6 ⟨ga,gc,s7,v6,rfl,B6,k1,k2,kf,kl,kd,I7⟩;have Z6:Hid (V6.heap[w.heap.size+1]?=some (.cells #[.int .i64 (me:Int),.bool st] 40 (0,0))):=(B6.out.block _ d4).trans O.out;obtain⟨t0,t1,tl⟩:=zbi Z6.out))
   clear k1 k2 kf kl kd p0 p1 pl l1 jl DT I5 Z6 Z2 t0 t1 tl;obtain⟨V7,c7⟩:∃ V7,V6.setCell ⟨s.g1,me*4+2,none⟩ (.slice ga gl gc)=V7:=⟨_,rfl⟩;rw[c7] at I7 |-;clear c7;have Z7:Hid (V7.heap[w.heap.size+1]?=some (.cells #[.int .i64 (me:Int),.bool st] 40 (0,0))):=(I7.out.bel.block _ d4).trans O.out;obtain⟨t0,t1,tl⟩:=zbi Z7.out
   have DR:Hid _:=zyV me (zcn W me st) _ d s7 V7 I7.out (by
    rw[zhs (by rw[HR.out.lr];exact a8.out)];have h1:prg (zcn W me st) me=prg W me:=(by unfold prg;rw[zmo]);rw[h1];have h2:=HR.out.ps me a8.out;have h3:=d8.out;show (rlm W me).t.length + _<=_
    omega)
   have PW:Hid (zfc W me st=(prg (zcn W me st) me).foldl (doW me) (zcn W me st)):=by
    have h1:prg (zcn W me st) me=prg W me:=(by unfold prg;rw[zmo]);show _=_;unfold zfc;rw[yb PK.out,yi,h1]
   go_wp2_with fail
   refine ye DR.out ?_;rintro e V8 ⟨rfl,s8,U⟩;rw[<- PW.out] at U;have I8:Hid _:=U;have Z8:Hid (V8.heap[w.heap.size+2]?=some (.cells #[.slice none 0 0,.slice none 0 0,.slice none 0 0,.slice none 0 0,.slice none 0 0] 28 (0,0))):=(U.bel.block _ (zaw a6.out)).trans a6.out;obtain⟨z0,z1,z2,z3,z4,zf,zl⟩:=zal Z8.out;obtain⟨l0,l1,l2,l3,l4,lf,ll⟩:=zal U.box;have e7:w.heap.size+2<M.heap.size:=zaw a6.out;have h4:¬ d=w.heap.size+2:=(by omega);have g0:¬ w.heap.size+2=d:=(by omega);clear U DR I7 t0 t1 tl;obtain⟨m,hm⟩:∃ m,(zfc W me st).fs.length=m:=⟨_,rfl⟩;obtain⟨mt,b3⟩:∃ m,(zfc W me st).pt.length=m:=⟨_,rfl⟩;have d9:Hid (_=m):=hm;have e0:Hid (_=mt):=b3;rw[hm] at l0 l1 l2 l3;rw[b3] at l4;clear hm b3 PW
   go_wp2
   exact yw (v:=.tuple #[.agg #[.slice s8.a0 m s8.c0,.slice (some ⟨s8.g1,0,none⟩) m m,.slice (some ⟨s8.g2,0,none⟩) m m,.slice (some ⟨s8.g3,0,none⟩) m m,.slice s8.a4 mt s8.c4],.int .i64 0]) (by simp[results,Tryz.results13,go_sem,z0,z1,z2,z3,z4]) rfl (step_end e5.out a7.out I8.out PK.out rfl (by omega) e7 d9.out e0.out _ _ _ _ _ rfl)
  ·have hz:(E1 == 0)=false:=by simp[a9]
   go_wp2
   exact yw (v:=.tuple #[.agg #[.slice none 0 0,.slice none 0 0,.slice none 0 0,.slice none 0 0,.slice none 0 0],.int .i64 E1]) (by simp[results,Tryz.results13,go_sem,z0,z1,z2,z3,z4]) rfl (znN.no PK.out a9 (((((a7.out.setCell (by show w.heap.size<=w.heap.size+2;omega) _).setCell (by show w.heap.size<=w.heap.size+2;omega) _).setCell (by show w.heap.size<=w.heap.size+2;omega) _).setCell (by show w.heap.size<=w.heap.size+2;omega) _).setCell (by show w.heap.size<=w.heap.size+2;omega) _))
 ·have hz:(E0 == 0)=false:=by simp[F]
  have PK:Hid (zfb W k st=E0):=PN.out F;clear PE PN D1 D2
  go_wp2
  exact yw (v:=.tuple #[.agg #[.slice none 0 0,.slice none 0 0,.slice none 0 0,.slice none 0 0,.slice none 0 0],.int .i64 E0]) (by simp[results,Tryz.results13,go_sem,z0,z1,z2,z3,z4]) rfl (znN.no PK.out F (((((Z.out.setCell (by show w.heap.size<=w.heap.size+2;omega) _).setCell (by show w.heap.size<=w.heap.size+2;omega) _).setCell (by show w.heap.size<=w.heap.size+2;omega) _).setCell (by show w.heap.size<=w.heap.size+2;omega) _).setCell (by show w.heap.size<=w.heap.size+2;omega) _))
end Go.Proofs.YtcbcpomacdngmaaGreat
