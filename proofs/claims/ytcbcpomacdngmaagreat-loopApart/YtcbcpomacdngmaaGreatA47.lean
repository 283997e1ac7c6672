/-
  x
-/
import Derived.Test.YtcbcpomacdngmaaGreatA46
namespace Go.Proofs.YtcbcpomacdngmaaGreat
set_option maxRecDepth 100000
set_option maxHeartbeats 4000000
set_option linter.unusedVariables false
open Go.RowKit Go.ChangeShapes Go.WideShapes Tryz
variable{W:Wl}{me d n b:Nat}{V w:Wd}{X:Nat->Prop}{k:Int}{w':World}
theorem Ae{u0:Value}(c0:w.cell? ⟨b,0,none⟩=some u0):∀ j u,([u0]:List Value)[j]?=some u->w.cell? ((⟨b,0,none⟩:Addr).add j)=some u:=fun j u D=>by
 rw[Addr.add_lit,yD]
 match j,D with
 | 0,D=>cases D;exact c0
def Zd(D:W0)(d me:Nat)(W:Wl)(e:Ending)(V:Wd):Prop:=e=.returned (.tuple #[])/\∃ s,SW D d me W s V
theorem Ze{pl:List Ac}{i:Nat}(h:i<pl.length):(pl.take (i+1)).foldl (doW me) W=doW me ((pl.take i).foldl (doW me) W) (ac pl i):=by
 rw[List.take_succ_eq_append_getElem h,List.foldl_append];show doW me _ _=_;unfold ac;rw[aJ _ _ h]
theorem SW.tellv{D:W0}{s:SD}(I:SW D d me W s V){v:Value}{o:Int}(J:(rlm W me).t.length+1<=4800)(hv:v=.int .i64 o) :
  (App (SX D.heap.size d s) D.heap.size 3 1 (s.R me).a3 (rlm W me).t.length (s.R me).c3 ((rlm W me).t.map (Value.int .i64)) s.t V)/\(∀ j,s.t=some j->j≠d/\j≠s.g1) /\
  ∀ E g cap,V.grownBy E s.t->E.ownsRow D.heap.size 3 1 (.slice (some ⟨g,0,none⟩) ((rlm W me).t.length+1) cap) ((rlm W me).t.length+1) ((rlm W me).t.map (Value.int .i64)++[v])->(s.t=some g\/V.heap.size<=g)->∃ M,SW D d me (mZ W me o) M (E.setCell ⟨s.g1,me*4+3,none⟩ (.slice (some ⟨g,0,none⟩) ((rlm W me).t.length+1) cap)):=by
 subst hv;refine⟨I.dp.ts,fun j h=>⟨(I.ap.tt j h).1,(I.ap.tt j h).2.1⟩,fun E g cap hg F hl=>⟨_,I.told hg F hl ?_ rfl⟩⟩;have H:=WE I.rt I.sf o J;have h:=H.rs me (by show me<W.fs.length;exact I.sf);rw[MH (by rw[I.rt.lr];exact I.sf)] at h;exact h
theorem Zf(me:Nat)(W:Wl)(w0:W0)(d:Nat)(s:SD)(V:Wd)(I:SW w0 d me W s V)(ht:(rlm W me).t.length+(prg W me).length<=4800):yO 41 #[.pointer (some ⟨d,0,none⟩),.int .i64 (me:Int)] V (Zd w0 d me ((prg W me).foldl (doW me) W)):=by
 have I0:Hid _:=I.ghost (I.dp.pr me I.sf);obtain⟨l0,l1,l2,l3,l4,lf,ll⟩:=bH I.box;have p2:V.cell? ⟨s.g2,me,none⟩=some (.slice (s.P me).1 (prg W me).length (s.P me).2):=I.r2.cell I.sf;have n8:W.fs.length<=8:=I.rt.fs.few;have g8:me<W.fs.length:=I.sf;have hp:(prg W me).length<=40:=I.rt.ps me I.sf
 have HF:Hid (∀ i,i<=(prg W me).length->(rlm (((prg W me).take i).foldl (doW me) W) me).t.length=(rlm W me).t.length+i):=fun i hi=>by
  have h:=(MJ ((prg W me).take i) I.rt I.sf (by rw[List.length_take];omega)).2.2;rw[h,List.length_take];omega
 have HT:Hid _:=ht;obtain⟨pl,e0⟩:∃ p,prg W me=p:=⟨_,rfl⟩;rw[e0] at I0 p2 HF HT hp |-;obtain⟨N,hN⟩:∃ N,pl.length=N:=⟨_,rfl⟩;have HN:Hid (pl.length=N):=hN;rw[hN] at p2 HF HT hp;generalize s.P me=Pm at *;obtain⟨pa,pc⟩:=Pm;dsimp only at p2 I0;have b9:Hid (pl.take N=pl):=by rw[<- hN];exact List.take_length
 have g5:(me:Int)<(W.fs.length:Int):=oaa
 clear ht hN e0 l0 l1 l3 l4 I;generalize W.fs.length=n0 at *
 go_enter func41,ntmps41
 go_wp2_with fail
 go_loopg [16] N (fun g s16 wr=>∃ (i:Nat) (si:SD),i<=N/\N-i<=g/\s16=.int .i64 i/\Hid (SW ⟨w0.w,fun V=>w0.P V/\dY V pa pl⟩ d me ((pl.take i).foldl (doW me) W) si wr))
 case atStart=>exact⟨0,s,oaa,oaa,rfl,I0.out⟩
 case round =>
  obtain⟨i,si,hi,hg,rfl,HI⟩:=hrel;clear I0 l2 p2 ll lf;by_cases d7:i<N
  ·have d8:(i:Int)<(N:Int):=oaa;obtain⟨pb,po,e5,x0,x1,x2,x3,x4⟩:=HI.drop.2 i (by rw[HN.out];exact d7);subst e5;have TL:Hid _:=HF.out i oaa;have NX:Hid (_=_):=Ze (me:=me) (W:=W) (pl:=pl) (i:=i) (by rw[HN.out];exact d7);obtain⟨X,hX⟩:∃ X,ac pl i=X:=⟨_,rfl⟩;rw[hX] at x0 x1 x2 x3 x4 NX;clear hX;obtain⟨Wi,c8⟩:∃ Wi,(pl.take i).foldl (doW me) W=Wi:=⟨_,rfl⟩;rw[c8] at HI TL NX;clear c8;obtain⟨xk,xa,xb,xc,xn⟩:=X;dsimp only at x0 x1 x2 x3 x4;have e1:=HI.lt;have e3:Hid _:=e1;have HR:Hid (aI Wi):=HI.rt;have HM:Hid (me<Wi.fs.length):=HI.sf;have DO:Hid (∀ V,Calls _ _ _ _ _):=fun V=>Yx me Wi ⟨xk,xa,xb,xc,xn⟩ V HR.out HM.out;have b1:Hid _:=Zc HR.out HM.out ⟨xk,xa,xb,xc,xn⟩;have QD:Hid (doW me Wi ⟨xk,xa,xb,xc,xn⟩=mZ (bD Wi me ⟨xk,xa,xb,xc,xn⟩).w me (toldOf (bD Wi me ⟨xk,xa,xb,xc,xn⟩))):=rfl;have QT:Hid _:=MF HR.out HM.out ⟨xk,xa,xb,xc,xn⟩;unfold oF at DO;obtain⟨q,hq⟩:∃ q,bD Wi me ⟨xk,xa,xb,xc,xn⟩=q:=⟨_,rfl⟩;rw[hq] at b1 QD QT DO;clear hq e1;obtain⟨qe,O,qo⟩:=q;dsimp only at b1 QD QT
   go_upto_region 3 with fail
   obtain⟨V1,b2⟩:∃ V1,wr.alloc (.cells #[.int .i64 xk,.int .i64 xa,.int .i64 xb,.int .i64 xc,.int .i64 xn] 36)=V1:=⟨_,rfl⟩;have BV:Hid (Bl wr V1):=(by rw[<- b2];exact aB _ _);have YB:Hid (V1.heap[wr.heap.size]?=some (.cells #[.int .i64 xk,.int .i64 xa,.int .i64 xb,.int .i64 xc,.int .i64 xn] 36 (0,0))):=(by rw[<- b2];exact yN _ _);rw[b2];clear b2;obtain⟨y0,y1,y2,y3,y4,yf,yl⟩:=bH YB.out;have I1:Hid (SW ⟨w0.w,fun V=>(w0.P V/\dY V (some ⟨pb,po,none⟩) pl)/\V.heap[wr.heap.size]?=some (.cells #[.int .i64 xk,.int .i64 xa,.int .i64 xb,.int .i64 xc,.int .i64 xn] 36 (0,0))⟩ d me Wi si V1):=(HI.below BV).ghost (fun V' ho=>(ho.block _ yl (fun h=>by have:=e3.out _ h;omega)).trans YB)
   go_region_held3 (fun M=>M.cell? ⟨wr.heap.size,0,none⟩=some (.int .i64 xk)/\M.cell? ⟨wr.heap.size,1,none⟩=some (.int .i64 xa)/\M.cell? ⟨wr.heap.size,2,none⟩=some (.int .i64 xb)/\M.cell? ⟨wr.heap.size,3,none⟩=some (.int .i64 xc)/\M.cell? ⟨wr.heap.size,4,none⟩=some (.int .i64 xn)) (go_keep) (first|(go_at_call 79;refine yj (DO V1.drew) ?_;rintro e w3 ⟨K,c7,C,rfl,c9,d5,d9,g7,d6⟩;have B3:Hid (Bl V1 w3):=(yv _ _).drew.trans c9;have C3:Hid (C w3):=d5;have LD:Hid (lV K c7 C me Wi ⟨xk,xa,xb,xc,xn⟩ ⟨qe,O,qo⟩):=d6;have I3:Hid _:=I1.below B3;have e6:=aA y0 B3;have e7:=aA y1 B3;have e8:=aA y2 B3;have e9:=aA y3 B3;have g0:=aA y4 B3;clear c9 d5 d9 d6)|(go_at_fn K;refine yj (LD _ d si w3 I3.out C3.out) ?_;rintro e F ⟨o,s4,rfl,ho,b5⟩;have HO:Hid _:=ho;have I4:Hid _:=b5.drop.1;obtain⟨u0,u1,u2,u3,u4,uf,ul⟩:=bH b5.drop.2;clear ho b5))
   clear y0 y1 y2 y3 y4 e6 e7 e8 e9 g0 u0 u1 u2 u3 u4 yf yl uf ul x0 x1 x2 x3 x4 DO LD C3 I1 I3 HI YB;have e2:(rlm O me).t.length+1<=4800:=(by rw[QT.out,TL.out];have:=HT.out;omega);have c6:Hid _:=b1.out;obtain⟨d0,c1,d2,d3,d4,df,dl⟩:=bH I4.box;obtain⟨k0,k1,k2,ct,kf,kl⟩:=I4.rcells I4.sf;obtain⟨n,hn⟩:∃ n,O.fs.length=n:=⟨_,rfl⟩;rw[hn] at c1;have g9:me<n:=(by rw[<- hn];exact I4.sf);have h3:n<=8:=(by rw[<- hn];exact I4.rt.fs.few);have g6:(me:Int)<(n:Int):=oaa;clear d0 d2 d3 d4 k0 k1 k2 hn;have TB:Hid ((rlm O me).t.length<=4800):=by show _<=_;omega
   have a5:Hid (∀ E:Int,E=toldOf ⟨qe,O,qo⟩->(App (SX w0.heap.size d s4) w0.heap.size 3 1 (s4.R me).a3 (rlm O me).t.length (s4.R me).c3 ((rlm O me).t.map (Value.int .i64)) s4.t (F.drew.alloc (.cells #[.int .i64 E] 3)))/\(∀ j,s4.t=some j->j≠d/\j≠s4.g1)/\(∀ w9,(F.drew.alloc (.cells #[.int .i64 E] 3)).grownBy w9 s4.t->w9.frozen? ⟨s4.g1,me*4+3,none⟩=false)/\(w0.heap.size<=(F.drew.alloc (.cells #[.int .i64 E] 3)).heap.size)/\∀ V1 g cap,(F.drew.alloc (.cells #[.int .i64 E] 3)).grownBy V1 s4.t->V1.ownsRow w0.heap.size 3 1 (.slice (some ⟨g,0,none⟩) ((rlm O me).t.length+1) cap) ((rlm O me).t.length+1) ((rlm O me).t.map (Value.int .i64)++[.int .i64 E])->(s4.t=some g\/(F.drew.alloc (.cells #[.int .i64 E] 3)).heap.size<=g)->∃ s', SW ⟨w0.w,fun V=>w0.P V/\dY V (some ⟨pb,po,none⟩) pl⟩ d me ((pl.take (i+1)).foldl (doW me) W) s' (V1.setCell ⟨s4.g1,me*4+3,none⟩ (.slice (some ⟨g,0,none⟩) ((rlm O me).t.length+1) cap))):=fun E T=>by
    have I5:=I4.below ((yv F.heap.size F).drew.alloc (yr _) (.cells #[.int .i64 E] 3));have h:=I5.tellv (v:=.int .i64 E) (o:=E) e2 rfl;refine⟨h.1,h.2.1,fun w9 hg=>(yF (hg.block s4.g1 I5.r1.lt (fun e=>(h.2.1 s4.g1 e.symm).2 rfl))).trans (I5.r1.frozen _),I5.bel.size,fun V1 g cap a b c=>?_⟩;rw[NX.out,QD.out,<- T];exact h.2.2 V1 g cap a b c
   clear e2 I4 QD NX QT b1;by_cases hE:qe=0
   ·subst hE;obtain rfl:=HO.out rfl;have FA:=a5.out o (show o=toldOf ⟨0,O,o⟩ from rfl);obtain⟨fa,nt,fz,a8,a7⟩:=FA;have HA:Hid _:=fa;have FZ:Hid _:=fz;have Z:Hid _:=a7;clear fa fz a7 a5 HO;generalize (rlm O me).t.map (Value.int .i64)=ts at *;have e4:(rlm O me).t.length<=4800:=TB.out;generalize (rlm O me).t.length=tl at *;generalize s4.t=tt at *;generalize s4.g1=g1 at *;generalize (s4.R me).a3=ta at *;generalize (s4.R me).c3=tc at *;obtain⟨E,T⟩:∃ E,E=o:=⟨_,rfl⟩;rw[<- T] at HA FZ Z a8 |-;clear T
    go_wp2_with fail
    obtain⟨i0,b4,b6,b7,b8⟩:=info_parts CX;refine wp_region_noPanic ?_;refine FV (S:=fun M=>M.cell? ⟨d,1,none⟩=some (.slice (some ⟨g1,0,none⟩) n n)/\M.cell? ⟨g1,me*4+3,none⟩=some (.slice ta tl tc)) 18 oad (by(try dsimp only);go_keep) (fun hHeld=>?_);refine aY (i:=0) ?_;simp[Act.put];refine aY (i:=1) ?_;simp[Act.put];refine aY (i:=2) ?_;simp[Act.put];refine aY (i:=3) ?_;simp[Act.put];refine aY (i:=4) ?_;simp[Act.put];refine aY (i:=5) ?_;simp[Act.put];refine aY (i:=6) ?_;simp[Act.put];refine aY (i:=7) ?_;simp[Act.put];refine aY (i:=8) ?_;simp[Act.put];refine aY (i:=9) ?_;simp[Act.put];refine aY (i:=10) ?_;simp[Act.put];refine aY (i:=11) ?_;simp[Act.put];refine aY (i:=12) ?_;simp[Act.put];refine aY (i:=13) ?_;simp[Act.put];refine nJ (i:=14) oad rfl (fun K hK=>?_);go_simp;refine hK.out _ _ ?_ (fun hHeld=>?_)
    ·exact⟨aA c1 ((yv F.heap.size F).drew.alloc (yr _) (.cells #[.int .i64 E] 3)),aA ct ((yv F.heap.size F).drew.alloc (yr _) (.cells #[.int .i64 E] 3))⟩
    clear hK K hHeld
    try simp[Act.put]
    refine nJ (i:=15) oad rfl (fun K hK=>?_);refine OG (F.drew.alloc (.cells #[.int .i64 E] 3)) rfl (.tmp 46) (.tmp 48) 48 rfl 3 i0 (.int .i64 0) 1 8 underlying48 b4 b6 b7 b8 rfl oae ta tl tc ts tt HA.out a8 rfl ⟨F.heap.size,0,none⟩ 1 1 [.int .i64 E] rfl rfl (Ae (aK F.drew _ _ 0 rfl)) (by intro u hu;simp at hu;subst hu;rfl) oae oai oaa ?_;intro g cap w9 U D J g4;have t1:w9.cell? ⟨d,1,none⟩=some (.slice (some ⟨g1,0,none⟩) n n):=D.cell (a:=⟨d,1,none⟩) (aA c1 ((yv F.heap.size F).drew.alloc (yr _) (.cells #[.int .i64 E] 3))) (fun e=>(nt d e.symm).1 rfl);have b0:w9.cell? ⟨g1,me*4+3,none⟩=some (.slice ta tl tc):=D.cell (a:=⟨g1,me*4+3,none⟩) (aA ct ((yv F.heap.size F).drew.alloc (yr _) (.cells #[.int .i64 E] 3))) (fun e=>(nt g1 e.symm).2 rfl);have f9:w9.frozen? ⟨g1,me*4+3,none⟩=false:=FZ.out w9 D;have a6:Hid _:=Z.out w9 g cap D U J;refine hK.out _ _ ?_ (fun hHeld=>?_)
    ·exact⟨t1,b0⟩
    clear hK K U D J Z FZ
    try simp[Act.put]
    clear hHeld;refine nJ (i:=16) oad rfl (fun K hK=>?_);go_simp;refine hK.out _ _ ?_ (fun hHeld=>?_)
    ·(try dsimp only)
     exact⟨t1,b0⟩
    clear hK K
    try simp[Act.put]
    refine aY (i:=17) ?_;simp[Act.put];clear hHeld;refine FP oad rfl (fun K hK=>?_);go_simp;refine hK.out _ _ ?_;clear hK K
    try simp[Act.put]
    refine FQ oad ?_ _;refine NoPanic.normal ?_;obtain⟨s9,a9⟩:=a6.out;have b3:Hid _:=a9;clear a9 a6
    go_wp2_with fail
    go_roundg (N-(i+1))
    case measure=>omega
    case rel=>exact⟨i+1,s9,oaa,oaa,by go_num,b3.out⟩
   ·have hz:(qe == 0)=false:=(by simp[hE]);have FA:=a5.out (-qe) (show -qe=toldOf ⟨qe,O,qo⟩ from (yd hE).symm);obtain⟨fa,nt,fz,a8,a7⟩:=FA;have HA:Hid _:=fa;have FZ:Hid _:=fz;have Z:Hid _:=a7;clear fa fz a7 a5 HO;generalize (rlm O me).t.map (Value.int .i64)=ts at *;have e4:(rlm O me).t.length<=4800:=TB.out;generalize (rlm O me).t.length=tl at *;generalize s4.t=tt at *;generalize s4.g1=g1 at *;generalize (s4.R me).a3=ta at *;generalize (s4.R me).c3=tc at *;obtain⟨E,T⟩:∃ E,E = -qe:=⟨_,rfl⟩;rw[<- T] at HA FZ Z a8;have hw:IntKind.i64.wrap (-qe) = -qe:=by have h1:=c6.out.1;have h2:=c6.out.2;rw[yK];omega
    go_wp2_with fail
    rw[<- T];clear T hw;obtain⟨i0,b4,b6,b7,b8⟩:=info_parts CX;refine wp_region_noPanic ?_;refine FV (S:=fun M=>M.cell? ⟨d,1,none⟩=some (.slice (some ⟨g1,0,none⟩) n n)/\M.cell? ⟨g1,me*4+3,none⟩=some (.slice ta tl tc)) 18 oad (by(try dsimp only);go_keep) (fun hHeld=>?_);refine aY (i:=0) ?_;simp[Act.put];refine aY (i:=1) ?_;simp[Act.put];refine aY (i:=2) ?_;simp[Act.put];refine aY (i:=3) ?_;simp[Act.put];refine aY (i:=4) ?_;simp[Act.put];refine aY (i:=5) ?_;simp[Act.put];refine aY (i:=6) ?_;simp[Act.put];refine aY (i:=7) ?_;simp[Act.put];refine aY (i:=8) ?_;simp[Act.put];refine aY (i:=9) ?_;simp[Act.put];refine aY (i:=10) ?_;simp[Act.put];refine aY (i:=11) ?_;simp[Act.put];refine aY (i:=12) ?_;simp[Act.put];refine aY (i:=13) ?_;simp[Act.put];refine nJ (i:=14) oad rfl (fun K hK=>?_);go_simp;refine hK.out _ _ ?_ (fun hHeld=>?_)
    ·exact⟨aA c1 ((yv F.heap.size F).drew.alloc (yr _) (.cells #[.int .i64 E] 3)),aA ct ((yv F.heap.size F).drew.alloc (yr _) (.cells #[.int .i64 E] 3))⟩
    clear hK K hHeld
    try simp[Act.put]
    refine nJ (i:=15) oad rfl (fun K hK=>?_);refine OG (F.drew.alloc (.cells #[.int .i64 E] 3)) rfl (.tmp 46) (.tmp 48) 48 rfl 3 i0 (.int .i64 0) 1 8 underlying48 b4 b6 b7 b8 rfl oae ta tl tc ts tt HA.out a8 rfl ⟨F.heap.size,0,none⟩ 1 1 [.int .i64 E] rfl rfl (Ae (aK F.drew _ _ 0 rfl)) (by intro u hu;simp at hu;subst hu;rfl) oae oai oaa ?_;intro g cap w9 U D J g4;have t1:w9.cell? ⟨d,1,none⟩=some (.slice (some ⟨g1,0,none⟩) n n):=D.cell (a:=⟨d,1,none⟩) (aA c1 ((yv F.heap.size F).drew.alloc (yr _) (.cells #[.int .i64 E] 3))) (fun e=>(nt d e.symm).1 rfl);have b0:w9.cell? ⟨g1,me*4+3,none⟩=some (.slice ta tl tc):=D.cell (a:=⟨g1,me*4+3,none⟩) (aA ct ((yv F.heap.size F).drew.alloc (yr _) (.cells #[.int .i64 E] 3))) (fun e=>(nt g1 e.symm).2 rfl);have f9:w9.frozen? ⟨g1,me*4+3,none⟩=false:=FZ.out w9 D;have a6:Hid _:=Z.out w9 g cap D U J;refine hK.out _ _ ?_ (fun hHeld=>?_)
    ·exact⟨t1,b0⟩
    clear hK K U D J Z FZ
    try simp[Act.put]
    clear hHeld;refine nJ (i:=16) oad rfl (fun K hK=>?_);go_simp;refine hK.out _ _ ?_ (fun hHeld=>?_)
    ·(try dsimp only)
     exact⟨t1,b0⟩
    clear hK K
    try simp[Act.put]
    refine aY (i:=17) ?_;simp[Act.put];clear hHeld;refine FP oad rfl (fun K hK=>?_);go_simp;refine hK.out _ _ ?_;clear hK K
    try simp[Act.put]
    refine FQ oad ?_ _;refine NoPanic.normal ?_;obtain⟨s9,a9⟩:=a6.out;have b3:Hid _:=a9;clear a9 a6
    go_wp2_with fail
    go_roundg (N-(i+1))
    case measure=>omega
    case rel=>exact⟨i+1,s9,oaa,oaa,by go_num,b3.out⟩
  ·have d8:¬ (i:Int)<(N:Int):=oaa;have:i=N:=oaa;subst this;have h:=HI.drop.1;rw[b9.out] at h;have HE:Hid _:=h;clear h
   go_wp2
   first|exact yz (v:=.tuple #[]) (by simp[results,results41,go_sem]) rfl ⟨rfl,si,HE.out⟩|(go_ret;exact⟨rfl,si,HE.out⟩)
theorem SW.wlX{J:W0}{s:SD}(I:SW J d me W s V):cO (fun b=>b<J.heap.size\/b=d) V (s.wa W.fs.length) W:=fun E F=>by
 have ha:=I.ap;have D:aC (SX J.heap.size d s) V E:=F.mono (fun b h=>h.elim .inl (fun h=>.inr (.inl h)));have r1:=I.r1.of_block (F.block _ I.r1.lt (by have h1:=ha.g1;have M:=ha.d1;show ¬ (_\/_);omega));have r2:=I.r2.of_block (F.block _ I.r2.lt (by have h1:=ha.g2;have M:=ha.d2;show ¬ (_\/_);omega));have r3:=I.r3.of_block (F.block _ I.r3.lt (by have h1:=ha.g3;have M:=ha.d3;show ¬ (_\/_);omega));have O:=I.dp.ts.kept D (Y:=SX J.heap.size d s) (fun _ _ h=>h) (fun b hb=>F.block b (I.dp.ts.lt b hb).1 (by have h1:=(I.dp.ts.lt b hb).2;have M:=(ha.tt b hb).1;show ¬ (_\/_);omega));refine⟨I.dp.fr E D,fun i hi=>?_,fun i hi=>?_,fun i hi=>?_,I.dp.pt E D⟩
 ·rw[I.rt.lr] at hi;refine⟨s.g1,0,s.R i,rfl,?_,?_,?_,?_,(I.dp.rl i hi E D).1,(I.dp.rl i hi E D).2.1,(I.dp.rl i hi E D).2.2,?_⟩
  ·rw[yD,r1.cell oaa,qV];rfl
  ·rw[yD,r1.cell oaa,qW];rfl
  ·rw[yD,r1.cell oaa,sQ];rfl
  ·rw[yD,r1.cell oaa,sS];rfl
  ·by_cases e:i=me
   ·subst e;exact NP O
   ·exact I.dp.tl i hi e E D
 ·rw[I.rt.lp] at hi;exact⟨s.g2,0,(s.P i).1,(s.P i).2,rfl,by rw[yD,r2.cell hi];rfl,I.dp.pr i hi E D⟩
 ·rw[I.rt.lq] at hi;have T:=(I.dp.qs i hi).kept D (Y:=SX J.heap.size d s) (fun _ _ h=>h) (fun b hb=>F.block b ((I.dp.qs i hi).lt b hb).1 (by have h1:=((I.dp.qs i hi).lt b hb).2;have M:=(ha.qq i b hb).2.1;show ¬ (_\/_);omega));have U:=(nA.1 (I.rt.qs i hi)).1;exact⟨s.g3,0,(s.Q i).1,(s.Q i).2,rfl,by rw[yD,r3.cell hi];rfl,YZ T (show (que W i).length<=_ by omega),YY T (fun j Z=>I.dp.qg i hi j Z E D)⟩
def QuX(w:Wd)(g3:Nat)(Q:Nat->Option Addr × Nat)(D:Nat->Nat->Option Addr × Nat)(W:Wl):Prop:=∀ i,i<W.fs.length->w.cell? ⟨g3,i,none⟩=some (.slice (Q i).1 (que W i).length (Q i).2)/\∀ j,j<(que W i).length->∃ b o,(Q i).1=some ⟨b,o,none⟩/\w.cell? ⟨b,o+j*2,none⟩=some (.int .i64 (ml (que W i) j).f)/\w.cell? ⟨b,o+j*2+1,none⟩=some (.slice (D i j).1 (ml (que W i) j).g.length (D i j).2)/\aO w (D i j).1 (ml (que W i) j).g
def zW(X:Nat->Prop)(w:Wd)(B:WA)(W:Wl):Prop:=∃ (g g3:Nat) (P Q:Nat->Option Addr × Nat) (D:Nat->Nat->Option Addr × Nat),B.a2=some ⟨g,0,none⟩/\B.a3=some ⟨g3,0,none⟩/\w.rowIs g 34 W.fs.length (fun i=>.slice (P i).1 (prg W i).length (P i).2)/\¬ X g/\St (fun b=>X b\/b=g) (fun w=>aS w B.a0 W.fs/\kR w B.a1 W.rs/\qN w B.a3 W.qs/\cK w B.a4 W.pt/\(∀ i,i<W.fs.length->dY w (P i).1 (prg W i))/\QuX w g3 Q D W) w
theorem SW.wlP{F:W0}{s:SD}(I:SW F d me W s V):zW (fun b=>b<F.heap.size) V (s.wa W.fs.length) W:=by
 have ha:=I.ap;refine⟨s.g2,s.g3,s.P,s.Q,s.G,rfl,rfl,I.r2,by have:=ha.g2;show ¬ s.g2<F.heap.size;omega,fun E M=>?_⟩;have D:aC (SX F.heap.size d s) V E:=M.mono (fun b h=>h.elim .inl (fun h=>.inr (.inr (.inr (.inl h)))));have r1:=I.r1.of_block (M.block _ I.r1.lt (by have h1:=ha.g1;have J:=ha.g12;show ¬ (_\/_);omega));have r3:=I.r3.of_block (M.block _ I.r3.lt (by have h1:=ha.g3;have J:=ha.g23;show ¬ (_\/_);omega));have U:=I.dp.ts.kept D (Y:=SX F.heap.size d s) (fun _ _ h=>h) (fun b hb=>M.block b (I.dp.ts.lt b hb).1 (by have h1:=(I.dp.ts.lt b hb).2;have J:=(ha.tt b hb).2.2.1;show ¬ (_\/_);omega));have T:∀ i,i<W.fs.length->App (SX F.heap.size d s) F.heap.size 53 2 (s.Q i).1 (que W i).length (s.Q i).2 (iL (que W i) (s.G i)) (s.q i) E:=fun i hi=>(I.dp.qs i hi).kept D (Y:=SX F.heap.size d s) (fun _ _ h=>h) (fun b hb=>M.block b ((I.dp.qs i hi).lt b hb).1 (by have h1:=((I.dp.qs i hi).lt b hb).2;have J:=(ha.qq i b hb).2.2.2.1;show ¬ (_\/_);omega));refine⟨I.dp.fr E D,fun i hi=>?_,fun i hi=>?_,I.dp.pt E D,fun i hi=>I.dp.pr i hi E D,fun i hi=>⟨r3.cell hi,fun j O=>?_⟩⟩
 ·rw[I.rt.lr] at hi;refine⟨s.g1,0,s.R i,rfl,?_,?_,?_,?_,(I.dp.rl i hi E D).1,(I.dp.rl i hi E D).2.1,(I.dp.rl i hi E D).2.2,?_⟩
  ·rw[yD,r1.cell oaa,qV];rfl
  ·rw[yD,r1.cell oaa,qW];rfl
  ·rw[yD,r1.cell oaa,sQ];rfl
  ·rw[yD,r1.cell oaa,sS];rfl
  ·by_cases e:i=me
   ·subst e;exact NP U
   ·exact I.dp.tl i hi e E D
 ·rw[I.rt.lq] at hi;have hq:=(I.dp.qs i hi).kept D (Y:=SX F.heap.size d s) (fun _ _ h=>h) (fun b hb=>M.block b ((I.dp.qs i hi).lt b hb).1 (by have h1:=((I.dp.qs i hi).lt b hb).2;have J:=(ha.qq i b hb).2.2.2.1;show ¬ (_\/_);omega));have a5:=(nA.1 (I.rt.qs i hi)).1;exact⟨s.g3,0,(s.Q i).1,(s.Q i).2,rfl,by rw[yD,r3.cell hi];rfl,YZ hq (show (que W i).length<=_ by omega),YY hq (fun j O=>I.dp.qg i hi j O E D)⟩
 ·obtain⟨h1,J⟩:=(T i hi).read
  cases hQ:(s.Q i).1 with
  | none=>have:=h1 hQ;omega
  | some ad =>
   obtain⟨b,o,rfl⟩:=(T i hi).lit ad hQ;have Z:=J _ hQ _ _ (zS O).1;have h4:=J _ hQ _ _ (zS O).2;rw[Addr.add_lit] at Z h4;exact⟨b,o,rfl,Z,h4,I.dp.qg i hi j O E D⟩
theorem zW.grow{Y:Nat->Prop}{w:World}{B:WA}(h:zW X w B W)(E:aC X w w')(D:∀ b,b<w.heap.size->Y b->X b):zW Y w' B W:=by
 obtain⟨g,g3,P,Q,I,e,J,r,F,hs⟩:=h;exact⟨g,g3,P,Q,I,e,J,r.of_block (E.block _ r.lt F),fun M=>F (D g r.lt M),hs.grow (E.mono (fun _ h=>.inl h)) (fun b hl hb=>hb.elim (fun h=>.inl (D b hl h)) .inr)⟩
theorem SW.wlC{D:W0}{s:SD}(I:SW D d me W s V):WlC (s.wa W.fs.length) W:=by
 have hn:W.fs.length<=8:=I.rt.fs.few;refine⟨I.dp.fc,?_,?_,?_,I.dp.pc⟩
 ·rw[I.rt.lr];exact⟨(fun e=>by cases e),yr _,by show W.fs.length<=9223372036854775807;omega⟩
 ·rw[I.rt.lp];exact⟨(fun e=>by cases e),yr _,by show W.fs.length<=9223372036854775807;omega⟩
 ·rw[I.rt.lq];exact⟨(fun e=>by cases e),yr _,by show W.fs.length<=9223372036854775807;omega⟩
def tH(X:Nat->Prop)(w:Wd)(W:Wl)(k:Int)(st:Bool)(e:Ending)(w' : World):Prop:=∃ B:WA,e=.returned (.tuple #[wlV B (cB W k st),.int .i64 (bT W k st)])/\Below w.heap.size w w' /\ WlC B (cB W k st)/\cO X w' B (cB W k st)/\(bT W k st=0->zW (fun b=>b<w.heap.size) w' B (cB W k st))
theorem tH.no{w:World}{E:Int}{st:Bool}(h:bT W k st=E)(D:E≠0)(hb:Bl w w'):tH X w W k st (.returned (.tuple #[.agg #[.slice none 0 0,.slice none 0 0,.slice none 0 0,.slice none 0 0,.slice none 0 0],.int .i64 E])) w' := by
 subst h;have e:cB W k st=vH:=yd D;refine⟨⟨none,none,none,none,none,0,0,0,0,0⟩,?_,hb,?_,?_,fun h=>absurd h D⟩
 ·rw[e];rfl
 ·rw[e];exact⟨jE,jE,jE,jE,jE⟩
 ·rw[e];exact fun w' _=>LY w' _
theorem Zg{st:Bool}(h:fZ W=0):bT W k st=aQ [bC W.fs k,if bits .and .i64 (kN W k.toNat) 1=0 then 7 else 0,if 4760<(rlm W k.toNat).t.length then 1 else 0,if st=false/\(que W k.toNat).length=0 then 8 else 0]:=by
 unfold bT;show (if fZ W=0 then _ else _)=_;rw[ye h]
theorem OQ(hb:b<n)(W:Wd)(u0 u1 u2 u3 u4:Value):aC (fun x=>x<n) W (((((W.setCell ⟨b,0,none⟩ u0).setCell ⟨b,1,none⟩ u1).setCell ⟨b,2,none⟩ u2).setCell ⟨b,3,none⟩ u3).setCell ⟨b,4,none⟩ u4) :=
 ((((aC.set (X:=fun x=>x<n) _ _ hb).trans (aC.set (X:=fun x=>x<n) _ _ hb)).trans (aC.set (X:=fun x=>x<n) _ _ hb)).trans (aC.set (X:=fun x=>x<n) _ _ hb)).trans (aC.set (X:=fun x=>x<n) _ _ hb)
theorem Zh(W:Wl)(me:Nat)(st:Bool):setR (if st then W else { W with qs:=W.qs.set me ((que W me).drop 1) }) me { rlm (if st then W else { W with qs:=W.qs.set me ((que W me).drop 1) }) me with i:=if st then [] else ((que W me).getD 0 ⟨0,[]⟩).g }=bQ W me st:=by cases st <;> rfl
theorem take2(me:Nat)(W:Wl)(st:Bool)(J:W0)(d:Nat)(s:SD)(V:Wd)(I:SW J d me W s V)(hq:s.q me=none)(hl:st=false->(que W me).length≠0){gl:Nat}(hn:W.fs.length=n)(T:(if st then [] else ((que W me).getD 0 ⟨0,[]⟩).g).length=gl):yO 40 #[.pointer (some ⟨d,0,none⟩),.agg #[.int .i64 (me:Int),.bool st]] V fun e E=>∃ ga gc s7 v,e=.returned (.agg #[.slice ga gl gc])/\Hid (Below J.heap.size J.w E)/\E.cell? ⟨d,1,none⟩=some (.slice (some ⟨s.g1,0,none⟩) n n)/\E.cell? ⟨s.g1,me*4+2,none⟩=some v/\E.frozen? ⟨s.g1,me*4+2,none⟩=false/\s.g1<E.heap.size/\d<E.heap.size/\Hid (SW J d me (bQ W me st) s7 (E.setCell ⟨s.g1,me*4+2,none⟩ (.slice ga gl gc))):=by
 refine(Yu me W st J d s V I hq hl).mono ?_;rintro e E ⟨ga,gc,s6,rfl,D,F,O⟩;subst hn;subst T;have H:=(zH I.rt I.sf st hl).rs me (by rw[pK];exact I.sf);rw[qP (by rw[I.rt.lr];exact I.sf)] at H;have eR:rlm (if st then W else { W with qs:=W.qs.set me ((que W me).drop 1) }) me=rlm W me:=by cases st <;> rfl
 have eF:(if st then W else { W with qs:=W.qs.set me ((que W me).drop 1) }:Wl).fs=W.fs:=by cases st <;> rfl
 have U:=D.setIn (a:=ga) (c:=gc) (G:=if st then [] else ((que W me).getD 0 ⟨0,[]⟩).g) (by rw[eR];exact H) O;rw[Zh,F] at U;obtain⟨_,M,_,_,_,_,bl⟩:=bH D.box;obtain⟨_,_,Z,_,kf,kl⟩:=D.rcells D.sf;rw[F] at M Z kf kl;rw[eF] at M;exact⟨ga,gc,_,_,rfl,D.bel,M,Z,kf _,kl,bl,U⟩
theorem step_end{T E:Wd}{P:World->Prop}{D:Nat}{F:Wl}{st:Bool}{s:SD}(hX:∀ b,X b->b<w.heap.size)(hb:Bl w T)(I:SW ⟨T,P⟩ d me F s E)(hE:bT W k st=0)(O:cB W k st=F)(J:w.heap.size<=D)(M:D<T.heap.size){Z:Wd}{nt:Nat}(hn:F.fs.length=n)(U:F.pt.length=nt)(u0 u1 u2 u3 u4:Value)
  (hV:Z=((((E.setCell ⟨D,0,none⟩ u0).setCell ⟨D,1,none⟩ u1).setCell ⟨D,2,none⟩ u2).setCell ⟨D,3,none⟩ u3).setCell ⟨D,4,none⟩ u4) :
  tH X w W k st (.returned (.tuple #[.agg #[.slice s.a0 n s.c0,.slice (some ⟨s.g1,0,none⟩) n n,.slice (some ⟨s.g2,0,none⟩) n n,.slice (some ⟨s.g3,0,none⟩) n n,.slice s.a4 nt s.c4],.int .i64 0])) Z:=by
 subst hV;subst hn;subst U;have b8:Bl w E:=hb.trans (I.bel.mono hb.size);refine⟨s.wa F.fs.length,?_,((((b8.setCell J _).setCell J _).setCell J _).setCell J _).setCell J _,by rw[O];exact I.wlC,?_,fun _=>?_⟩
 ·rw[O,hE];dsimp only[wlV,SD.wa];rw[I.rt.lr,I.rt.lp,I.rt.lq]
 ·rw[O];exact((I.wlX.less (fun b hb=>.inl hb)).off (OQ M E u0 u1 u2 u3 u4)).less (fun b h=>yC (hX b h) hb.size)
 ·rw[O];exact I.wlP.grow (OQ M E u0 u1 u2 u3 u4) (fun b _ h=>yC h hb.size)
theorem Af(X:Nat->Prop)(A:WA)(W:Wl)(k:Int)(st:Bool)(w:Wd)(hX:∀ b,X b->b<w.heap.size)(hB:kS W)(hC:WlC A W)(hW:cO X w A W):yO 13 #[wlV A W,.agg #[.int .i64 k,.bool st]] w (tH X w W k st):=by
 obtain⟨a0,a1,a2,a3,a4,c0,c1,c2,c3,c4⟩:=A;have b0:Hid (gP w ⟨a0,a1,a2,a3,a4,c0,c1,c2,c3,c4⟩ W):=hW.at;have D0:Hid (∀ V,Bl w V->Calls _ _ _ _ _):=fun V hV=>NI ⟨a0,a1,a2,a3,a4,c0,c1,c2,c3,c4⟩ W V hB hC (b0.below hV);have D1:Hid (aI W->∀ V,Bl w V->Calls _ _ _ _ _):=fun H V hV=>Yq ⟨a0,a1,a2,a3,a4,c0,c1,c2,c3,c4⟩ W k st V H (b0.below hV);have D2:Hid (aI W->∀ V,Bl w V->Calls _ _ _ _ _):=fun H V hV=>ZE ⟨a0,a1,a2,a3,a4,c0,c1,c2,c3,c4⟩ W V H (b0.below hV);have PE:Hid (fZ W=0->_):=fun h=>Zg (W:=W) (k:=k) (st:=st) h;have PN:Hid (fZ W≠0->bT W k st=fZ W):=fun h=>yd h;have e5:Hid _:=hX;clear hX hW hB hC;dsimp only[wlV] at D0 D1 D2 |-;generalize aQ [bC W.fs k,if bits .and .i64 (kN W k.toNat) 1=0 then 7 else 0,if 4760<(rlm W k.toNat).t.length then 1 else 0,if st=false/\(que W k.toNat).length=0 then 8 else 0]=E1 at *;obtain⟨E0,F⟩:∃ E,fZ W=E:=⟨_,rfl⟩;have d7:Hid (fZ W=E0):=F;rw[F] at D0 PE PN;clear F;obtain⟨D,J⟩:∃ n,W.fs.length=n:=⟨_,rfl⟩;obtain⟨n1,b4⟩:∃ n,W.rs.length=n:=⟨_,rfl⟩;obtain⟨n2,b5⟩:∃ n,W.ps.length=n:=⟨_,rfl⟩;obtain⟨n3,b6⟩:∃ n,W.qs.length=n:=⟨_,rfl⟩;obtain⟨n4,b7⟩:∃ n,W.pt.length=n:=⟨_,rfl⟩;have a5:Hid (W.fs.length=D):=J;have g4:Hid (W.pt.length=n4):=b7;have c6:Hid (aI W->D=n1/\D=n2/\D=n3):=fun H=>⟨by rw[<- b4,H.lr,J],by rw[<- b5,H.lp,J],by rw[<- b6,H.lq,J]⟩;rw[J,b4,b5,b6,b7] at D0 D1 D2 |-;clear J b4 b5 b6 b7
 go_enter func13,ntmps13
 go_wp2_with fail
 obtain⟨V1,I⟩:∃ V1,((w.alloc (.cells #[.slice a0 D c0,.slice a1 n1 c1,.slice a2 n2 c2,.slice a3 n3 c3,.slice a4 n4 c4] 28)).alloc (.cells #[.int .i64 k,.bool st] 40)).alloc (.cells #[.slice none 0 0,.slice none 0 0,.slice none 0 0,.slice none 0 0,.slice none 0 0] 28)=V1:=⟨_,rfl⟩;have BV:Hid (Bl w V1):=by rw[<- I];exact((aB _ _).trans ((aB _ _).mono oac)).trans ((aB _ _).mono oab)
 have X1:Hid (V1.heap[w.heap.size]?=some (.cells #[.slice a0 D c0,.slice a1 n1 c1,.slice a2 n2 c2,.slice a3 n3 c3,.slice a4 n4 c4] 28 (0,0))):=by
  rw[<- I];exact aH (aH (yN w _) (aB _ _)) (aB _ _)
 have X2:Hid (V1.heap[w.heap.size+1]?=some (.cells #[.int .i64 k,.bool st] 40 (0,0))):=by
  rw[<- I];have h:=aH (yN (w.alloc (.cells #[.slice a0 D c0,.slice a1 n1 c1,.slice a2 n2 c2,.slice a3 n3 c3,.slice a4 n4 c4] 28)) (.cells #[.int .i64 k,.bool st] 40)) (aB _ (.cells #[.slice none 0 0,.slice none 0 0,.slice none 0 0,.slice none 0 0,.slice none 0 0] 28));rw[yw] at h;exact h
 have X3:Hid (V1.heap[w.heap.size+2]?=some (.cells #[.slice none 0 0,.slice none 0 0,.slice none 0 0,.slice none 0 0,.slice none 0 0] 28 (0,0))):=by
  rw[<- I];have h:=yN ((w.alloc (.cells #[.slice a0 D c0,.slice a1 n1 c1,.slice a2 n2 c2,.slice a3 n3 c3,.slice a4 n4 c4] 28)).alloc (.cells #[.int .i64 k,.bool st] 40)) (.cells #[.slice none 0 0,.slice none 0 0,.slice none 0 0,.slice none 0 0,.slice none 0 0] 28);rw[yw,yw] at h;exact h
 rw[I];clear I;refine yj (D0 V1 BV.out) ?_;rintro e V2 ⟨rfl,hb⟩;have B2:Hid (Bl V1 V2):=hb;have Z:Hid (Bl w V2):=BV.trans (hb.mono BV.size);clear hb D0;have Y1:Hid _:=aH X1 B2;have Y2:Hid _:=aH X2 B2;have Y3:Hid _:=aH X3 B2;clear X1 X2 X3;obtain⟨q0,q1,q2,q3,q4,qf,ql⟩:=bH Y1.out;obtain⟨z0,z1,z2,z3,z4,zf,zl⟩:=bH Y3.out;obtain⟨p0,p1,pl⟩:=lN Y2.out;by_cases F:E0=0
 ·subst F;have HR:Hid (aI W):=pI.1 d7.out;have PK:Hid (bT W k st=E1):=PE.out rfl;have b9:Hid _:=D1.out HR.out V2 Z.out;clear PE PN D1
  go_wp2_with fail
  refine yj b9.out ?_;rintro e M ⟨rfl,hb⟩;have B3:Hid (Bl V2 M):=hb;have a7:Hid (Bl w M):=Z.trans (hb.mono Z.size);clear hb b9 q0 q1 q2 q3 q4 qf ql z0 z1 z2 z3 z4 zf zl p0 p1 pl;have e6:Hid _:=aH Y1 B3;have O:Hid _:=aH Y2 B3;have a6:Hid _:=aH Y3 B3;clear Y1 Y2 Y3;obtain⟨q0,q1,q2,q3,q4,qf,ql⟩:=bH e6.out;obtain⟨z0,z1,z2,z3,z4,zf,zl⟩:=bH a6.out;obtain⟨p0,p1,pl⟩:=lN O.out;by_cases a9:E1=0
  ·subst a9;obtain⟨_,me,hk,b2,_,_,c9,hq⟩:=zI PK.out;subst hk;have a8:Hid (me<W.fs.length):=b2;have d8:Hid _:=c9;have HQ:Hid _:=hq;have e8:me<D:=(by rw[<- a5.out];exact b2);have g8:D<=8:=(by rw[<- a5.out];exact HR.fs.few);obtain⟨e1,e2,e3⟩:=c6.out HR.out;subst e1;subst e2;subst e3;have D3:Hid _:=D2.out HR.out M a7.out;clear b2 c9 hq c6 D2
   go_wp2_with fail
   refine yj D3.out ?_;rintro e V4 ⟨s,rfl,b1,d5,_,d6⟩;have e4:Hid _:=d5;have I5:Hid _:=d6 me e8;have B4:Hid (Bl M V4):=b1;have s4:=b1.size;clear d5 d6 b1 D3 q0 q1 q2 q3 q4 qf ql z0 z1 z2 z3 z4 zf zl p0 p1 pl;dsimp only[wlV,SD.wa]
   go_upto_region 8 with fail
   obtain⟨d,hd⟩:∃ d,V4.heap.size=d:=⟨_,rfl⟩;obtain⟨V5,T⟩:∃ V5,V4.alloc (.cells #[.slice s.a0 D s.c0,.slice (some ⟨s.g1,0,none⟩) D D,.slice (some ⟨s.g2,0,none⟩) D D,.slice (some ⟨s.g3,0,none⟩) D D,.slice s.a4 n4 s.c4] 28)=V5:=⟨_,rfl⟩;have B5:Hid (Bl M V5):=(by rw[<- T];exact B4.trans ((aB _ _).mono B4.size));rw[hd,T] at I5;have g5:d<V5.heap.size:=(by rw[<- T,<- hd];simp);have g6:M.heap.size<=d:=oaa;rw[T];rw[hd];clear T hd;have Z2:Hid _:=aH O B5;obtain⟨l0,l1,l2,l3,l4,lf,ll⟩:=bH I5.box;rw[a5.out] at l1;obtain⟨p0,p1,pl⟩:=lN Z2.out;have e9:(me:Int)<(D:Int):=oaa;obtain⟨j0,j1,j2,j3,jf,jl⟩:=I5.rcells a8.out;obtain⟨gl,c8⟩:∃ g,(if st then [] else ((que W me).getD 0 ⟨0,[]⟩).g).length=g:=⟨_,rfl⟩;have DT:Hid (∀ V,Bl V5 V->Calls _ _ _ _ _):=fun V hV=>take2 me W st _ d s V (I5.below hV) (e4 me) HQ.out a5.out c8;have g7:M.heap.size<=s.g1:=I5.ap.g1;have d4:w.heap.size+1<M.heap.size:=aR O.out;have ng:¬ w.heap.size+1=s.g1:=oaa;have h6:¬ s.g1=w.heap.size+1:=oaa;have nd:¬ d=s.g1:=I5.ap.d1;have g9:¬ s.g1=d:=fun e=>nd e.symm;clear l0 l2 l3 l4 j0 j1 j2 j3 lf ll jf c8
   go_region_held3 (fun b8=>b8.cell? ⟨d,1,none⟩=some (.slice (some ⟨s.g1,0,none⟩) D D)/\b8.cell? ⟨w.heap.size+1,0,none⟩=some (.int .i64 (me:Int))/\b8.cell? ⟨w.heap.size+1,1,none⟩=some (.bool st)) (go_keep) (first|(go_at_call 40;refine yj (DT V5.drew (yv _ _).drew) ?_;rintro e V6 ⟨ga,gc,s7,v6,rfl,B6,k1,k2,kf,kl,kd,I7⟩;have Z6:Hid (V6.heap[w.heap.size+1]?=some (.cells #[.int .i64 (me:Int),.bool st] 40 (0,0))):=(B6.block _ d4).trans O;obtain⟨t0,t1,tl⟩:=lN Z6.out))
   clear k1 k2 kf kl kd p0 p1 pl l1 jl DT I5 Z6 Z2 t0 t1 tl;obtain⟨V7,c7⟩:∃ V7,V6.setCell ⟨s.g1,me*4+2,none⟩ (.slice ga gl gc)=V7:=⟨_,rfl⟩;rw[c7] at I7 |-;clear c7;have Z7:Hid (V7.heap[w.heap.size+1]?=some (.cells #[.int .i64 (me:Int),.bool st] 40 (0,0))):=(I7.bel.block _ d4).trans O;obtain⟨t0,t1,tl⟩:=lN Z7.out
   have DR:Hid _:=Zf me (bQ W me st) _ d s7 V7 I7.out (by
    rw[qP (by rw[HR.lr];exact a8.out)];have h1:prg (bQ W me st) me=prg W me:=(by unfold prg;rw[zG]);rw[h1];have h2:=HR.ps me a8.out;have h3:=d8.out;show (rlm W me).t.length + _<=_
    omega)
   have PW:Hid (cB W me st=(prg (bQ W me st) me).foldl (doW me) (bQ W me st)):=by
    have h1:prg (bQ W me st) me=prg W me:=(by unfold prg;rw[zG]);show _=_;unfold cB;rw[ye PK.out,yk,h1]
   go_wp2_with fail
   refine yj DR.out ?_;rintro e V8 ⟨rfl,s8,U⟩;rw[<- PW.out] at U;have I8:Hid _:=U;have Z8:Hid (V8.heap[w.heap.size+2]?=some (.cells #[.slice none 0 0,.slice none 0 0,.slice none 0 0,.slice none 0 0,.slice none 0 0] 28 (0,0))):=(U.bel.block _ (aR a6.out)).trans a6;obtain⟨z0,z1,z2,z3,z4,zf,zl⟩:=bH Z8.out;obtain⟨l0,l1,l2,l3,l4,lf,ll⟩:=bH U.box;have e7:w.heap.size+2<M.heap.size:=aR a6.out;have h4:¬ d=w.heap.size+2:=oaa;have g0:¬ w.heap.size+2=d:=oaa;clear U DR I7 t0 t1 tl;obtain⟨m,hm⟩:∃ m,(cB W me st).fs.length=m:=⟨_,rfl⟩;obtain⟨mt,b3⟩:∃ m,(cB W me st).pt.length=m:=⟨_,rfl⟩;have d9:Hid (_=m):=hm;have e0:Hid (_=mt):=b3;rw[hm] at l0 l1 l2 l3;rw[b3] at l4;clear hm b3 PW
   go_wp2
   exact yz (v:=.tuple #[.agg #[.slice s8.a0 m s8.c0,.slice (some ⟨s8.g1,0,none⟩) m m,.slice (some ⟨s8.g2,0,none⟩) m m,.slice (some ⟨s8.g3,0,none⟩) m m,.slice s8.a4 mt s8.c4],.int .i64 0]) (by simp[results,results13,go_sem,z0,z1,z2,z3,z4]) rfl (step_end e5.out a7.out I8.out PK.out rfl oaa e7 d9.out e0.out _ _ _ _ _ rfl)
  ·have hz:(E1 == 0)=false:=by simp[a9]
   go_wp2
   exact yz (v:=.tuple #[.agg #[.slice none 0 0,.slice none 0 0,.slice none 0 0,.slice none 0 0,.slice none 0 0],.int .i64 E1]) (by simp[results,results13,go_sem,z0,z1,z2,z3,z4]) rfl (tH.no PK.out a9 (((((a7.setCell (by show w.heap.size<=w.heap.size+2;omega) _).setCell (by show w.heap.size<=w.heap.size+2;omega) _).setCell (by show w.heap.size<=w.heap.size+2;omega) _).setCell (by show w.heap.size<=w.heap.size+2;omega) _).setCell (by show w.heap.size<=w.heap.size+2;omega) _))
 ·have hz:(E0 == 0)=false:=by simp[F]
  have PK:Hid (bT W k st=E0):=PN.out F;clear PE PN D1 D2
  go_wp2
  exact yz (v:=.tuple #[.agg #[.slice none 0 0,.slice none 0 0,.slice none 0 0,.slice none 0 0,.slice none 0 0],.int .i64 E0]) (by simp[results,results13,go_sem,z0,z1,z2,z3,z4]) rfl (tH.no PK.out F (((((Z.setCell (by show w.heap.size<=w.heap.size+2;omega) _).setCell (by show w.heap.size<=w.heap.size+2;omega) _).setCell (by show w.heap.size<=w.heap.size+2;omega) _).setCell (by show w.heap.size<=w.heap.size+2;omega) _).setCell (by show w.heap.size<=w.heap.size+2;omega) _))
