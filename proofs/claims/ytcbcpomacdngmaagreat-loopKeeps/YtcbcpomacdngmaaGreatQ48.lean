/-
  x
-/
import Derived.Test.YtcbcpomacdngmaaGreatQ47
namespace Go.Proofs.YtcbcpomacdngmaaGreat
set_option maxRecDepth 100000
set_option maxHeartbeats 4000000
set_option linter.unusedVariables false
open Go.RowKit Go.ChangeShapes Go.WideShapes
theorem zwG{E K:Nat}:∀ V D:World,V.cell? ⟨E,0,none⟩=some (.func (.func K) #[] #[])->Below V.heap.size V D->D.cell? ⟨E,0,none⟩=some (.func (.func K) #[] #[]):=fun _ _ h F=>zab h F
theorem zpX{L:List Fr}{f t x:Int}(h:zdI L f t x=0):zax L t=0:=(zcg h).2.2.1
theorem zoI(me:Nat)(W:Wl)(x:Ac)(V:World)(H:zan W)(hm:me<W.fs.length):Calls Tryz.prog 79 #[.int .i64 x.k] V (zke me W x V):=by
 by_cases U:x.k=9
 ·rw[U];refine yi (ztS V) (fun e V1 E=>zke.may (C:=fun _=>True) (t:=x.n) E trivial (yK Tryz.func111 (by kernel_rfl) rfl) (yK Tryz.func112 (by kernel_rfl) rfl) (by decide) (fun V=>zhL x V) (fun _ _ _ _=>trivial) (fun h=>zjT me W x h) ?_);rw[show zdv W me x=zBE W me x.n from yd U];exact zex _ _ _ _ _
 by_cases D:x.k=13
 ·rw[D];refine yi (zrl V) (fun e V1 E=>zke.may (C:=fun _=>True) (t:=x.n) E trivial (yK Tryz.func111 (by kernel_rfl) rfl) (yK Tryz.func116 (by kernel_rfl) rfl) (by decide) (fun V=>zhL x V) (fun _ _ _ _=>trivial) (fun h=>zrt me W x h) ?_);rw[show zdv W me x=zxZ W me x.n from by unfold zdv;rw[ya U,yd D]];exact zex _ _ _ _ _
 by_cases F:x.k=12
 ·rw[F];refine yi (zrk V) (fun e V1 E=>zke.may (C:=fun _=>True) (t:=x.a) E trivial (yK Tryz.func113 (by kernel_rfl) rfl) (yK Tryz.func115 (by kernel_rfl) rfl) (by decide) (fun V=>zhK x V) (fun _ _ _ _=>trivial) (fun h=>zrL me W x (zpX h) _ (zeW _ _ _ _)) ?_);rw[show zdv W me x=zlm W me x.a x.b from by unfold zdv;rw[ya U,ya D,yd F]];exact zex _ _ _ _ _
 by_cases I:x.k=10
 ·rw[I];refine yi (zrj V) (fun e V1 E=>zke.may (C:=fun _=>True) (t:=x.a) E trivial (yK Tryz.func113 (by kernel_rfl) rfl) (yK Tryz.func114 (by kernel_rfl) rfl) (by decide) (fun V=>zhK x V) (fun _ _ _ _=>trivial) (fun h=>zvj me W x h) ?_);rw[show zdv W me x=zAU W me x.a x.n from by unfold zdv;rw[ya U,ya D,ya F,yd I]];exact zex _ _ _ _ _
 by_cases J:x.k=21
 ·rw[J];refine yi (zrr V) (fun e V1 E=>zke.may (C:=fun _=>True) (t:=x.n) E trivial (yK Tryz.func111 (by kernel_rfl) rfl) (yK Tryz.func117 (by kernel_rfl) rfl) (by decide) (fun V=>zhL x V) (fun _ _ _ _=>trivial) (fun h=>zuk me W x h) ?_);rw[show zdv W me x=wGo W me x.n x.a from by unfold zdv;rw[ya U,ya D,ya F,ya I,yd J]];exact zex _ _ _ _ _
 by_cases M:x.k=16
 ·rw[M];refine yi (zrm V) (fun e V1 E=>⟨_,_,fun _=>True,E.1,E.2,trivial,(fun _ _ _ _=>trivial),(yK Tryz.func118 (by kernel_rfl) rfl),?_⟩);rw[show zdv W me x=zvm W me from by unfold zdv;rw[ya U,ya D,ya F,ya I,ya J,yd M]];exact zuw me W x
 by_cases O:x.k=17
 ·rw[O];refine yi (zrn V) (fun e V1 E=>?_);obtain⟨cb,E,hc⟩:=E;refine zke.may (C:=fun V=>V.cell? ⟨cb,0,none⟩=some (.func (.func 120) #[] #[])) (t:=x.a) E hc (yK Tryz.func113 (by kernel_rfl) rfl) (yK Tryz.func143 (by kernel_rfl) rfl) (by decide) (fun V=>zhK x V) zwG (fun h=>zeH 120 cb (yK Tryz.func120 (by kernel_rfl) rfl) me W x W _ _ (zzc me W x (zpX h)) (fun h2=>zjz H h2) _ (by have h3:=zeW [zkz W.pt (many W) x.n me (zaE W me) x.a (zaE W x.a)] W { W with pt:=zhW W.pt x.n x.a (zaE W x.a) } 0;rw[zkQ] at h3;exact h3)) ?_;rw[show zdv W me x=zAQ W me x.a x.n from by unfold zdv;rw[ya U,ya D,ya F,ya I,ya J,ya M,yd O]];exact zex _ _ _ _ _
 by_cases Z:x.k=18
 ·rw[Z];refine yi (zro V) (fun e V1 E=>?_);obtain⟨cb,he,hb,hc⟩:=E;refine⟨_,_,fun V=>V.cell? ⟨cb,0,none⟩=some (.func (.func 121) #[] #[]),he,hb,hc,zwG,(yK Tryz.func143 (by kernel_rfl) rfl),zeH 121 cb (yK Tryz.func121 (by kernel_rfl) rfl) me W x W _ _ (zzg me W x) (fun h2=>zjC (n:=x.n) H (k:=me) (zaw (zaw (zaw h2).2).2).1) _ ?_⟩;rw[show zdv W me x=zAS W me x.a x.n from by unfold zdv;rw[ya U,ya D,ya F,ya I,ya J,ya M,ya O,yd Z]];exact zeW _ _ _ _
 by_cases a5:x.k=19
 ·rw[a5];refine yi (zrp V) (fun e V1 E=>?_);obtain⟨cb,he,hb,hc⟩:=E;refine⟨_,_,fun V=>V.cell? ⟨cb,0,none⟩=some (.func (.func 122) #[] #[]),he,hb,hc,zwG,(yK Tryz.func143 (by kernel_rfl) rfl),zeH 122 cb (yK Tryz.func122 (by kernel_rfl) rfl) me W x _ _ _ (zzf me W x) (fun h2=>zgH H hm h2) _ ?_⟩;rw[show zdv W me x=zAR W me x.n from by unfold zdv;rw[ya U,ya D,ya F,ya I,ya J,ya M,ya O,ya Z,yd a5]];have h3:=zeW [zfI W.pt (many W) x.n me (zaE W me)] W { setR W me { rlm W me with i:=gr (pt W.pt x.n.toNat).cm 0 } with pt:=zia W.pt x.n } 0;rw[zkQ] at h3;exact h3
 by_cases T:x.k=20
 ·rw[T];refine yi (zrq V) (fun e V1 E=>?_);obtain⟨cb,he,hb,hc⟩:=E;refine⟨_,_,fun V=>V.cell? ⟨cb,0,none⟩=some (.func (.func 123) #[] #[]),he,hb,hc,zwG,(yK Tryz.func143 (by kernel_rfl) rfl),zeH 123 cb (yK Tryz.func123 (by kernel_rfl) rfl) me W x W _ _ (zzk me W x) (fun h2=>zjO (k:=me) H h2) _ ?_⟩;rw[show zdv W me x=zAT W me x.n from by unfold zdv;rw[ya U,ya D,ya F,ya I,ya J,ya M,ya O,ya Z,ya a5,yd T]];have h3:=zeW [zaU W.pt (many W) x.n me (zaE W me)] W { W with pt:=zij W.pt x.n } 0;rw[zkQ] at h3;exact h3
 refine yi (zrs x.k V ⟨U,I,F,D,J,M,O,Z,a5,T⟩) (fun e V1 E=>⟨_,_,fun _=>True,E.1,E.2,trivial,(fun _ _ _ _=>trivial),(yK Tryz.func124 (by kernel_rfl) rfl),?_⟩);rw[show zdv W me x=wDo W me x from by unfold zdv;rw[ya U,ya D,ya F,ya I,ya J,ya M,ya O,ya Z,ya a5,ya T]];exact zvU me W x
theorem zxU{w:World}{b:Nat}{u0:Value}(c0:w.cell? ⟨b,0,none⟩=some u0):∀ j u,([u0]:List Value)[j]?=some u->w.cell? ((⟨b,0,none⟩:Addr).add j)=some u:=fun j u D=>by
 rw[Addr.add_lit,yB]
 match j,D with
 | 0,D=>cases D;exact c0
def zBg(D:W0)(d me:Nat)(W:Wl)(e:Ending)(V:World):Prop:=e=.returned (.tuple #[])/\∃ s,SW D d me W s V
theorem ztr{me:Nat}{W:Wl}{pl:List Ac}{i:Nat}(h:i<pl.length):(pl.take (i+1)).foldl (doW me) W=doW me ((pl.take i).foldl (doW me) W) (ac pl i):=by
 rw[List.take_succ_eq_append_getElem h,List.foldl_append];show doW me _ _=_;unfold ac;rw[zae _ _ h]
theorem SW.tellv{D:W0}{d me:Nat}{W:Wl}{s:SD}{V:World}(I:SW D d me W s V){v:Value}{o:Int}(J:(rlm W me).t.length+1<=4800)(M:v=.int .i64 o) :
  (App (SX D.heap.size d s) D.heap.size 3 1 (s.R me).a3 (rlm W me).t.length (s.R me).c3 ((rlm W me).t.map (Value.int .i64)) s.t V)/\(∀ j,s.t=some j->j≠d/\j≠s.g1) /\
  ∀ E g cap,V.grownBy E s.t->E.ownsRow D.heap.size 3 1 (.slice (some ⟨g,0,none⟩) ((rlm W me).t.length+1) cap) ((rlm W me).t.length+1) ((rlm W me).t.map (Value.int .i64)++[v])->(s.t=some g\/V.heap.size<=g)->∃ O,SW D d me (zml W me o) O (E.setCell ⟨s.g1,me*4+3,none⟩ (.slice (some ⟨g,0,none⟩) ((rlm W me).t.length+1) cap)):=by
 subst M;refine⟨I.dp.ts,fun j h=>⟨(I.ap.tt j h).1,(I.ap.tt j h).2.1⟩,fun E g cap hg F hl=>⟨_,I.told hg F hl ?_ rfl⟩⟩;have H:=zjU I.rt I.sf o J;have h:=H.rs me (by show me<W.fs.length;exact I.sf);rw[zjV (by rw[I.rt.lr];exact I.sf)] at h;exact h
theorem zzi(me:Nat)(W:Wl)(w0:W0)(d:Nat)(s:SD)(V:World)(I:SW w0 d me W s V)(ht:(rlm W me).t.length+(prg W me).length<=4800):Calls Tryz.prog 41 #[.pointer (some ⟨d,0,none⟩),.int .i64 (me:Int)] V (zBg w0 d me ((prg W me).foldl (doW me) W)):=by
 have I0:Hid _:=I.ghost (I.dp.pr me I.sf);obtain⟨l0,l1,l2,l3,l4,lf,ll⟩:=zal I.box;have p2:V.cell? ⟨s.g2,me,none⟩=some (.slice (s.P me).1 (prg W me).length (s.P me).2):=I.r2.cell I.sf;have n8:W.fs.length<=8:=I.rt.fs.few;have g8:me<W.fs.length:=I.sf;have hp:(prg W me).length<=40:=I.rt.ps me I.sf
 have HF:Hid (∀ i,i<=(prg W me).length->(rlm (((prg W me).take i).foldl (doW me) W) me).t.length=(rlm W me).t.length+i):=fun i hi=>by
  have h:=(zlK ((prg W me).take i) I.rt I.sf (by rw[List.length_take];omega)).2.2;rw[h,List.length_take];omega
 have HT:Hid _:=ht;obtain⟨pl,e0⟩:∃ p,prg W me=p:=⟨_,rfl⟩;rw[e0] at I0 p2 HF HT hp |-;obtain⟨N,hN⟩:∃ N,pl.length=N:=⟨_,rfl⟩;have HN:Hid (pl.length=N):=hN;rw[hN] at p2 HF HT hp;generalize s.P me=Pm at *;obtain⟨pa,pc⟩:=Pm;dsimp only at p2 I0;have b9:Hid (pl.take N=pl):=by rw[<- hN];exact List.take_length
 have g5:(me:Int)<(W.fs.length:Int):=by omega
 clear ht hN e0 l0 l1 l3 l4 I;generalize W.fs.length=n0 at *
 go_enter Tryz.func41,Tryz.ntmps41
 go_wp2_with fail
 go_loopg [16] N (fun g s16 wr=>∃ (i:Nat) (si:SD),i<=N/\N-i<=g/\s16=.int .i64 i/\Hid (SW ⟨w0.w,fun V=>w0.P V/\zbs V pa pl⟩ d me ((pl.take i).foldl (doW me) W) si wr))
 case atStart=>exact⟨0,s,by omega,by omega,rfl,I0.out⟩
 case round =>
  obtain⟨i,si,hi,hg,rfl,HI⟩:=hrel;clear I0 l2 p2 ll lf;by_cases d7:i<N
  ·have d8:(i:Int)<(N:Int):=by omega
   obtain⟨pb,po,e5,x0,x1,x2,x3,x4⟩:=HI.out.drop.2 i (by rw[HN.out];exact d7);subst e5;have TL:Hid _:=HF.out i (by omega);have NX:Hid (_=_):=ztr (me:=me) (W:=W) (pl:=pl) (i:=i) (by rw[HN.out];exact d7);obtain⟨X,hX⟩:∃ X,ac pl i=X:=⟨_,rfl⟩;rw[hX] at x0 x1 x2 x3 x4 NX;clear hX;obtain⟨Wi,c8⟩:∃ Wi,(pl.take i).foldl (doW me) W=Wi:=⟨_,rfl⟩;rw[c8] at HI TL NX;clear c8;obtain⟨xk,xa,xb,xc,xn⟩:=X;dsimp only at x0 x1 x2 x3 x4;have e1:=HI.out.lt;have e3:Hid _:=e1;have HR:Hid (zan Wi):=HI.out.rt;have HM:Hid (me<Wi.fs.length):=HI.out.sf;have DO:Hid (∀ V,Calls _ _ _ _ _):=fun V=>zoI me Wi ⟨xk,xa,xb,xc,xn⟩ V HR.out HM.out;have b1:Hid _:=zAI HR.out HM.out ⟨xk,xa,xb,xc,xn⟩;have QD:Hid (doW me Wi ⟨xk,xa,xb,xc,xn⟩=zml (zdv Wi me ⟨xk,xa,xb,xc,xn⟩).w me (toldOf (zdv Wi me ⟨xk,xa,xb,xc,xn⟩))):=rfl;have QT:Hid _:=zlr HR.out HM.out ⟨xk,xa,xb,xc,xn⟩;unfold zke at DO;obtain⟨q,hq⟩:∃ q,zdv Wi me ⟨xk,xa,xb,xc,xn⟩=q:=⟨_,rfl⟩;rw[hq] at b1 QD QT DO;clear hq e1;obtain⟨qe,O,qo⟩:=q;dsimp only at b1 QD QT
   go_upto_region 3 with fail
   obtain⟨V1,b2⟩:∃ V1,wr.alloc (.cells #[.int .i64 xk,.int .i64 xa,.int .i64 xb,.int .i64 xc,.int .i64 xn] 36)=V1:=⟨_,rfl⟩;have BV:Hid (Below wr.heap.size wr V1):=by rw[<- b2];exact zaa _ _
   have YB:Hid (V1.heap[wr.heap.size]?=some (.cells #[.int .i64 xk,.int .i64 xa,.int .i64 xb,.int .i64 xc,.int .i64 xn] 36 (0,0))):=by rw[<- b2];exact yL _ _
   rw[b2];clear b2;obtain⟨y0,y1,y2,y3,y4,yf,yl⟩:=zal YB.out;have I1:Hid (SW ⟨w0.w,fun V=>(w0.P V/\zbs V (some ⟨pb,po,none⟩) pl)/\V.heap[wr.heap.size]?=some (.cells #[.int .i64 xk,.int .i64 xa,.int .i64 xb,.int .i64 xc,.int .i64 xn] 36 (0,0))⟩ d me Wi si V1):=(HI.out.below BV.out).ghost (fun V' ho=>(ho.block _ yl (fun h=>by have:=e3.out _ h;omega)).trans YB.out)
   go_region_held3 (fun M=>M.cell? ⟨wr.heap.size,0,none⟩=some (.int .i64 xk)/\M.cell? ⟨wr.heap.size,1,none⟩=some (.int .i64 xa)/\M.cell? ⟨wr.heap.size,2,none⟩=some (.int .i64 xb)/\M.cell? ⟨wr.heap.size,3,none⟩=some (.int .i64 xc)/\M.cell? ⟨wr.heap.size,4,none⟩=some (.int .i64 xn)) (go_keep) (first|(go_at_call 79;refine yi (DO.out V1.drew) ?_;rintro e w3 ⟨K,c7,C,rfl,c9,d5,d9,g7,d6⟩;have B3:Hid (Below V1.heap.size V1 w3):=(yr _ _).drew.trans c9;have C3:Hid (C w3):=d5;have LD:Hid (zhA K c7 C me Wi ⟨xk,xa,xb,xc,xn⟩ ⟨qe,O,qo⟩):=d6;have I3:Hid _:=I1.out.below B3.out;have e6:=zab y0 B3.out;have e7:=zab y1 B3.out;have e8:=zab y2 B3.out;have e9:=zab y3 B3.out;have g0:=zab y4 B3.out;clear c9 d5 d9 d6)|(go_at_fn K;refine yi (LD.out _ d si w3 I3.out C3.out) ?_;rintro e F ⟨o,s4,rfl,ho,b5⟩;have HO:Hid _:=ho;have I4:Hid _:=b5.drop.1;obtain⟨u0,u1,u2,u3,u4,uf,ul⟩:=zal b5.drop.2;clear ho b5))
   clear y0 y1 y2 y3 y4 e6 e7 e8 e9 g0 u0 u1 u2 u3 u4 yf yl uf ul x0 x1 x2 x3 x4 DO LD C3 I1 I3 HI YB;have e2:(rlm O me).t.length+1<=4800:=by rw[QT.out,TL.out];have:=HT.out;omega
   have c6:Hid _:=b1.out;obtain⟨d0,c1,d2,d3,d4,df,dl⟩:=zal I4.out.box;obtain⟨k0,k1,k2,ct,kf,kl⟩:=I4.out.rcells I4.out.sf;obtain⟨n,hn⟩:∃ n,O.fs.length=n:=⟨_,rfl⟩;rw[hn] at c1;have g9:me<n:=by rw[<- hn];exact I4.out.sf
   have h3:n<=8:=by rw[<- hn];exact I4.out.rt.fs.few
   have g6:(me:Int)<(n:Int):=by omega
   clear d0 d2 d3 d4 k0 k1 k2 hn;have TB:Hid ((rlm O me).t.length<=4800):=by show _<=_;omega
   have a5:Hid (∀ E:Int,E=toldOf ⟨qe,O,qo⟩->(App (SX w0.heap.size d s4) w0.heap.size 3 1 (s4.R me).a3 (rlm O me).t.length (s4.R me).c3 ((rlm O me).t.map (Value.int .i64)) s4.t (F.drew.alloc (.cells #[.int .i64 E] 3)))/\(∀ j,s4.t=some j->j≠d/\j≠s4.g1)/\(∀ w9,(F.drew.alloc (.cells #[.int .i64 E] 3)).grownBy w9 s4.t->w9.frozen? ⟨s4.g1,me*4+3,none⟩=false)/\(w0.heap.size<=(F.drew.alloc (.cells #[.int .i64 E] 3)).heap.size)/\∀ V1 g cap,(F.drew.alloc (.cells #[.int .i64 E] 3)).grownBy V1 s4.t->V1.ownsRow w0.heap.size 3 1 (.slice (some ⟨g,0,none⟩) ((rlm O me).t.length+1) cap) ((rlm O me).t.length+1) ((rlm O me).t.map (Value.int .i64)++[.int .i64 E])->(s4.t=some g\/(F.drew.alloc (.cells #[.int .i64 E] 3)).heap.size<=g)->∃ s', SW ⟨w0.w,fun V=>w0.P V/\zbs V (some ⟨pb,po,none⟩) pl⟩ d me ((pl.take (i+1)).foldl (doW me) W) s' (V1.setCell ⟨s4.g1,me*4+3,none⟩ (.slice (some ⟨g,0,none⟩) ((rlm O me).t.length+1) cap))):=fun E T=>by
    have I5:=I4.out.below ((yr F.heap.size F).drew.alloc (yk _) (.cells #[.int .i64 E] 3));have h:=I5.tellv (v:=.int .i64 E) (o:=E) e2 rfl;refine⟨h.1,h.2.1,fun w9 hg=>(yD (hg.block s4.g1 I5.r1.lt (fun e=>(h.2.1 s4.g1 e.symm).2 rfl))).trans (I5.r1.frozen _),I5.bel.size,fun V1 g cap a b c=>?_⟩;rw[NX.out,QD.out,<- T];exact h.2.2 V1 g cap a b c
   clear e2 I4 QD NX QT b1;by_cases hE:qe=0
   ·subst hE;obtain rfl:=HO.out rfl;have FA:=a5.out o (show o=toldOf ⟨0,O,o⟩ from rfl);obtain⟨fa,nt,fz,a8,a7⟩:=FA;have HA:Hid _:=fa;have FZ:Hid _:=fz;have Z:Hid _:=a7;clear fa fz a7 a5 HO;generalize (rlm O me).t.map (Value.int .i64)=ts at *;have e4:(rlm O me).t.length<=4800:=TB.out;generalize (rlm O me).t.length=tl at *;generalize s4.t=tt at *;generalize s4.g1=g1 at *;generalize (s4.R me).a3=ta at *;generalize (s4.R me).c3=tc at *;obtain⟨E,T⟩:∃ E,E=o:=⟨_,rfl⟩;rw[<- T] at HA FZ Z a8 |-;clear T
    go_wp2_with fail
    obtain⟨i0,b4,b6,b7,b8⟩:=info_parts ziP;refine wp_region_noPanic ?_;refine zeZ (S:=fun M=>M.cell? ⟨d,1,none⟩=some (.slice (some ⟨g1,0,none⟩) n n)/\M.cell? ⟨g1,me*4+3,none⟩=some (.slice ta tl tc)) 18 (by kernel_rfl) (by(try dsimp only);go_keep) (fun hHeld=>?_);refine zaf (i:=0) ?_;simp[Act.put];refine zaf (i:=1) ?_;simp[Act.put];refine zaf (i:=2) ?_;simp[Act.put];refine zaf (i:=3) ?_;simp[Act.put];refine zaf (i:=4) ?_;simp[Act.put];refine zaf (i:=5) ?_;simp[Act.put];refine zaf (i:=6) ?_;simp[Act.put];refine zaf (i:=7) ?_;simp[Act.put];refine zaf (i:=8) ?_;simp[Act.put];refine zaf (i:=9) ?_;simp[Act.put];refine zaf (i:=10) ?_;simp[Act.put];refine zaf (i:=11) ?_;simp[Act.put];refine zaf (i:=12) ?_;simp[Act.put];refine zaf (i:=13) ?_;simp[Act.put];refine zbF (i:=14) (by kernel_rfl) rfl (fun K hK=>?_);go_simp;refine hK.out _ _ ?_ (fun hHeld=>?_)
    ·exact⟨zab c1 ((yr F.heap.size F).drew.alloc (yk _) (.cells #[.int .i64 E] 3)),zab ct ((yr F.heap.size F).drew.alloc (yk _) (.cells #[.int .i64 E] 3))⟩
    clear hK K hHeld
    try simp[Act.put]
    refine zbF (i:=15) (by kernel_rfl) rfl (fun K hK=>?_);refine zmk (F.drew.alloc (.cells #[.int .i64 E] 3)) rfl (.tmp 46) (.tmp 48) 48 rfl 3 i0 (.int .i64 0) 1 8 Tryz.underlying48 b4 b6 b7 b8 rfl (by decide) ta tl tc ts tt HA.out a8 rfl ⟨F.heap.size,0,none⟩ 1 1 [.int .i64 E] rfl rfl (zxU (zad F.drew _ _ 0 rfl)) (by intro u hu;simp at hu;subst hu;rfl) (by decide) (by unfold maxLen;omega) (by omega) ?_;intro g cap w9 U D J g4;have t1:w9.cell? ⟨d,1,none⟩=some (.slice (some ⟨g1,0,none⟩) n n):=D.cell (a:=⟨d,1,none⟩) (zab c1 ((yr F.heap.size F).drew.alloc (yk _) (.cells #[.int .i64 E] 3))) (fun e=>(nt d e.symm).1 rfl);have b0:w9.cell? ⟨g1,me*4+3,none⟩=some (.slice ta tl tc):=D.cell (a:=⟨g1,me*4+3,none⟩) (zab ct ((yr F.heap.size F).drew.alloc (yk _) (.cells #[.int .i64 E] 3))) (fun e=>(nt g1 e.symm).2 rfl);have f9:w9.frozen? ⟨g1,me*4+3,none⟩=false:=FZ.out w9 D;have a6:Hid _:=Z.out w9 g cap D U J;refine hK.out _ _ ?_ (fun hHeld=>?_)
    ·exact⟨t1,b0⟩
    clear hK K U D J Z FZ
    try simp[Act.put]
    clear hHeld;refine zbF (i:=16) (by kernel_rfl) rfl (fun K hK=>?_);go_simp;refine hK.out _ _ ?_ (fun hHeld=>?_)
    ·(try dsimp only)
     exact⟨t1,b0⟩
    clear hK K
    try simp[Act.put]
    refine zaf (i:=17) ?_;simp[Act.put];clear hHeld;refine zeY (by kernel_rfl) rfl (fun K hK=>?_);go_simp;refine hK.out _ _ ?_;clear hK K
    try simp[Act.put]
    refine zeX (by kernel_rfl) ?_ _;refine NoPanic.normal ?_;obtain⟨s9,a9⟩:=a6.out;have b3:Hid _:=a9;clear a9 a6
    go_wp2_with fail
    go_roundg (N-(i+1))
    case measure=>omega
    case rel=>exact⟨i+1,s9,by omega,by omega,by go_num,b3.out⟩
   ·have hz:(qe == 0)=false:=by simp[hE]
    have FA:=a5.out (-qe) (show -qe=toldOf ⟨qe,O,qo⟩ from (ya hE).symm);obtain⟨fa,nt,fz,a8,a7⟩:=FA;have HA:Hid _:=fa;have FZ:Hid _:=fz;have Z:Hid _:=a7;clear fa fz a7 a5 HO;generalize (rlm O me).t.map (Value.int .i64)=ts at *;have e4:(rlm O me).t.length<=4800:=TB.out;generalize (rlm O me).t.length=tl at *;generalize s4.t=tt at *;generalize s4.g1=g1 at *;generalize (s4.R me).a3=ta at *;generalize (s4.R me).c3=tc at *;obtain⟨E,T⟩:∃ E,E = -qe:=⟨_,rfl⟩;rw[<- T] at HA FZ Z a8;have hw:IntKind.i64.wrap (-qe) = -qe:=by have h1:=c6.out.1;have h2:=c6.out.2;rw[yI];omega
    go_wp2_with fail
    rw[<- T];clear T hw;obtain⟨i0,b4,b6,b7,b8⟩:=info_parts ziP;refine wp_region_noPanic ?_;refine zeZ (S:=fun M=>M.cell? ⟨d,1,none⟩=some (.slice (some ⟨g1,0,none⟩) n n)/\M.cell? ⟨g1,me*4+3,none⟩=some (.slice ta tl tc)) 18 (by kernel_rfl) (by(try dsimp only);go_keep) (fun hHeld=>?_);refine zaf (i:=0) ?_;simp[Act.put];refine zaf (i:=1) ?_;simp[Act.put];refine zaf (i:=2) ?_;simp[Act.put];refine zaf (i:=3) ?_;simp[Act.put];refine zaf (i:=4) ?_;simp[Act.put];refine zaf (i:=5) ?_;simp[Act.put];refine zaf (i:=6) ?_;simp[Act.put];refine zaf (i:=7) ?_;simp[Act.put];refine zaf (i:=8) ?_;simp[Act.put];refine zaf (i:=9) ?_;simp[Act.put];refine zaf (i:=10) ?_;simp[Act.put];refine zaf (i:=11) ?_;simp[Act.put];refine zaf (i:=12) ?_;simp[Act.put];refine zaf (i:=13) ?_;simp[Act.put];refine zbF (i:=14) (by kernel_rfl) rfl (fun K hK=>?_);go_simp;refine hK.out _ _ ?_ (fun hHeld=>?_)
    ·exact⟨zab c1 ((yr F.heap.size F).drew.alloc (yk _) (.cells #[.int .i64 E] 3)),zab ct ((yr F.heap.size F).drew.alloc (yk _) (.cells #[.int .i64 E] 3))⟩
    clear hK K hHeld
    try simp[Act.put]
    refine zbF (i:=15) (by kernel_rfl) rfl (fun K hK=>?_);refine zmk (F.drew.alloc (.cells #[.int .i64 E] 3)) rfl (.tmp 46) (.tmp 48) 48 rfl 3 i0 (.int .i64 0) 1 8 Tryz.underlying48 b4 b6 b7 b8 rfl (by decide) ta tl tc ts tt HA.out a8 rfl ⟨F.heap.size,0,none⟩ 1 1 [.int .i64 E] rfl rfl (zxU (zad F.drew _ _ 0 rfl)) (by intro u hu;simp at hu;subst hu;rfl) (by decide) (by unfold maxLen;omega) (by omega) ?_;intro g cap w9 U D J g4;have t1:w9.cell? ⟨d,1,none⟩=some (.slice (some ⟨g1,0,none⟩) n n):=D.cell (a:=⟨d,1,none⟩) (zab c1 ((yr F.heap.size F).drew.alloc (yk _) (.cells #[.int .i64 E] 3))) (fun e=>(nt d e.symm).1 rfl);have b0:w9.cell? ⟨g1,me*4+3,none⟩=some (.slice ta tl tc):=D.cell (a:=⟨g1,me*4+3,none⟩) (zab ct ((yr F.heap.size F).drew.alloc (yk _) (.cells #[.int .i64 E] 3))) (fun e=>(nt g1 e.symm).2 rfl);have f9:w9.frozen? ⟨g1,me*4+3,none⟩=false:=FZ.out w9 D;have a6:Hid _:=Z.out w9 g cap D U J;refine hK.out _ _ ?_ (fun hHeld=>?_)
    ·exact⟨t1,b0⟩
    clear hK K U D J Z FZ
    try simp[Act.put]
    clear hHeld;refine zbF (i:=16) (by kernel_rfl) rfl (fun K hK=>?_);go_simp;refine hK.out _ _ ?_ (fun hHeld=>?_)
    ·(try dsimp only)
     exact⟨t1,b0⟩
    clear hK K
    try simp[Act.put]
    refine zaf (i:=17) ?_;simp[Act.put];clear hHeld;refine zeY (by kernel_rfl) rfl (fun K hK=>?_);go_simp;refine hK.out _ _ ?_;clear hK K
    try simp[Act.put]
    refine zeX (by kernel_rfl) ?_ _;refine NoPanic.normal ?_;obtain⟨s9,a9⟩:=a6.out;have b3:Hid _:=a9;clear a9 a6
    go_wp2_with fail
    go_roundg (N-(i+1))
    case measure=>omega
    case rel=>exact⟨i+1,s9,by omega,by omega,by go_num,b3.out⟩
  ·have d8:¬ (i:Int)<(N:Int):=by omega
   have:i=N:=by omega
   subst this;have h:=HI.out.drop.1;rw[b9.out] at h;have HE:Hid _:=h;clear h
   go_wp2
   first|exact yw (v:=.tuple #[]) (by simp[results,Tryz.results41,go_sem]) rfl ⟨rfl,si,HE.out⟩|(go_ret;exact⟨rfl,si,HE.out⟩)
theorem SW.wlX{M:W0}{d me:Nat}{W:Wl}{s:SD}{V:World}(I:SW M d me W s V):zgr (fun b=>b<M.heap.size\/b=d) V (s.wa W.fs.length) W:=fun E J=>by
 have ha:=I.ap;have D:zar (SX M.heap.size d s) V E:=J.mono (fun b h=>h.elim .inl (fun h=>.inr (.inl h)));have r1:=I.r1.of_block (J.block _ I.r1.lt (by have h1:=ha.g1;have O:=ha.d1;show ¬ (_\/_);omega));have r2:=I.r2.of_block (J.block _ I.r2.lt (by have h1:=ha.g2;have O:=ha.d2;show ¬ (_\/_);omega));have r3:=I.r3.of_block (J.block _ I.r3.lt (by have h1:=ha.g3;have O:=ha.d3;show ¬ (_\/_);omega));have T:=I.dp.ts.kept D (Y:=SX M.heap.size d s) (fun _ _ h=>h) (fun b F=>J.block b (I.dp.ts.lt b F).1 (by have h1:=(I.dp.ts.lt b F).2;have O:=(ha.tt b F).1;show ¬ (_\/_);omega));refine⟨I.dp.fr E D,fun i hi=>?_,fun i hi=>?_,fun i hi=>?_,I.dp.pt E D⟩
 ·rw[I.rt.lr] at hi;refine⟨s.g1,0,s.R i,rfl,?_,?_,?_,?_,(I.dp.rl i hi E D).1,(I.dp.rl i hi E D).2.1,(I.dp.rl i hi E D).2.2,?_⟩
  ·rw[yB,r1.cell (by omega),zjI];rfl
  ·rw[yB,r1.cell (by omega),zjJ];rfl
  ·rw[yB,r1.cell (by omega),zlh];rfl
  ·rw[yB,r1.cell (by omega),zli];rfl
  ·by_cases e:i=me
   ·subst e;exact zpy T
   ·exact I.dp.tl i hi e E D
 ·rw[I.rt.lp] at hi;exact⟨s.g2,0,(s.P i).1,(s.P i).2,rfl,by rw[yB,r2.cell hi];rfl,I.dp.pr i hi E D⟩
 ·rw[I.rt.lq] at hi;have U:=(I.dp.qs i hi).kept D (Y:=SX M.heap.size d s) (fun _ _ h=>h) (fun b F=>J.block b ((I.dp.qs i hi).lt b F).1 (by have h1:=((I.dp.qs i hi).lt b F).2;have O:=(ha.qq i b F).2.1;show ¬ (_\/_);omega));have Z:=(zbr.1 (I.rt.qs i hi)).1;exact⟨s.g3,0,(s.Q i).1,(s.Q i).2,rfl,by rw[yB,r3.cell hi];rfl,zzM U (show (que W i).length<=_ by omega),zyj U (fun j hj=>I.dp.qg i hi j hj E D)⟩
theorem SW.wlC{D:W0}{d me:Nat}{W:Wl}{s:SD}{V:World}(I:SW D d me W s V):WlC (s.wa W.fs.length) W:=by
 have hn:W.fs.length<=8:=I.rt.fs.few;refine⟨I.dp.fc,?_,?_,?_,I.dp.pc⟩
 ·rw[I.rt.lr];exact⟨(fun e=>by cases e),yk _,by show W.fs.length<=9223372036854775807;omega⟩
 ·rw[I.rt.lp];exact⟨(fun e=>by cases e),yk _,by show W.fs.length<=9223372036854775807;omega⟩
 ·rw[I.rt.lq];exact⟨(fun e=>by cases e),yk _,by show W.fs.length<=9223372036854775807;omega⟩
def znV(X:Nat->Prop)(w:World)(W:Wl)(k:Int)(st:Bool)(e:Ending)(w' : World):Prop:=∃ B:WA,e=.returned (.tuple #[wlV B (zbz W k st),.int .i64 (zcp W k st)])/\Below w.heap.size w w' /\ WlC B (zbz W k st)/\zgr X w' B (zbz W k st)
theorem znV.no{X:Nat->Prop}{w w' : World}{W:Wl}{k E:Int}{st:Bool}(h:zcp W k st=E)(D:E≠0)(F:Below w.heap.size w w'):znV X w W k st (.returned (.tuple #[.agg #[.slice none 0 0,.slice none 0 0,.slice none 0 0,.slice none 0 0,.slice none 0 0],.int .i64 E])) w' := by
 subst h;have e:zbz W k st=zka:=ya D;refine⟨⟨none,none,none,none,none,0,0,0,0,0⟩,?_,F,?_,?_⟩
 ·rw[e];rfl
 ·rw[e];exact⟨zcd,zcd,zcd,zcd,zcd⟩
 ·rw[e];exact fun w' _=>zpt w' _
theorem zuG{W:Wl}{k:Int}{st:Bool}(h:zbg W=0):zcp W k st=zaq [zax W.fs k,if bits .and .i64 (zjr W k.toNat) 1=0 then 7 else 0,if 4760<(rlm W k.toNat).t.length then 1 else 0,if st=false/\(que W k.toNat).length=0 then 8 else 0]:=by
 unfold zcp;show (if zbg W=0 then _ else _)=_;rw[yd h]
theorem znz{b n:Nat}(D:b<n)(W:World)(u0 u1 u2 u3 u4:Value):zar (fun x=>x<n) W (((((W.setCell ⟨b,0,none⟩ u0).setCell ⟨b,1,none⟩ u1).setCell ⟨b,2,none⟩ u2).setCell ⟨b,3,none⟩ u3).setCell ⟨b,4,none⟩ u4) :=
 ((((zar.set (X:=fun x=>x<n) _ _ D).trans (zar.set (X:=fun x=>x<n) _ _ D)).trans (zar.set (X:=fun x=>x<n) _ _ D)).trans (zar.set (X:=fun x=>x<n) _ _ D)).trans (zar.set (X:=fun x=>x<n) _ _ D)
theorem zvH(W:Wl)(me:Nat)(st:Bool):setR (if st then W else { W with qs:=W.qs.set me ((que W me).drop 1) }) me { rlm (if st then W else { W with qs:=W.qs.set me ((que W me).drop 1) }) me with i:=if st then [] else ((que W me).getD 0 ⟨0,[]⟩).g }=zbc W me st:=by cases st <;> rfl
theorem take2(me:Nat)(W:Wl)(st:Bool)(J:W0)(d:Nat)(s:SD)(V:World)(I:SW J d me W s V)(hq:s.q me=none)(hl:st=false->(que W me).length≠0){n gl:Nat}(hn:W.fs.length=n)(T:(if st then [] else ((que W me).getD 0 ⟨0,[]⟩).g).length=gl):Calls Tryz.prog 40 #[.pointer (some ⟨d,0,none⟩),.agg #[.int .i64 (me:Int),.bool st]] V fun e E=>∃ ga gc s7 v,e=.returned (.agg #[.slice ga gl gc])/\Hid (Below J.heap.size J.w E)/\E.cell? ⟨d,1,none⟩=some (.slice (some ⟨s.g1,0,none⟩) n n)/\E.cell? ⟨s.g1,me*4+2,none⟩=some v/\E.frozen? ⟨s.g1,me*4+2,none⟩=false/\s.g1<E.heap.size/\d<E.heap.size/\Hid (SW J d me (zbc W me st) s7 (E.setCell ⟨s.g1,me*4+2,none⟩ (.slice ga gl gc))):=by
 refine(zxy me W st J d s V I hq hl).mono ?_;rintro e E ⟨ga,gc,s6,rfl,D,F,O⟩;subst hn;subst T;have H:=(zeF I.rt I.sf st hl).rs me (by rw[zdZ];exact I.sf);rw[zea (by rw[I.rt.lr];exact I.sf)] at H;have eR:rlm (if st then W else { W with qs:=W.qs.set me ((que W me).drop 1) }) me=rlm W me:=by cases st <;> rfl
 have eF:(if st then W else { W with qs:=W.qs.set me ((que W me).drop 1) }:Wl).fs=W.fs:=by cases st <;> rfl
 have U:=D.setIn (a:=ga) (c:=gc) (G:=if st then [] else ((que W me).getD 0 ⟨0,[]⟩).g) (by rw[eR];exact H) O;rw[zvH,F] at U;obtain⟨_,M,_,_,_,_,bl⟩:=zal D.box;obtain⟨_,_,Z,_,kf,kl⟩:=D.rcells D.sf;rw[F] at M Z kf kl;rw[eF] at M;exact⟨ga,gc,_,_,rfl,D.bel,M,Z,kf _,kl,bl,U⟩
theorem step_end{X:Nat->Prop}{w O M:World}{P:World->Prop}{d me D:Nat}{W E:Wl}{k:Int}{st:Bool}{s:SD}(hX:∀ b,X b->b<w.heap.size)(J:Below w.heap.size w O)(I:SW ⟨O,P⟩ d me E s M)(hE:zcp W k st=0)(U:zbz W k st=E)(F:w.heap.size<=D)(T:D<O.heap.size){V' : World}{n nt:Nat}(hn:E.fs.length=n)(Z:E.pt.length=nt)(u0 u1 u2 u3 u4:Value)
  (hV:V' =((((M.setCell ⟨D,0,none⟩ u0).setCell ⟨D,1,none⟩ u1).setCell ⟨D,2,none⟩ u2).setCell ⟨D,3,none⟩ u3).setCell ⟨D,4,none⟩ u4) :
  znV X w W k st (.returned (.tuple #[.agg #[.slice s.a0 n s.c0,.slice (some ⟨s.g1,0,none⟩) n n,.slice (some ⟨s.g2,0,none⟩) n n,.slice (some ⟨s.g3,0,none⟩) n n,.slice s.a4 nt s.c4],.int .i64 0])) V' := by
 subst hV;subst hn;subst Z;have b8:Below w.heap.size w M:=J.trans (I.bel.mono J.size);refine⟨s.wa E.fs.length,?_,((((b8.setCell F _).setCell F _).setCell F _).setCell F _).setCell F _,by rw[U];exact I.wlC,?_⟩
 ·rw[U,hE];dsimp only[wlV,SD.wa];rw[I.rt.lr,I.rt.lp,I.rt.lq]
 ·rw[U];exact((I.wlX.less (fun b J=>.inl J)).off (znz T M u0 u1 u2 u3 u4)).less (fun b h=>yz (hX b h) J.size)
theorem zqv(X:Nat->Prop)(A:WA)(W:Wl)(k:Int)(st:Bool)(w:World)(hX:∀ b,X b->b<w.heap.size)(hB:znQ W)(hC:WlC A W)(hW:zgr X w A W):Calls Tryz.prog 13 #[wlV A W,.agg #[.int .i64 k,.bool st]] w (znV X w W k st):=by
 obtain⟨a0,a1,a2,a3,a4,c0,c1,c2,c3,c4⟩:=A;have b0:Hid (zdF w ⟨a0,a1,a2,a3,a4,c0,c1,c2,c3,c4⟩ W):=hW.at;have D0:Hid (∀ V,Below w.heap.size w V->Calls _ _ _ _ _):=fun V hV=>zey ⟨a0,a1,a2,a3,a4,c0,c1,c2,c3,c4⟩ W V hB hC (b0.out.below hV);have D1:Hid (zan W->∀ V,Below w.heap.size w V->Calls _ _ _ _ _):=fun H V hV=>zlA ⟨a0,a1,a2,a3,a4,c0,c1,c2,c3,c4⟩ W k st V H (b0.out.below hV);have D2:Hid (zan W->∀ V,Below w.heap.size w V->Calls _ _ _ _ _):=fun H V hV=>zgW ⟨a0,a1,a2,a3,a4,c0,c1,c2,c3,c4⟩ W V H (b0.out.below hV);have PE:Hid (zbg W=0->_):=fun h=>zuG (W:=W) (k:=k) (st:=st) h;have PN:Hid (zbg W≠0->zcp W k st=zbg W):=fun h=>ya h;have e5:Hid _:=hX;clear hX hW hB hC;dsimp only[wlV] at D0 D1 D2 |-;generalize zaq [zax W.fs k,if bits .and .i64 (zjr W k.toNat) 1=0 then 7 else 0,if 4760<(rlm W k.toNat).t.length then 1 else 0,if st=false/\(que W k.toNat).length=0 then 8 else 0]=E1 at *;obtain⟨E0,F⟩:∃ E,zbg W=E:=⟨_,rfl⟩;have d7:Hid (zbg W=E0):=F;rw[F] at D0 PE PN;clear F;obtain⟨D,J⟩:∃ n,W.fs.length=n:=⟨_,rfl⟩;obtain⟨n1,b4⟩:∃ n,W.rs.length=n:=⟨_,rfl⟩;obtain⟨n2,b5⟩:∃ n,W.ps.length=n:=⟨_,rfl⟩;obtain⟨n3,b6⟩:∃ n,W.qs.length=n:=⟨_,rfl⟩;obtain⟨n4,b7⟩:∃ n,W.pt.length=n:=⟨_,rfl⟩;have a5:Hid (W.fs.length=D):=J;have g4:Hid (W.pt.length=n4):=b7;have c6:Hid (zan W->D=n1/\D=n2/\D=n3):=fun H=>⟨by rw[<- b4,H.lr,J],by rw[<- b5,H.lp,J],by rw[<- b6,H.lq,J]⟩;rw[J,b4,b5,b6,b7] at D0 D1 D2 |-;clear J b4 b5 b6 b7
 go_enter Tryz.func13,Tryz.ntmps13
 go_wp2_with fail
 obtain⟨V1,I⟩:∃ V1,((w.alloc (.cells #[.slice a0 D c0,.slice a1 n1 c1,.slice a2 n2 c2,.slice a3 n3 c3,.slice a4 n4 c4] 28)).alloc (.cells #[.int .i64 k,.bool st] 40)).alloc (.cells #[.slice none 0 0,.slice none 0 0,.slice none 0 0,.slice none 0 0,.slice none 0 0] 28)=V1:=⟨_,rfl⟩;have BV:Hid (Below w.heap.size w V1):=by rw[<- I];exact((zaa _ _).trans ((zaa _ _).mono (by simp))).trans ((zaa _ _).mono (by simp;omega))
 have X1:Hid (V1.heap[w.heap.size]?=some (.cells #[.slice a0 D c0,.slice a1 n1 c1,.slice a2 n2 c2,.slice a3 n3 c3,.slice a4 n4 c4] 28 (0,0))):=by
  rw[<- I];exact zat (zat (yL w _) (zaa _ _)) (zaa _ _)
 have X2:Hid (V1.heap[w.heap.size+1]?=some (.cells #[.int .i64 k,.bool st] 40 (0,0))):=by
  rw[<- I];have h:=zat (yL (w.alloc (.cells #[.slice a0 D c0,.slice a1 n1 c1,.slice a2 n2 c2,.slice a3 n3 c3,.slice a4 n4 c4] 28)) (.cells #[.int .i64 k,.bool st] 40)) (zaa _ (.cells #[.slice none 0 0,.slice none 0 0,.slice none 0 0,.slice none 0 0,.slice none 0 0] 28));rw[ys] at h;exact h
 have X3:Hid (V1.heap[w.heap.size+2]?=some (.cells #[.slice none 0 0,.slice none 0 0,.slice none 0 0,.slice none 0 0,.slice none 0 0] 28 (0,0))):=by
  rw[<- I];have h:=yL ((w.alloc (.cells #[.slice a0 D c0,.slice a1 n1 c1,.slice a2 n2 c2,.slice a3 n3 c3,.slice a4 n4 c4] 28)).alloc (.cells #[.int .i64 k,.bool st] 40)) (.cells #[.slice none 0 0,.slice none 0 0,.slice none 0 0,.slice none 0 0,.slice none 0 0] 28);rw[ys,ys] at h;exact h
 rw[I];clear I;refine yi (D0.out V1 BV.out) ?_;rintro e V2 ⟨rfl,hb⟩;have B2:Hid (Below V1.heap.size V1 V2):=hb;have Z:Hid (Below w.heap.size w V2):=BV.out.trans (hb.mono BV.out.size);clear hb D0;have Y1:Hid _:=zat X1.out B2.out;have Y2:Hid _:=zat X2.out B2.out;have Y3:Hid _:=zat X3.out B2.out;clear X1 X2 X3;obtain⟨q0,q1,q2,q3,q4,qf,ql⟩:=zal Y1.out;obtain⟨z0,z1,z2,z3,z4,zf,zl⟩:=zal Y3.out;obtain⟨p0,p1,pl⟩:=zbl Y2.out;by_cases F:E0=0
 ·subst F;have HR:Hid (zan W):=zbU.1 d7.out;have PK:Hid (zcp W k st=E1):=PE.out rfl;have b9:Hid _:=D1.out HR.out V2 Z.out;clear PE PN D1
  go_wp2_with fail
  refine yi b9.out ?_;rintro e M ⟨rfl,hb⟩;have B3:Hid (Below V2.heap.size V2 M):=hb;have a7:Hid (Below w.heap.size w M):=Z.out.trans (hb.mono Z.out.size);clear hb b9 q0 q1 q2 q3 q4 qf ql z0 z1 z2 z3 z4 zf zl p0 p1 pl;have e6:Hid _:=zat Y1.out B3.out;have O:Hid _:=zat Y2.out B3.out;have a6:Hid _:=zat Y3.out B3.out;clear Y1 Y2 Y3;obtain⟨q0,q1,q2,q3,q4,qf,ql⟩:=zal e6.out;obtain⟨z0,z1,z2,z3,z4,zf,zl⟩:=zal a6.out;obtain⟨p0,p1,pl⟩:=zbl O.out;by_cases a9:E1=0
  ·subst a9;obtain⟨_,me,hk,b2,_,_,c9,hq⟩:=zbW PK.out;subst hk;have a8:Hid (me<W.fs.length):=b2;have d8:Hid _:=c9;have HQ:Hid _:=hq;have e8:me<D:=by rw[<- a5.out];exact b2
   have g8:D<=8:=by rw[<- a5.out];exact HR.out.fs.few
   obtain⟨e1,e2,e3⟩:=c6.out HR.out;subst e1;subst e2;subst e3;have D3:Hid _:=D2.out HR.out M a7.out;clear b2 c9 hq c6 D2
   go_wp2_with fail
   refine yi D3.out ?_;rintro e V4 ⟨s,rfl,b1,d5,_,d6⟩;have e4:Hid _:=d5;have I5:Hid _:=d6 me e8;have B4:Hid (Below M.heap.size M V4):=b1;have s4:=b1.size;clear d5 d6 b1 D3 q0 q1 q2 q3 q4 qf ql z0 z1 z2 z3 z4 zf zl p0 p1 pl;dsimp only[wlV,SD.wa]
   go_upto_region 8 with fail
   obtain⟨d,hd⟩:∃ d,V4.heap.size=d:=⟨_,rfl⟩;obtain⟨V5,T⟩:∃ V5,V4.alloc (.cells #[.slice s.a0 D s.c0,.slice (some ⟨s.g1,0,none⟩) D D,.slice (some ⟨s.g2,0,none⟩) D D,.slice (some ⟨s.g3,0,none⟩) D D,.slice s.a4 n4 s.c4] 28)=V5:=⟨_,rfl⟩;have B5:Hid (Below M.heap.size M V5):=by rw[<- T];exact B4.out.trans ((zaa _ _).mono B4.out.size)
   rw[hd,T] at I5;have g5:d<V5.heap.size:=by rw[<- T,<- hd];simp
   have g6:M.heap.size<=d:=by omega
   rw[T];rw[hd];clear T hd;have Z2:Hid _:=zat O.out B5.out;obtain⟨l0,l1,l2,l3,l4,lf,ll⟩:=zal I5.out.box;rw[a5.out] at l1;obtain⟨p0,p1,pl⟩:=zbl Z2.out;have e9:(me:Int)<(D:Int):=by omega
   obtain⟨j0,j1,j2,j3,jf,jl⟩:=I5.out.rcells a8.out;obtain⟨gl,c8⟩:∃ g,(if st then [] else ((que W me).getD 0 ⟨0,[]⟩).g).length=g:=⟨_,rfl⟩;have DT:Hid (∀ V,Below V5.heap.size V5 V->Calls _ _ _ _ _):=fun V hV=>take2 me W st _ d s V (I5.out.below hV) (e4.out me) HQ.out a5.out c8;have g7:M.heap.size<=s.g1:=I5.out.ap.g1;have d4:w.heap.size+1<M.heap.size:=zay O.out;have ng:¬ w.heap.size+1=s.g1:=by omega
   have h6:¬ s.g1=w.heap.size+1:=by omega
   have nd:¬ d=s.g1:=I5.out.ap.d1;have g9:¬ s.g1=d:=fun e=>nd e.symm;clear l0 l2 l3 l4 j0 j1 j2 j3 lf ll jf c8
   go_region_held3 (fun b8=>b8.cell? ⟨d,1,none⟩=some (.slice (some ⟨s.g1,0,none⟩) D D)/\b8.cell? ⟨w.heap.size+1,0,none⟩=some (.int .i64 (me:Int))/\b8.cell? ⟨w.heap.size+1,1,none⟩=some (.bool st)) (go_keep) (first|(go_at_call 40;refine yi (DT.out V5.drew (yr _ _).drew) ?_;rintro e V6 ⟨ga,gc,s7,v6,rfl,B6,k1,k2,kf,kl,kd,I7⟩;have Z6:Hid (V6.heap[w.heap.size+1]?=some (.cells #[.int .i64 (me:Int),.bool st] 40 (0,0))):=(B6.out.block _ d4).trans O.out;obtain⟨t0,t1,tl⟩:=zbl Z6.out))
   clear k1 k2 kf kl kd p0 p1 pl l1 jl DT I5 Z6 Z2 t0 t1 tl;obtain⟨V7,c7⟩:∃ V7,V6.setCell ⟨s.g1,me*4+2,none⟩ (.slice ga gl gc)=V7:=⟨_,rfl⟩;rw[c7] at I7 |-;clear c7;have Z7:Hid (V7.heap[w.heap.size+1]?=some (.cells #[.int .i64 (me:Int),.bool st] 40 (0,0))):=(I7.out.bel.block _ d4).trans O.out;obtain⟨t0,t1,tl⟩:=zbl Z7.out
   have DR:Hid _:=zzi me (zbc W me st) _ d s7 V7 I7.out (by
    rw[zea (by rw[HR.out.lr];exact a8.out)];have h1:prg (zbc W me st) me=prg W me:=by unfold prg;rw[zgQ]
    rw[h1];have h2:=HR.out.ps me a8.out;have h3:=d8.out;show (rlm W me).t.length + _<=_
    omega)
   have PW:Hid (zbz W me st=(prg (zbc W me st) me).foldl (doW me) (zbc W me st)):=by
    have h1:prg (zbc W me st) me=prg W me:=by unfold prg;rw[zgQ]
    show _=_;unfold zbz;rw[yd PK.out,yj,h1]
   go_wp2_with fail
   refine yi DR.out ?_;rintro e V8 ⟨rfl,s8,U⟩;rw[<- PW.out] at U;have I8:Hid _:=U;have Z8:Hid (V8.heap[w.heap.size+2]?=some (.cells #[.slice none 0 0,.slice none 0 0,.slice none 0 0,.slice none 0 0,.slice none 0 0] 28 (0,0))):=(U.bel.block _ (zay a6.out)).trans a6.out;obtain⟨z0,z1,z2,z3,z4,zf,zl⟩:=zal Z8.out;obtain⟨l0,l1,l2,l3,l4,lf,ll⟩:=zal U.box;have e7:w.heap.size+2<M.heap.size:=zay a6.out;have h4:¬ d=w.heap.size+2:=by omega
   have g0:¬ w.heap.size+2=d:=by omega
   clear U DR I7 t0 t1 tl;obtain⟨m,hm⟩:∃ m,(zbz W me st).fs.length=m:=⟨_,rfl⟩;obtain⟨mt,b3⟩:∃ m,(zbz W me st).pt.length=m:=⟨_,rfl⟩;have d9:Hid (_=m):=hm;have e0:Hid (_=mt):=b3;rw[hm] at l0 l1 l2 l3;rw[b3] at l4;clear hm b3 PW
   go_wp2
   exact yw (v:=.tuple #[.agg #[.slice s8.a0 m s8.c0,.slice (some ⟨s8.g1,0,none⟩) m m,.slice (some ⟨s8.g2,0,none⟩) m m,.slice (some ⟨s8.g3,0,none⟩) m m,.slice s8.a4 mt s8.c4],.int .i64 0]) (by simp[results,Tryz.results13,go_sem,z0,z1,z2,z3,z4]) rfl (step_end e5.out a7.out I8.out PK.out rfl (by omega) e7 d9.out e0.out _ _ _ _ _ rfl)
  ·have hz:(E1 == 0)=false:=by simp[a9]
   go_wp2
   exact yw (v:=.tuple #[.agg #[.slice none 0 0,.slice none 0 0,.slice none 0 0,.slice none 0 0,.slice none 0 0],.int .i64 E1]) (by simp[results,Tryz.results13,go_sem,z0,z1,z2,z3,z4]) rfl (znV.no PK.out a9 (((((a7.out.setCell (by show w.heap.size<=w.heap.size+2;omega) _).setCell (by show w.heap.size<=w.heap.size+2;omega) _).setCell (by show w.heap.size<=w.heap.size+2;omega) _).setCell (by show w.heap.size<=w.heap.size+2;omega) _).setCell (by show w.heap.size<=w.heap.size+2;omega) _))
 ·have hz:(E0 == 0)=false:=by simp[F]
  have PK:Hid (zcp W k st=E0):=PN.out F;clear PE PN D1 D2
  go_wp2
  exact yw (v:=.tuple #[.agg #[.slice none 0 0,.slice none 0 0,.slice none 0 0,.slice none 0 0,.slice none 0 0],.int .i64 E0]) (by simp[results,Tryz.results13,go_sem,z0,z1,z2,z3,z4]) rfl (znV.no PK.out F (((((Z.out.setCell (by show w.heap.size<=w.heap.size+2;omega) _).setCell (by show w.heap.size<=w.heap.size+2;omega) _).setCell (by show w.heap.size<=w.heap.size+2;omega) _).setCell (by show w.heap.size<=w.heap.size+2;omega) _).setCell (by show w.heap.size<=w.heap.size+2;omega) _))
theorem zvW{α:Type}{z:α}{A B:List α}(hl:A.length=B.length)(h:∀ i,i<A.length->A.getD i z=B.getD i z):A=B:=by
 refine List.ext_getElem hl fun i h1 D=>?_;have:=h i h1
 rwa [zae _ _ h1,zae _ _ D] at this
def zzu(q:List Ml):Prop:=∀ j,j<q.length->(ml q j).g.length<=9223372036854775807/\zkb (ml q j).g
def zsx(K:Nat):Prop:=∀ (x y:Ml) (ka D:Option Addr) (kc E:Nat) (W:World),x.g.length<=9223372036854775807->zkb x.g->zaI W ka x.g->zaI W D y.g ->
 Calls Tryz.prog K #[.agg #[.int .i64 x.f,.slice ka x.g.length kc],.agg #[.int .i64 y.f,.slice D y.g.length E]] W fun e w' => ∃ r:Bool,e=.returned (.bool r)/\Below W.heap.size W w' /\(r=true↔x=y)
theorem zmN(K:Nat)(eg:∀ args w,(callFunc K args).run Tryz.prog w=.ok (.enter K args) w)(hK:zsx K)(a a' : Option Addr)(c c' : Nat)(S D:List Ml)(w:World)(hN:S.length<=9223372036854775807)(hB:zzu S)(h1:zbM w a S)(h2:zbM w a' D) :
  Calls Tryz.prog 50 #[.slice a S.length c,.slice a' D.length c', .func (.func K) #[] #[]] w fun e w' => ∃ r:Bool,e=.returned (.bool r)/\Below w.heap.size w w' /\(r=true↔S=D):=by
 by_cases hl:S.length=D.length
 ·have E1:Hid ((∀ i,i<S.length->ml S i=ml D i)->S=D):=fun h=>zvW hl h;have E2:Hid (∀ i,ml S i≠ml D i->S≠D):=fun i h e=>h (by rw[e]);have H1:Hid (zbM w a S):=h1;have H2:Hid (zbM w a' D):=h2;have HB:Hid (zzu S):=hB;have HK:Hid (zsx K):=hK;have HL:Hid (D.length=S.length):=hl.symm;rw[<- hl];clear h1 h2 hB hl hK;generalize hn:S.length=n at *;have U:Hid _:=hn;clear hn
  go_enter Tryz.func50,Tryz.ntmps50
  go_wp2
  go_loopg [17] n (fun g s17 wr=>∃ k:Nat,k<=n/\n-k<=g/\s17=.int .i64 k/\Below w.heap.size w wr/\Hid (∀ i,i<k->ml S i=ml D i))
  case atStart=>exact⟨0,by omega,by omega,rfl,yr _ _,fun i hi=>by omega⟩
  case round =>
   obtain⟨k,hk,hg,rfl,E,A⟩:=hrel;by_cases F:k<n
   ·have a8:(k:Int)<(n:Int):=by omega
    obtain⟨b,o,ka,kc,rfl,cf,c0,J⟩:=(H1.out.below E) k (by rw[U.out];exact F);obtain⟨b', o', a5,a6,rfl,ef,e0,M⟩:=(H2.out.below E) k (by rw[HL.out];exact F);have a9:=ye _ _ c0;have a7:=ye _ _ e0;have d1:=fun o1 o2=>HK.out (ml S k) (ml D k) ka a5 kc a6 ((wr.alloc o1).alloc o2) (HB.out k (by rw[U.out];exact F)).1 (HB.out k (by rw[U.out];exact F)).2 (J.below (zah _ _ _)) (M.below (zah _ _ _));have T:Hid _:=E2.out k
    have KK:Hid (ml S k=ml D k->∀ i,i<k+1->ml S i=ml D i):=fun h i hi=>by
     by_cases e:i=k
     ·subst e;exact h
     ·exact A.out i (by omega)
    clear J M;have D1:Hid _:=d1;clear d1;generalize ml S k=x at *;generalize ml D k=y at *
    go_wp2_with fail
    refine(D1.out _ _).mono ?_;rintro e w3 ⟨r,rfl,I,O⟩
    cases r with
    | true =>
     have HR:Hid _:=O.1 rfl;clear O
     go_wp2
     go_roundg (n-(k+1))
     case measure=>omega
     case rel=>exact⟨k+1,by omega,by omega,by go_num,(E.trans ((zah _ _ _).mono E.size)).trans (I.mono (by simp;have:=E.size;omega)),KK.out HR.out⟩
    | false =>
     have HR:Hid (S≠D):=T.out fun e=>by have:=O.2 e;cases this
     clear O
     go_wp2
     go_ret;exact⟨false,rfl,(E.trans ((zah _ _ _).mono E.size)).trans (I.mono (by simp;have:=E.size;omega)),⟨fun h=>(by cases h),fun h=>absurd h HR.out⟩⟩
   ·have:k=n:=by omega
    subst this
    go_wp2
    go_ret;exact⟨true,rfl,E,⟨fun _=>E1.out A.out,fun _=>rfl⟩⟩
 ·have b0:¬ ((S.length:Int)=(D.length:Int)):=by omega
  have Z:Hid (S≠D):=fun e=>hl (by rw[e]);clear h1 h2 hB hK;generalize S.length=n at *;generalize D.length=n' at *
  go_enter Tryz.func50,Tryz.ntmps50
  go_wp2
  go_ret;exact⟨false,rfl,yr _ _,⟨fun h=>(by cases h),fun h=>absurd h Z.out⟩⟩
theorem zAA(x y:Ml):x=y↔x.f=y.f/\x.g=y.g:=by
 cases x;cases y;simp
theorem zpj:zsx 51:=by
 intro x y ka a6 kc a7 W hN hB h1 h2;have E:Hid (x=y↔(x.f=y.f/\x.g=y.g)):=zAA x y;have D:Hid (∀ o1 o2,Calls _ _ _ _ _):=fun o1 o2=>zrQ ka a6 kc a7 x.g y.g ((W.alloc o1).alloc o2) hN hB (h1.below (zah _ _ _)) (h2.below (zah _ _ _));clear h1 h2 hN hB;obtain⟨J,O⟩:=x;obtain⟨M,T⟩:=y;dsimp only at E D |-;generalize Z:O.length=xl at D |-;generalize a5:T.length=yl at D |-;clear Z a5;by_cases I:J=M
 ·have F:Hid ((⟨J,O⟩:Ml)=⟨M,T⟩↔O=T):=by show _↔_;rw[E.out];simp[I]
  subst I;clear E
  go_enter Tryz.func51,Tryz.ntmps51
  go_wp2_with fail
  refine yi (D.out _ _) ?_;rintro e w1 ⟨r,rfl,hb,hr⟩;have HB:Hid (Below W.heap.size W w1):=(zah _ _ _).trans (hb.mono (by simp;omega));have U:Hid _:=hr;clear hb hr
  go_wp2
  go_ret;exact⟨r,rfl,HB.out,U.out.trans F.out.symm⟩
 ·have hd:decide (J=M)=false:=yF I;have a8:(J == M)=false:=by simp[I]
  have U:Hid (¬ (⟨J,O⟩:Ml)=⟨M,T⟩):=fun h=>I (E.out.1 h).1;clear E
  go_enter Tryz.func51,Tryz.ntmps51
  go_wp2_with fail
  go_ret;exact⟨false,rfl,zah _ _ _,⟨fun h=>(by cases h),fun h=>absurd h U.out⟩⟩
theorem zrU(a E:Option Addr)(c F:Nat)(S D:List Ml)(w:World)(U:S.length<=9223372036854775807)(J:zzu S)(h1:zbM w a S)(I:zbM w E D) :
  Calls Tryz.prog 19 #[.slice a S.length c,.slice E D.length F] w fun e w' => ∃ r:Bool,e=.returned (.bool r)/\Below w.heap.size w w' /\(r=true↔S=D):=by
 have O:Hid _:=zmN 51 (yK Tryz.func51 (by kernel_rfl) rfl) zpj a E c F S D w U J h1 I;clear h1 I J;generalize S.length=n at *;generalize D.length=n' at *
 go_enter Tryz.func19,Tryz.ntmps19
 go_wp2_with fail
 refine yi O.out ?_;rintro e w1 ⟨r,rfl,Z,M⟩;have T:Hid _:=M;clear M
 go_wp2
 go_ret;exact⟨r,rfl,Z,T.out⟩
end Go.Proofs.YtcbcpomacdngmaaGreat
