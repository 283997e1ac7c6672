/-
  x
-/
import Derived.Test.YtcbcpomacdngmaaGreatM44
namespace Go.Proofs.YtcbcpomacdngmaaGreat
set_option maxRecDepth 100000
set_option maxHeartbeats 4000000
set_option linter.unusedVariables false
open Go.RowKit Go.ChangeShapes Go.WideShapes
theorem zyB(me:Nat)(W:Wl)(x:Ac):PBy 122 me W x (setR W me { rlm W me with i:=gr (pt W.pt x.n.toNat).cm 0 }) (zfu W.pt (many W) x.n me (zaB W me)) (zhK W.pt x.n):=fun w0 d s V I=>by
 obtain⟨xk,xa,xb,xc,J⟩:=x;have II:Hid (SW w0 d me W s V):=I;have b3:=I.lt;have b5:Hid _:=b3;obtain⟨l0,l1,l2,l3,l4,lf,ll⟩:=zaj I.box;have d5:d<V.heap.size:=ll;have n8:W.fs.length<=8:=I.rt.fs.few;have c6:me<W.fs.length:=I.sf;clear b3;dsimp only;have b2:∀ V2,Below V.heap.size V V2->∀ b,SX w0.heap.size d s b->b<V2.heap.size:=fun V2 hV b hb=>yx (b5.out b hb) hV.size;have a5:=I.big;have D:Hid (∀ V2 z,Below V.heap.size V V2->V.heap.size<=z->z<V2.heap.size->Calls _ _ _ _ _):=fun V2 z hV hz d7=>zuh (fun b=>SX w0.heap.size d s b\/b=z) s.a4 s.c4 W.pt (many W) J me (zaB W me) V2 (fun b hb=>hb.elim (b2 V2 hV b) (fun e=>by omega)) a5.1 a5.2 I.dp.pc (I.dp.pt.grow (zar.of_below hV) (fun b hb hy=>hy.elim id (fun e=>by omega)));have EP:Hid (zfu W.pt (many W) J me (zaB W me)=0->zhO W.pt (many W) J me (zaB W me)=zhK W.pt J/\zug W.pt (many W) J me (zaB W me)=gr (pt W.pt J.toNat).cm 0):=fun h=>⟨yb h,yb h⟩
 have HQ:Hid (zfu W.pt (many W) J me (zaB W me)=0->zaE { rlm W me with i:=gr (pt W.pt J.toNat).cm 0 }=0):=fun h=>by
  have h1:=(zgu I.rt I.sf h).rs me I.sf;have h2:rlm (setR W me { rlm W me with i:=gr (pt W.pt J.toNat).cm 0 }) me={ rlm W me with i:=gr (pt W.pt J.toNat).cm 0 }:=by rw[zdB (by rw[I.rt.lr];exact I.sf),yb rfl]
  rw[<- h2];exact h1
 obtain⟨k0,k1,k2,k3,kf,kl⟩:=I.rcells I.sf;clear k0 k1 k3 kf;show yL _ #[.pointer (some ⟨d,0,none⟩),.int .i64 (me:Int),.int .i64 (zaB W me),.agg #[.int .i64 xk,.int .i64 xa,.int .i64 xb,.int .i64 xc,.int .i64 J]] V _;obtain⟨n,hn⟩:∃ n,W.fs.length=n:=⟨_,rfl⟩;have HN:Hid (W.fs.length=n):=hn;obtain⟨nt,a9⟩:∃ n,W.pt.length=n:=⟨_,rfl⟩;have c9:Hid (W.pt.length=nt):=a9;rw[a9] at l4 D;rw[hn] at l0 l1 l2 l3 n8 c6;rw[show many W=(n:Int) from by rw[<- hn];rfl] at D EP HQ |-;clear hn a9 I b2 a5;have c8:(me:Int)<(n:Int):=by omega
 generalize zaB W me=tn at *;generalize zfu W.pt n J me tn=E at *;generalize zhO W.pt n J me tn=M at *;generalize zug W.pt n J me tn=G at *;generalize zhK W.pt J=L at *;generalize gr (pt W.pt J.toNat).cm 0=G0 at *
 go_enter Tryz.func122,Tryz.ntmps122
 go_upto_region 1 with fail
 obtain⟨F,b1,T,y0,y1,y2,y3,y4,sV⟩:=zcx V xk xa xb xc J;rw[b1];clear b1;replace l0:=zab l0 T.out;replace l1:=zab l1 T.out;replace l2:=zab l2 T.out;replace l3:=zab l3 T.out;replace l4:=zab l4 T.out;replace k2:=zab k2 T.out;have n0:¬ F.heap.size=d:=by omega
 have o0:¬ d=F.heap.size:=by omega
 have n2:¬ F.heap.size=V.heap.size:=by omega
 have o2:¬ V.heap.size=F.heap.size:=by omega
 have d6:d<F.heap.size:=by omega
 go_cut [10,11,12] (fun s10 s11 s12 wx=>∃ (b:Nat) (U:Option Addr) (vc:Nat) (ga:Option Addr) (gc:Nat),s10=.slice U M.length vc/\s11=.pointer (some ⟨b,0,none⟩)/\s12=.int .i64 E/\Hid (Below F.heap.size F wx)/\Hid (wx.heap[b]?=some (.cells #[.slice ga G.length gc] 47 (0,0)))/\F.heap.size<=b/\Hid (zbN (SX w0.heap.size d s) wx U M)/\Hid (SlA U M.length vc)/\Hid (St (SX w0.heap.size d s) (fun V=>zaF V ga G) wx))
 case first =>
  go_region_held3 (fun b0=>b0.cell? ⟨d,0,none⟩=some (.slice s.a0 n s.c0)/\b0.cell? ⟨d,4,none⟩=some (.slice s.a4 nt s.c4)/\b0.cell? ⟨V.heap.size,4,none⟩=some (.int .i64 J)) (go_keep) (first|(go_at_call 146;refine ye (D.out F.drew V.heap.size T.out.drew (yj _) sV) ?_;rintro e w3 ⟨U,vc,ga,gc,rfl,O,a8,a7,a6⟩;have Z:Hid (Below F.heap.size F w3):=(yk _ _).drew.trans O;have S3:Hid _:=a8;have P3:Hid (zbN (fun b=>SX w0.heap.size d s b\/b=V.heap.size) w3 U M):=a7;have C3:Hid (St (fun b=>SX w0.heap.size d s b\/b=V.heap.size) (fun V=>zaF V ga G) w3):=a6;have b7:=zab l0 Z.out;have b8:=zab l4 Z.out;have b9:=zab y4 Z.out;clear O a8 a7 a6)|(go_at_call 146;refine ye (D.out (F.alloc (.cells #[.slice none 0 0] 47)).drew F.heap.size (T.out.trans ((zaa F _).mono T.out.size)).drew T.out.size (by show F.heap.size<(F.alloc _).heap.size;simp)) ?_;rintro e w3 ⟨U,vc,ga,gc,rfl,O,a8,a7,a6⟩;have Z:Hid (Below F.heap.size F w3):=(zaa F _).drew.trans (O.mono (by simp));have S3:Hid _:=a8;have P3:Hid (zbN (fun b=>SX w0.heap.size d s b\/b=F.heap.size) w3 U M):=a7;have C3:Hid (St (fun b=>SX w0.heap.size d s b\/b=F.heap.size) (fun V=>zaF V ga G) w3):=a6;have b7:=zab l0 Z.out;have b8:=zab l4 Z.out;have b9:=zab y4 Z.out;have X3:Hid (w3.heap[F.heap.size]?=some (.cells #[.slice none 0 0] 47 (0,0))):=zav (W:=(F.alloc (.cells #[.slice none 0 0] 47)).drew) (yK F _) O;have x0:=zaI X3.out;have xf:=zaY (o:=0) X3.out;have xl:F.heap.size<w3.heap.size:=zau X3.out;clear O a8 a7 a6))
  ·go_wp2_with fail
   go_meet
   case rel=>exact⟨_,U,vc,ga,gc,rfl,rfl,rfl,Z.out.trans ((zaa _ _).mono Z.out.size),yK _ _,Z.out.size,fun w' ho=>(P3.out.off (zar.of_below (zaa _ _))) w' (ho.mono (fun b h=>Or.inl h)),S3.out,(C3.out.off (zar.of_below (zaa _ _))).less (fun b h=>Or.inl h)⟩
  ·go_wp2_with fail
   go_meet
   case rel=>exact⟨_,U,vc,ga,gc,rfl,rfl,rfl,Z.out.setCell (yj _) _,ziN X3.out,yj _,fun w' ho=>(P3.out.off (zar.set _ _ (Or.inr rfl))) w' (ho.mono (fun b h=>Or.inl h)),S3.out,(C3.out.off (zar.set _ _ (Or.inr rfl))).less (fun b h=>Or.inl h)⟩
 case rest =>
  obtain⟨b,U,vc,ga,gc,rfl,rfl,rfl,HB,HX,d4,HP,b6,HC⟩:=hcut;have BW:Hid (Below V.heap.size V wc):=T.out.trans (HB.out.mono T.out.size);have I2:Hid _:=II.out.below BW.out;clear l0 l1 l2 l3 l4 k2 D;by_cases hE:E=0
  ·subst hE;obtain⟨rfl,rfl⟩:=EP.out rfl;have hs:=I2.out.setIn (c:=gc) (HQ.out rfl) HC.out;have HS:Hid _:=hs;have b4:Hid _:=HP.out.off (zar.set wc (o:=me*4+2) (.slice ga G.length gc) (show SX w0.heap.size d s s.g1 from .inr (.inr (.inl rfl))));have OX:Hid (zar (fun b=>b=s.g1) V (wc.setCell ⟨s.g1,me*4+2,none⟩ (.slice ga G.length gc))):=(zar.of_below BW.out).trans (zar.set (X:=fun b=>b=s.g1) _ _ rfl);obtain⟨e4,c7,e5,e6,e7,e8,e9⟩:=zaj I2.out.box;rw[HN.out] at c7;obtain⟨d8,d9,e0,e1,e2,e3⟩:=I2.out.rcells I2.out.sf;have x0:=zaI HX.out;have bl:b<wc.heap.size:=zau HX.out;have ng:¬ s.g1=b:=(by omega);have g0:¬ b=s.g1:=(by omega);clear hs
   go_wp2_with fail
   go_region
   go_wp2
   exact yv (v:=.tuple #[.slice U M.length vc,.int .i64 0]) (by simp[results,Tryz.results122,go_sem]) rfl ⟨U,vc,M,_,rfl,OX.out.trans (zar.of_below (yk _ _).drew),fun _=>⟨rfl,HS.out.below (yk _ _).drew,zbN.off (X:=SX w0.heap.size d s) b4.out (zar.of_below (yk _ _).drew),b6.out⟩,fun h=>absurd rfl h⟩
  ·have hz:(E == 0)=false:=by simp[hE]
   go_wp2
   exact yv (v:=.tuple #[.slice none 0 0,.int .i64 E]) (by simp[results,Tryz.results122,go_sem]) rfl ⟨none,0,[],s,rfl,zar.of_below BW.out,fun h=>absurd h hE,fun _=>I2.out⟩
theorem zwb{E K:Nat}:∀ V D:World,V.cell? ⟨E,0,none⟩=some (.func (.func K) #[] #[])->Below V.heap.size V D->D.cell? ⟨E,0,none⟩=some (.func (.func K) #[] #[]):=fun _ _ h F=>zab h F
theorem zpv{L:List Fr}{f t x:Int}(h:zdF L f t x=0):zax L t=0:=(zbR h).2.2.1
theorem zop(me:Nat)(W:Wl)(x:Ac)(V:World)(H:zan W)(hm:me<W.fs.length):yL 79 #[.int .i64 x.k] V (zjT me W x V):=by
 by_cases U:x.k=9
 ·rw[U];refine ye (ztl V) (fun e V1 E=>zjT.may (C:=fun _=>True) (t:=x.n) E trivial (yJ Tryz.func111 (by kernel_rfl) rfl) (yJ Tryz.func112 (by kernel_rfl) rfl) (by decide) (fun V=>zhx x V) (fun _ _ _ _=>trivial) (fun h=>zjJ me W x h) ?_);rw[show zdh W me x=zAQ W me x.n from yb U];exact zer _ _ _ _ _
 by_cases D:x.k=13
 ·rw[D];refine ye (zqJ V) (fun e V1 E=>zjT.may (C:=fun _=>True) (t:=x.n) E trivial (yJ Tryz.func111 (by kernel_rfl) rfl) (yJ Tryz.func116 (by kernel_rfl) rfl) (by decide) (fun V=>zhx x V) (fun _ _ _ _=>trivial) (fun h=>zqR me W x h) ?_);rw[show zdh W me x=zxx W me x.n from by unfold zdh;rw[ya U,yb D]];exact zer _ _ _ _ _
 by_cases F:x.k=12
 ·rw[F];refine ye (zqI V) (fun e V1 E=>zjT.may (C:=fun _=>True) (t:=x.a) E trivial (yJ Tryz.func113 (by kernel_rfl) rfl) (yJ Tryz.func115 (by kernel_rfl) rfl) (by decide) (fun V=>zhw x V) (fun _ _ _ _=>trivial) (fun h=>zrj me W x (zpv h) _ (zeO _ _ _ _)) ?_);rw[show zdh W me x=zpU W me x.a x.b from by unfold zdh;rw[ya U,ya D,yb F]];exact zer _ _ _ _ _
 by_cases I:x.k=10
 ·rw[I];refine ye (zqH V) (fun e V1 E=>zjT.may (C:=fun _=>True) (t:=x.a) E trivial (yJ Tryz.func113 (by kernel_rfl) rfl) (yJ Tryz.func114 (by kernel_rfl) rfl) (by decide) (fun V=>zhw x V) (fun _ _ _ _=>trivial) (fun h=>zuG me W x h) ?_);rw[show zdh W me x=zma W me x.a x.n from by unfold zdh;rw[ya U,ya D,ya F,yb I]];exact zer _ _ _ _ _
 by_cases J:x.k=21
 ·rw[J];refine ye (zqP V) (fun e V1 E=>zjT.may (C:=fun _=>True) (t:=x.n) E trivial (yJ Tryz.func111 (by kernel_rfl) rfl) (yJ Tryz.func117 (by kernel_rfl) rfl) (by decide) (fun V=>zhx x V) (fun _ _ _ _=>trivial) (fun h=>ztD me W x h) ?_);rw[show zdh W me x=wGo W me x.n x.a from by unfold zdh;rw[ya U,ya D,ya F,ya I,yb J]];exact zer _ _ _ _ _
 by_cases M:x.k=16
 ·rw[M];refine ye (zqK V) (fun e V1 E=>⟨_,_,fun _=>True,E.1,E.2,trivial,(fun _ _ _ _=>trivial),(yJ Tryz.func118 (by kernel_rfl) rfl),?_⟩);rw[show zdh W me x=zuL W me from by unfold zdh;rw[ya U,ya D,ya F,ya I,ya J,yb M]];exact ztP me W x
 by_cases O:x.k=17
 ·rw[O];refine ye (zqL V) (fun e V1 E=>?_);obtain⟨cb,E,hc⟩:=E;refine zjT.may (C:=fun V=>V.cell? ⟨cb,0,none⟩=some (.func (.func 120) #[] #[])) (t:=x.a) E hc (yJ Tryz.func113 (by kernel_rfl) rfl) (yJ Tryz.func143 (by kernel_rfl) rfl) (by decide) (fun V=>zhw x V) zwb (fun h=>zez 120 cb (yJ Tryz.func120 (by kernel_rfl) rfl) me W x W _ _ (zyz me W x (zpv h)) (fun h2=>zjn H h2) _ (by have h3:=zeO [zkm W.pt (many W) x.n me (zaB W me) x.a (zaB W x.a)] W { W with pt:=zhG W.pt x.n x.a (zaB W x.a) } 0;rw[zkD] at h3;exact h3)) ?_;rw[show zdh W me x=zAe W me x.a x.n from by unfold zdh;rw[ya U,ya D,ya F,ya I,ya J,ya M,yb O]];exact zer _ _ _ _ _
 by_cases Z:x.k=18
 ·rw[Z];refine ye (zqM V) (fun e V1 E=>?_);obtain⟨cb,he,hb,hc⟩:=E;refine⟨_,_,fun V=>V.cell? ⟨cb,0,none⟩=some (.func (.func 121) #[] #[]),he,hb,hc,zwb,(yJ Tryz.func143 (by kernel_rfl) rfl),zez 121 cb (yJ Tryz.func121 (by kernel_rfl) rfl) me W x W _ _ (zyC me W x) (fun h2=>zjr (n:=x.n) H (k:=me) (zat (zat (zat h2).2).2).1) _ ?_⟩;rw[show zdh W me x=zAg W me x.a x.n from by unfold zdh;rw[ya U,ya D,ya F,ya I,ya J,ya M,ya O,yb Z]];exact zeO _ _ _ _
 by_cases a5:x.k=19
 ·rw[a5];refine ye (zqN V) (fun e V1 E=>?_);obtain⟨cb,he,hb,hc⟩:=E;refine⟨_,_,fun V=>V.cell? ⟨cb,0,none⟩=some (.func (.func 122) #[] #[]),he,hb,hc,zwb,(yJ Tryz.func143 (by kernel_rfl) rfl),zez 122 cb (yJ Tryz.func122 (by kernel_rfl) rfl) me W x _ _ _ (zyB me W x) (fun h2=>zgu H hm h2) _ ?_⟩;rw[show zdh W me x=zAf W me x.n from by unfold zdh;rw[ya U,ya D,ya F,ya I,ya J,ya M,ya O,ya Z,yb a5]];have h3:=zeO [zfu W.pt (many W) x.n me (zaB W me)] W { setR W me { rlm W me with i:=gr (pt W.pt x.n.toNat).cm 0 } with pt:=zhK W.pt x.n } 0;rw[zkD] at h3;exact h3
 by_cases T:x.k=20
 ·rw[T];refine ye (zqO V) (fun e V1 E=>?_);obtain⟨cb,he,hb,hc⟩:=E;refine⟨_,_,fun V=>V.cell? ⟨cb,0,none⟩=some (.func (.func 123) #[] #[]),he,hb,hc,zwb,(yJ Tryz.func143 (by kernel_rfl) rfl),zez 123 cb (yJ Tryz.func123 (by kernel_rfl) rfl) me W x W _ _ (zyF me W x) (fun h2=>zjE (k:=me) H h2) _ ?_⟩;rw[show zdh W me x=zAh W me x.n from by unfold zdh;rw[ya U,ya D,ya F,ya I,ya J,ya M,ya O,ya Z,ya a5,yb T]];have h3:=zeO [zaU W.pt (many W) x.n me (zaB W me)] W { W with pt:=zhS W.pt x.n } 0;rw[zkD] at h3;exact h3
 refine ye (zqQ x.k V ⟨U,I,F,D,J,M,O,Z,a5,T⟩) (fun e V1 E=>⟨_,_,fun _=>True,E.1,E.2,trivial,(fun _ _ _ _=>trivial),(yJ Tryz.func124 (by kernel_rfl) rfl),?_⟩);rw[show zdh W me x=wDo W me x from by unfold zdh;rw[ya U,ya D,ya F,ya I,ya J,ya M,ya O,ya Z,ya a5,ya T]];exact zvt me W x
theorem zxs{w:World}{b:Nat}{u0:Value}(c0:w.cell? ⟨b,0,none⟩=some u0):∀ j u,([u0]:List Value)[j]?=some u->w.cell? ((⟨b,0,none⟩:Addr).add j)=some u:=fun j u D=>by
 rw[Addr.add_lit,yz]
 match j,D with
 | 0,D=>cases D;exact c0
def zAt(D:W0)(d me:Nat)(W:Wl)(e:Ending)(V:World):Prop:=e=.returned (.tuple #[])/\∃ s,SW D d me W s V
theorem zsL{me:Nat}{W:Wl}{pl:List Ac}{i:Nat}(h:i<pl.length):(pl.take (i+1)).foldl (doW me) W=doW me ((pl.take i).foldl (doW me) W) (ac pl i):=by
 rw[List.take_succ_eq_append_getElem h,List.foldl_append];show doW me _ _=_;unfold ac;rw[zae _ _ h]
theorem SW.tellv{D:W0}{d me:Nat}{W:Wl}{s:SD}{V:World}(I:SW D d me W s V){v:Value}{o:Int}(J:(rlm W me).t.length+1<=4800)(M:v=.int .i64 o) :
  (App (SX D.heap.size d s) D.heap.size 3 1 (s.R me).a3 (rlm W me).t.length (s.R me).c3 ((rlm W me).t.map (Value.int .i64)) s.t V)/\(∀ j,s.t=some j->j≠d/\j≠s.g1) /\
  ∀ E g cap,V.grownBy E s.t->E.ownsRow D.heap.size 3 1 (.slice (some ⟨g,0,none⟩) ((rlm W me).t.length+1) cap) ((rlm W me).t.length+1) ((rlm W me).t.map (Value.int .i64)++[v])->(s.t=some g\/V.heap.size<=g)->∃ O,SW D d me (zjK W me o) O (E.setCell ⟨s.g1,me*4+3,none⟩ (.slice (some ⟨g,0,none⟩) ((rlm W me).t.length+1) cap)):=by
 subst M;refine⟨I.dp.ts,fun j h=>⟨(I.ap.tt j h).1,(I.ap.tt j h).2.1⟩,fun E g cap hg F hl=>⟨_,I.told hg F hl ?_ rfl⟩⟩;have H:=zjL I.rt I.sf o J;have h:=H.rs me (by show me<W.fs.length;exact I.sf);rw[zjM (by rw[I.rt.lr];exact I.sf)] at h;exact h
theorem zyD(me:Nat)(W:Wl)(w0:W0)(d:Nat)(s:SD)(V:World)(I:SW w0 d me W s V)(ht:(rlm W me).t.length+(prg W me).length<=4800):yL 41 #[.pointer (some ⟨d,0,none⟩),.int .i64 (me:Int)] V (zAt w0 d me ((prg W me).foldl (doW me) W)):=by
 have I0:Hid _:=I.ghost (I.dp.pr me I.sf);obtain⟨l0,l1,l2,l3,l4,lf,ll⟩:=zaj I.box;have p2:V.cell? ⟨s.g2,me,none⟩=some (.slice (s.P me).1 (prg W me).length (s.P me).2):=I.r2.cell I.sf;have n8:W.fs.length<=8:=I.rt.fs.few;have g8:me<W.fs.length:=I.sf;have hp:(prg W me).length<=40:=I.rt.ps me I.sf
 have HF:Hid (∀ i,i<=(prg W me).length->(rlm (((prg W me).take i).foldl (doW me) W) me).t.length=(rlm W me).t.length+i):=fun i hi=>by
  have h:=(zly ((prg W me).take i) I.rt I.sf (by rw[List.length_take];omega)).2.2;rw[h,List.length_take];omega
 have HT:Hid _:=ht;obtain⟨pl,e0⟩:∃ p,prg W me=p:=⟨_,rfl⟩;rw[e0] at I0 p2 HF HT hp |-;obtain⟨N,hN⟩:∃ N,pl.length=N:=⟨_,rfl⟩;have HN:Hid (pl.length=N):=hN;rw[hN] at p2 HF HT hp;generalize s.P me=Pm at *;obtain⟨pa,pc⟩:=Pm;dsimp only at p2 I0;have b9:Hid (pl.take N=pl):=by rw[<- hN];exact List.take_length
 have g5:(me:Int)<(W.fs.length:Int):=by omega
 clear ht hN e0 l0 l1 l3 l4 I;generalize W.fs.length=n0 at *
 go_enter Tryz.func41,Tryz.ntmps41
 go_wp2_with fail
 go_loopg [16] N (fun g s16 wr=>∃ (i:Nat) (si:SD),i<=N/\N-i<=g/\s16=.int .i64 i/\Hid (SW ⟨w0.w,fun V=>w0.P V/\zbE V pa pl⟩ d me ((pl.take i).foldl (doW me) W) si wr))
 case atStart=>exact⟨0,s,by omega,by omega,rfl,I0.out⟩
 case round =>
  obtain⟨i,si,hi,hg,rfl,HI⟩:=hrel;clear I0 l2 p2 ll lf;by_cases d7:i<N
  ·have d8:(i:Int)<(N:Int):=(by omega);obtain⟨pb,po,e5,x0,x1,x2,x3,x4⟩:=HI.out.drop.2 i (by rw[HN.out];exact d7);subst e5;have TL:Hid _:=HF.out i (by omega);have NX:Hid (_=_):=zsL (me:=me) (W:=W) (pl:=pl) (i:=i) (by rw[HN.out];exact d7);obtain⟨X,hX⟩:∃ X,ac pl i=X:=⟨_,rfl⟩;rw[hX] at x0 x1 x2 x3 x4 NX;clear hX;obtain⟨Wi,c8⟩:∃ Wi,(pl.take i).foldl (doW me) W=Wi:=⟨_,rfl⟩;rw[c8] at HI TL NX;clear c8;obtain⟨xk,xa,xb,xc,xn⟩:=X;dsimp only at x0 x1 x2 x3 x4;have e1:=HI.out.lt;have e3:Hid _:=e1;have HR:Hid (zan Wi):=HI.out.rt;have HM:Hid (me<Wi.fs.length):=HI.out.sf;have DO:Hid (∀ V,Calls _ _ _ _ _):=fun V=>zop me Wi ⟨xk,xa,xb,xc,xn⟩ V HR.out HM.out;have b1:Hid _:=zzY HR.out HM.out ⟨xk,xa,xb,xc,xn⟩;have QD:Hid (doW me Wi ⟨xk,xa,xb,xc,xn⟩=zjK (zdh Wi me ⟨xk,xa,xb,xc,xn⟩).w me (toldOf (zdh Wi me ⟨xk,xa,xb,xc,xn⟩))):=rfl;have QT:Hid _:=zle HR.out HM.out ⟨xk,xa,xb,xc,xn⟩;unfold zjT at DO;obtain⟨q,hq⟩:∃ q,zdh Wi me ⟨xk,xa,xb,xc,xn⟩=q:=⟨_,rfl⟩;rw[hq] at b1 QD QT DO;clear hq e1;obtain⟨qe,O,qo⟩:=q;dsimp only at b1 QD QT
   go_upto_region 3 with fail
   obtain⟨V1,b2⟩:∃ V1,wr.alloc (.cells #[.int .i64 xk,.int .i64 xa,.int .i64 xb,.int .i64 xc,.int .i64 xn] 36)=V1:=⟨_,rfl⟩;have BV:Hid (Below wr.heap.size wr V1):=(by rw[<- b2];exact zaa _ _);have YB:Hid (V1.heap[wr.heap.size]?=some (.cells #[.int .i64 xk,.int .i64 xa,.int .i64 xb,.int .i64 xc,.int .i64 xn] 36 (0,0))):=(by rw[<- b2];exact yK _ _);rw[b2];clear b2;obtain⟨y0,y1,y2,y3,y4,yf,yl⟩:=zaj YB.out;have I1:Hid (SW ⟨w0.w,fun V=>(w0.P V/\zbE V (some ⟨pb,po,none⟩) pl)/\V.heap[wr.heap.size]?=some (.cells #[.int .i64 xk,.int .i64 xa,.int .i64 xb,.int .i64 xc,.int .i64 xn] 36 (0,0))⟩ d me Wi si V1):=(HI.out.below BV.out).ghost (fun V' ho=>(ho.block _ yl (fun h=>by have:=e3.out _ h;omega)).trans YB.out)
   go_region_held3 (fun M=>M.cell? ⟨wr.heap.size,0,none⟩=some (.int .i64 xk)/\M.cell? ⟨wr.heap.size,1,none⟩=some (.int .i64 xa)/\M.cell? ⟨wr.heap.size,2,none⟩=some (.int .i64 xb)/\M.cell? ⟨wr.heap.size,3,none⟩=some (.int .i64 xc)/\M.cell? ⟨wr.heap.size,4,none⟩=some (.int .i64 xn)) (go_keep) (first|(go_at_call 79;refine ye (DO.out V1.drew) ?_;rintro e w3 ⟨K,c7,C,rfl,c9,d5,d9,g7,d6⟩;have B3:Hid (Below V1.heap.size V1 w3):=(yk _ _).drew.trans c9;have C3:Hid (C w3):=d5;have LD:Hid (zhn K c7 C me Wi ⟨xk,xa,xb,xc,xn⟩ ⟨qe,O,qo⟩):=d6;have I3:Hid _:=I1.out.below B3.out;have e6:=zab y0 B3.out;have e7:=zab y1 B3.out;have e8:=zab y2 B3.out;have e9:=zab y3 B3.out;have g0:=zab y4 B3.out;clear c9 d5 d9 d6)|(go_at_fn K;refine ye (LD.out _ d si w3 I3.out C3.out) ?_;rintro e F ⟨o,s4,rfl,ho,b5⟩;have HO:Hid _:=ho;have I4:Hid _:=b5.drop.1;obtain⟨u0,u1,u2,u3,u4,uf,ul⟩:=zaj b5.drop.2;clear ho b5))
   clear y0 y1 y2 y3 y4 e6 e7 e8 e9 g0 u0 u1 u2 u3 u4 yf yl uf ul x0 x1 x2 x3 x4 DO LD C3 I1 I3 HI YB;have e2:(rlm O me).t.length+1<=4800:=(by rw[QT.out,TL.out];have:=HT.out;omega);have c6:Hid _:=b1.out;obtain⟨d0,c1,d2,d3,d4,df,dl⟩:=zaj I4.out.box;obtain⟨k0,k1,k2,ct,kf,kl⟩:=I4.out.rcells I4.out.sf;obtain⟨n,hn⟩:∃ n,O.fs.length=n:=⟨_,rfl⟩;rw[hn] at c1;have g9:me<n:=(by rw[<- hn];exact I4.out.sf);have h3:n<=8:=(by rw[<- hn];exact I4.out.rt.fs.few);have g6:(me:Int)<(n:Int):=(by omega);clear d0 d2 d3 d4 k0 k1 k2 hn;have TB:Hid ((rlm O me).t.length<=4800):=by show _<=_;omega
   have a5:Hid (∀ E:Int,E=toldOf ⟨qe,O,qo⟩->(App (SX w0.heap.size d s4) w0.heap.size 3 1 (s4.R me).a3 (rlm O me).t.length (s4.R me).c3 ((rlm O me).t.map (Value.int .i64)) s4.t (F.drew.alloc (.cells #[.int .i64 E] 3)))/\(∀ j,s4.t=some j->j≠d/\j≠s4.g1)/\(∀ w9,(F.drew.alloc (.cells #[.int .i64 E] 3)).grownBy w9 s4.t->w9.frozen? ⟨s4.g1,me*4+3,none⟩=false)/\(w0.heap.size<=(F.drew.alloc (.cells #[.int .i64 E] 3)).heap.size)/\∀ V1 g cap,(F.drew.alloc (.cells #[.int .i64 E] 3)).grownBy V1 s4.t->V1.ownsRow w0.heap.size 3 1 (.slice (some ⟨g,0,none⟩) ((rlm O me).t.length+1) cap) ((rlm O me).t.length+1) ((rlm O me).t.map (Value.int .i64)++[.int .i64 E])->(s4.t=some g\/(F.drew.alloc (.cells #[.int .i64 E] 3)).heap.size<=g)->∃ s', SW ⟨w0.w,fun V=>w0.P V/\zbE V (some ⟨pb,po,none⟩) pl⟩ d me ((pl.take (i+1)).foldl (doW me) W) s' (V1.setCell ⟨s4.g1,me*4+3,none⟩ (.slice (some ⟨g,0,none⟩) ((rlm O me).t.length+1) cap))):=fun E T=>by
    have I5:=I4.out.below ((yk F.heap.size F).drew.alloc (yj _) (.cells #[.int .i64 E] 3));have h:=I5.tellv (v:=.int .i64 E) (o:=E) e2 rfl;refine⟨h.1,h.2.1,fun w9 hg=>(yC (hg.block s4.g1 I5.r1.lt (fun e=>(h.2.1 s4.g1 e.symm).2 rfl))).trans (I5.r1.frozen _),I5.bel.size,fun V1 g cap a b c=>?_⟩;rw[NX.out,QD.out,<- T];exact h.2.2 V1 g cap a b c
   clear e2 I4 QD NX QT b1;by_cases hE:qe=0
   ·subst hE;obtain rfl:=HO.out rfl;have FA:=a5.out o (show o=toldOf ⟨0,O,o⟩ from rfl);obtain⟨fa,nt,fz,a8,a7⟩:=FA;have HA:Hid _:=fa;have FZ:Hid _:=fz;have Z:Hid _:=a7;clear fa fz a7 a5 HO;generalize (rlm O me).t.map (Value.int .i64)=ts at *;have e4:(rlm O me).t.length<=4800:=TB.out;generalize (rlm O me).t.length=tl at *;generalize s4.t=tt at *;generalize s4.g1=g1 at *;generalize (s4.R me).a3=ta at *;generalize (s4.R me).c3=tc at *;obtain⟨E,T⟩:∃ E,E=o:=⟨_,rfl⟩;rw[<- T] at HA FZ Z a8 |-;clear T
    go_wp2_with fail
    obtain⟨i0,b4,b6,b7,b8⟩:=info_parts ziE;refine wp_region_noPanic ?_;refine zeR (S:=fun M=>M.cell? ⟨d,1,none⟩=some (.slice (some ⟨g1,0,none⟩) n n)/\M.cell? ⟨g1,me*4+3,none⟩=some (.slice ta tl tc)) 18 (by kernel_rfl) (by(try dsimp only);go_keep) (fun hHeld=>?_);refine zaf (i:=0) ?_;simp[Act.put];refine zaf (i:=1) ?_;simp[Act.put];refine zaf (i:=2) ?_;simp[Act.put];refine zaf (i:=3) ?_;simp[Act.put];refine zaf (i:=4) ?_;simp[Act.put];refine zaf (i:=5) ?_;simp[Act.put];refine zaf (i:=6) ?_;simp[Act.put];refine zaf (i:=7) ?_;simp[Act.put];refine zaf (i:=8) ?_;simp[Act.put];refine zaf (i:=9) ?_;simp[Act.put];refine zaf (i:=10) ?_;simp[Act.put];refine zaf (i:=11) ?_;simp[Act.put];refine zaf (i:=12) ?_;simp[Act.put];refine zaf (i:=13) ?_;simp[Act.put];refine zbD (i:=14) (by kernel_rfl) rfl (fun K hK=>?_);go_simp;refine hK.out _ _ ?_ (fun hHeld=>?_)
    ·exact⟨zab c1 ((yk F.heap.size F).drew.alloc (yj _) (.cells #[.int .i64 E] 3)),zab ct ((yk F.heap.size F).drew.alloc (yj _) (.cells #[.int .i64 E] 3))⟩
    clear hK K hHeld
    try simp[Act.put]
    refine zbD (i:=15) (by kernel_rfl) rfl (fun K hK=>?_);refine zlX (F.drew.alloc (.cells #[.int .i64 E] 3)) rfl (.tmp 46) (.tmp 48) 48 rfl 3 i0 (.int .i64 0) 1 8 Tryz.underlying48 b4 b6 b7 b8 rfl (by decide) ta tl tc ts tt HA.out a8 rfl ⟨F.heap.size,0,none⟩ 1 1 [.int .i64 E] rfl rfl (zxs (zad F.drew _ _ 0 rfl)) (by intro u hu;simp at hu;subst hu;rfl) (by decide) (by unfold maxLen;omega) (by omega) ?_;intro g cap w9 U D J g4;have t1:w9.cell? ⟨d,1,none⟩=some (.slice (some ⟨g1,0,none⟩) n n):=D.cell (a:=⟨d,1,none⟩) (zab c1 ((yk F.heap.size F).drew.alloc (yj _) (.cells #[.int .i64 E] 3))) (fun e=>(nt d e.symm).1 rfl);have b0:w9.cell? ⟨g1,me*4+3,none⟩=some (.slice ta tl tc):=D.cell (a:=⟨g1,me*4+3,none⟩) (zab ct ((yk F.heap.size F).drew.alloc (yj _) (.cells #[.int .i64 E] 3))) (fun e=>(nt g1 e.symm).2 rfl);have f9:w9.frozen? ⟨g1,me*4+3,none⟩=false:=FZ.out w9 D;have a6:Hid _:=Z.out w9 g cap D U J;refine hK.out _ _ ?_ (fun hHeld=>?_)
    ·exact⟨t1,b0⟩
    clear hK K U D J Z FZ
    try simp[Act.put]
    clear hHeld;refine zbD (i:=16) (by kernel_rfl) rfl (fun K hK=>?_);go_simp;refine hK.out _ _ ?_ (fun hHeld=>?_)
    ·(try dsimp only)
     exact⟨t1,b0⟩
    clear hK K
    try simp[Act.put]
    refine zaf (i:=17) ?_;simp[Act.put];clear hHeld;refine zeQ (by kernel_rfl) rfl (fun K hK=>?_);go_simp;refine hK.out _ _ ?_;clear hK K
    try simp[Act.put]
    refine zeP (by kernel_rfl) ?_ _;refine NoPanic.normal ?_;obtain⟨s9,a9⟩:=a6.out;have b3:Hid _:=a9;clear a9 a6
    go_wp2_with fail
    go_roundg (N-(i+1))
    case measure=>omega
    case rel=>exact⟨i+1,s9,by omega,by omega,by go_num,b3.out⟩
   ·have hz:(qe == 0)=false:=(by simp[hE]);have FA:=a5.out (-qe) (show -qe=toldOf ⟨qe,O,qo⟩ from (ya hE).symm);obtain⟨fa,nt,fz,a8,a7⟩:=FA;have HA:Hid _:=fa;have FZ:Hid _:=fz;have Z:Hid _:=a7;clear fa fz a7 a5 HO;generalize (rlm O me).t.map (Value.int .i64)=ts at *;have e4:(rlm O me).t.length<=4800:=TB.out;generalize (rlm O me).t.length=tl at *;generalize s4.t=tt at *;generalize s4.g1=g1 at *;generalize (s4.R me).a3=ta at *;generalize (s4.R me).c3=tc at *;obtain⟨E,T⟩:∃ E,E = -qe:=⟨_,rfl⟩;rw[<- T] at HA FZ Z a8;have hw:IntKind.i64.wrap (-qe) = -qe:=by have h1:=c6.out.1;have h2:=c6.out.2;rw[yH];omega
    go_wp2_with fail
    rw[<- T];clear T hw;obtain⟨i0,b4,b6,b7,b8⟩:=info_parts ziE;refine wp_region_noPanic ?_;refine zeR (S:=fun M=>M.cell? ⟨d,1,none⟩=some (.slice (some ⟨g1,0,none⟩) n n)/\M.cell? ⟨g1,me*4+3,none⟩=some (.slice ta tl tc)) 18 (by kernel_rfl) (by(try dsimp only);go_keep) (fun hHeld=>?_);refine zaf (i:=0) ?_;simp[Act.put];refine zaf (i:=1) ?_;simp[Act.put];refine zaf (i:=2) ?_;simp[Act.put];refine zaf (i:=3) ?_;simp[Act.put];refine zaf (i:=4) ?_;simp[Act.put];refine zaf (i:=5) ?_;simp[Act.put];refine zaf (i:=6) ?_;simp[Act.put];refine zaf (i:=7) ?_;simp[Act.put];refine zaf (i:=8) ?_;simp[Act.put];refine zaf (i:=9) ?_;simp[Act.put];refine zaf (i:=10) ?_;simp[Act.put];refine zaf (i:=11) ?_;simp[Act.put];refine zaf (i:=12) ?_;simp[Act.put];refine zaf (i:=13) ?_;simp[Act.put];refine zbD (i:=14) (by kernel_rfl) rfl (fun K hK=>?_);go_simp;refine hK.out _ _ ?_ (fun hHeld=>?_)
    ·exact⟨zab c1 ((yk F.heap.size F).drew.alloc (yj _) (.cells #[.int .i64 E] 3)),zab ct ((yk F.heap.size F).drew.alloc (yj _) (.cells #[.int .i64 E] 3))⟩
    clear hK K hHeld
    try simp[Act.put]
    refine zbD (i:=15) (by kernel_rfl) rfl (fun K hK=>?_);refine zlX (F.drew.alloc (.cells #[.int .i64 E] 3)) rfl (.tmp 46) (.tmp 48) 48 rfl 3 i0 (.int .i64 0) 1 8 Tryz.underlying48 b4 b6 b7 b8 rfl (by decide) ta tl tc ts tt HA.out a8 rfl ⟨F.heap.size,0,none⟩ 1 1 [.int .i64 E] rfl rfl (zxs (zad F.drew _ _ 0 rfl)) (by intro u hu;simp at hu;subst hu;rfl) (by decide) (by unfold maxLen;omega) (by omega) ?_;intro g cap w9 U D J g4;have t1:w9.cell? ⟨d,1,none⟩=some (.slice (some ⟨g1,0,none⟩) n n):=D.cell (a:=⟨d,1,none⟩) (zab c1 ((yk F.heap.size F).drew.alloc (yj _) (.cells #[.int .i64 E] 3))) (fun e=>(nt d e.symm).1 rfl);have b0:w9.cell? ⟨g1,me*4+3,none⟩=some (.slice ta tl tc):=D.cell (a:=⟨g1,me*4+3,none⟩) (zab ct ((yk F.heap.size F).drew.alloc (yj _) (.cells #[.int .i64 E] 3))) (fun e=>(nt g1 e.symm).2 rfl);have f9:w9.frozen? ⟨g1,me*4+3,none⟩=false:=FZ.out w9 D;have a6:Hid _:=Z.out w9 g cap D U J;refine hK.out _ _ ?_ (fun hHeld=>?_)
    ·exact⟨t1,b0⟩
    clear hK K U D J Z FZ
    try simp[Act.put]
    clear hHeld;refine zbD (i:=16) (by kernel_rfl) rfl (fun K hK=>?_);go_simp;refine hK.out _ _ ?_ (fun hHeld=>?_)
    ·(try dsimp only)
     exact⟨t1,b0⟩
    clear hK K
    try simp[Act.put]
    refine zaf (i:=17) ?_;simp[Act.put];clear hHeld;refine zeQ (by kernel_rfl) rfl (fun K hK=>?_);go_simp;refine hK.out _ _ ?_;clear hK K
    try simp[Act.put]
    refine zeP (by kernel_rfl) ?_ _;refine NoPanic.normal ?_;obtain⟨s9,a9⟩:=a6.out;have b3:Hid _:=a9;clear a9 a6
    go_wp2_with fail
    go_roundg (N-(i+1))
    case measure=>omega
    case rel=>exact⟨i+1,s9,by omega,by omega,by go_num,b3.out⟩
  ·have d8:¬ (i:Int)<(N:Int):=(by omega);have:i=N:=(by omega);subst this;have h:=HI.out.drop.1;rw[b9.out] at h;have HE:Hid _:=h;clear h
   go_wp2
   first|exact yv (v:=.tuple #[]) (by simp[results,Tryz.results41,go_sem]) rfl ⟨rfl,si,HE.out⟩|(go_ret;exact⟨rfl,si,HE.out⟩)
end Go.Proofs.YtcbcpomacdngmaaGreat
