/-
  x
-/
import Derived.Test.YtcbcpomacdngmaaGreatQ42
namespace Go.Proofs.YtcbcpomacdngmaaGreat
set_option maxRecDepth 100000
set_option maxHeartbeats 4000000
set_option linter.unusedVariables false
open Go.RowKit Go.ChangeShapes Go.WideShapes
theorem zhG(x:Ac)(w:World):Calls Tryz.prog 113 #[acV x] w fun e w' => e=.returned (.int .i64 x.a)/\Below w.heap.size w w' := by
 obtain⟨I,D,E,F,J⟩:=x;show Calls Tryz.prog _ #[.agg #[.int .i64 I,.int .i64 D,.int .i64 E,.int .i64 F,.int .i64 J]] w _
 go_enter Tryz.func113,Tryz.ntmps113
 go_wp2
 go_ret;exact⟨rfl,zaa _ _⟩
theorem zhH(x:Ac)(w:World):Calls Tryz.prog 111 #[acV x] w fun e w' => e=.returned (.int .i64 x.n)/\Below w.heap.size w w' := by
 obtain⟨I,D,E,F,J⟩:=x;show Calls Tryz.prog _ #[.agg #[.int .i64 I,.int .i64 D,.int .i64 E,.int .i64 F,.int .i64 J]] w _
 go_enter Tryz.func111,Tryz.ntmps111
 go_wp2
 go_ret;exact⟨rfl,zaa _ _⟩
theorem zqV(K1 K2 c1 c2 c3:Nat)(M:Array Value)(D t:Int)(b3:∀ args w,(callFunc K1 args).run Tryz.prog w=.ok (.enter K1 args) w)(b4:∀ args w,(callFunc K2 args).run Tryz.prog w=.ok (.enter K2 args) w)(me:Nat)(W:Wl)(x:Ac)(hw:(Lit.int .i64 D).wf=true)(h1:∀ V,Calls Tryz.prog K1 #[acV x] V fun e w' => e=.returned (.int .i64 t)/\Below V.heap.size V w')(C:World->Prop)(hC:∀ V V', C V->Below V.heap.size V V' -> C V')(q:Ws)(h2:zdK W.fs me t D=0->zhv K2 M C me W x q) :
  zhv 136 #[.pointer (some ⟨c1,0,none⟩),.pointer (some ⟨c2,0,none⟩),.pointer (some ⟨c3,0,none⟩)] (fun V=>V.cell? ⟨c1,0,none⟩=some (.func (.func K1) #[] #[])/\V.cell? ⟨c2,0,none⟩=some (.int .i64 D)/\V.cell? ⟨c3,0,none⟩=some (.func (.func K2) #[] M)/\C V) me W x (if zdK W.fs me t D=0 then q else ⟨zdK W.fs me t D,W,0⟩):=fun w0 d s V I ⟨v1,v2,v3,v4⟩=>by
 obtain⟨xk,xa,xb,xc,xn⟩:=x;have II:Hid (SW w0 d me W s V):=I;have a9:=I.lt;have b2:Hid _:=a9;obtain⟨l0,l1,l2,l3,l4,lf,ll⟩:=zak I.box;have d4:d<V.heap.size:=ll;have n8:W.fs.length<=8:=I.rt.fs.few;have d8:me<W.fs.length:=I.sf;clear a9;show Calls Tryz.prog _ #[.pointer (some ⟨d,0,none⟩),.int .i64 (me:Int),.agg #[.int .i64 xk,.int .i64 xa,.int .i64 xb,.int .i64 xc,.int .i64 xn],.pointer (some ⟨c1,0,none⟩),.pointer (some ⟨c2,0,none⟩),.pointer (some ⟨c3,0,none⟩)] V _;have D1:Hid (∀ V,Calls _ _ _ _ _):=h1;have D2:Hid (∀ V2,Below V.heap.size V V2->Calls _ _ _ _ _):=fun V2 hV=>zyG s.a0 s.c0 W.fs me t D V2 hw (by omega) (I.dp.fr.at.below hV);have HC:Hid (C V):=v4;have D3:Hid (zdK W.fs me t D=0->∀ V2,SW w0 d me W s V2->C V2->Calls Tryz.prog K2 (#[.pointer (some ⟨d,0,none⟩),.int .i64 (me:Int),.agg #[.int .i64 xk,.int .i64 xa,.int .i64 xb,.int .i64 xc,.int .i64 xn]] ++ M) V2 (zdF w0 d me q)):=fun h V2 hV hc=>h2 h w0 d s V2 hV hc;dsimp only[acV] at D1;have d5:c1<V.heap.size:=yd _ _ v1;have d6:c2<V.heap.size:=yd _ _ v2;have d7:c3<V.heap.size:=yd _ _ v3;obtain⟨n,hn⟩:∃ n,W.fs.length=n:=⟨_,rfl⟩;have HN:Hid (W.fs.length=n):=hn;obtain⟨nt,a8⟩:∃ n,W.pt.length=n:=⟨_,rfl⟩;have b1:Hid (W.pt.length=nt):=a8;rw[hn] at l0 D2;clear hn a8 I h1 h2 v4 l1 l2 l3 l4;obtain⟨E,hE⟩:∃ E,zdK W.fs me t D=E:=⟨_,rfl⟩;rw[hE] at D2 D3 |-;clear hE;obtain⟨qq,a5⟩:∃ qq:Ws,(if E=0 then q else ⟨E,W,0⟩)=qq:=⟨_,rfl⟩;have HQ:Hid (_=qq):=a5;rw[a5];clear a5
 go_enter Tryz.func136,Tryz.ntmps136
 go_upto_region 1 with fail
 obtain⟨O,F⟩:∃ O,V.alloc (.cells #[.int .i64 xk,.int .i64 xa,.int .i64 xb,.int .i64 xc,.int .i64 xn] 36)=O:=⟨_,rfl⟩;have Z:Hid (Below V.heap.size V O):=by rw[<- F];exact zaa _ _
 have y0:O.cell? ⟨V.heap.size,0,none⟩=some (.int .i64 xk):=by rw[<- F];exact zac _ _ _ 0 rfl
 have y1:O.cell? ⟨V.heap.size,1,none⟩=some (.int .i64 xa):=by rw[<- F];exact zac _ _ _ 1 rfl
 have y2:O.cell? ⟨V.heap.size,2,none⟩=some (.int .i64 xb):=by rw[<- F];exact zac _ _ _ 2 rfl
 have y3:O.cell? ⟨V.heap.size,3,none⟩=some (.int .i64 xc):=by rw[<- F];exact zac _ _ _ 3 rfl
 have y4:O.cell? ⟨V.heap.size,4,none⟩=some (.int .i64 xn):=by rw[<- F];exact zac _ _ _ 4 rfl
 have sV:V.heap.size<O.heap.size:=yd _ _ y0;rw[F];clear F;replace l0:=zab l0 Z.out;replace v1:=zab v1 Z.out;replace v2:=zab v2 Z.out;replace v3:=zab v3 Z.out
 go_region_held3 (fun J=>J.cell? ⟨d,0,none⟩=some (.slice s.a0 n s.c0)/\J.cell? ⟨c1,0,none⟩=some (.func (.func K1) #[] #[])/\J.cell? ⟨c2,0,none⟩=some (.int .i64 D)/\J.cell? ⟨V.heap.size,0,none⟩=some (.int .i64 xk)/\J.cell? ⟨V.heap.size,1,none⟩=some (.int .i64 xa)/\J.cell? ⟨V.heap.size,2,none⟩=some (.int .i64 xb)/\J.cell? ⟨V.heap.size,3,none⟩=some (.int .i64 xc)/\J.cell? ⟨V.heap.size,4,none⟩=some (.int .i64 xn)) (go_keep) (first|(go_at_fn K1;refine ye (D1.out O.drew) ?_;rintro e w3 ⟨rfl,a6⟩;have T:Hid (Below O.heap.size O w3):=(yk _ _).drew.trans a6;have b5:=zab l0 T.out;have b6:=zab v1 T.out;have b7:=zab v2 T.out;have b8:=zab v3 T.out;have b9:=zab y0 T.out;have c6:=zab y1 T.out;have c7:=zab y2 T.out;have c8:=zab y3 T.out;have c9:=zab y4 T.out;clear a6)|(go_at_call 137;refine ye (D2.out w3 (Z.out.trans (T.out.mono Z.out.size))) ?_;rintro e w4 ⟨rfl,a7⟩;have U:Hid (Below O.heap.size O w4):=T.out.trans (a7.mono T.out.size);have d9:=zab l0 U.out;have e0:=zab v1 U.out;have e1:=zab v2 U.out;have e2:=zab v3 U.out;have e3:=zab y0 U.out;have e4:=zab y1 U.out;have e5:=zab y2 U.out;have e6:=zab y3 U.out;have e7:=zab y4 U.out;clear a7))
 have I4:Hid _:=II.out.below (Z.out.trans (U.out.mono Z.out.size));have C4:Hid (C w4):=hC _ _ HC.out (Z.out.trans (U.out.mono Z.out.size));by_cases hE:E=0
 ·subst hE;obtain rfl:=(yb rfl).symm.trans HQ.out;have D4:Hid _:=D3.out rfl w4 I4.out C4.out
  go_wp2_with (go_at_fn K2;refine ye D4.out ?_;rintro e w5 ⟨o,s', rfl,ho,b0⟩)
  have HO:Hid _:=ho;have HS:Hid _:=b0;exact yv (v:=.tuple #[.int .i64 o,.int .i64 q.e]) (by simp[results,Tryz.results136,go_sem]) rfl ⟨o,s', rfl,HO.out,HS.out⟩
 ·obtain rfl:=(ya hE).symm.trans HQ.out;have hz:(E == 0)=false:=by simp[hE]
  go_wp2
  exact yv (v:=.tuple #[.int .i64 0,.int .i64 E]) (by simp[results,Tryz.results136,go_sem]) rfl (zdF.no I4.out hE)
theorem zpF{L:List Fr}{f t x:Int}(h:zdK L f t x=0):zcw L t=0:=by
 obtain⟨h1,_,D,_⟩:=zca h;unfold zcw;simp[h1,D]
theorem zxu{X:Nat->Prop}{V:World}{g:Nat}{L:List Fr}(h:zaS V (some ⟨g,0,none⟩) L)(F:¬ X g):St X (fun V=>zaS V (some ⟨g,0,none⟩) L) V:=fun I E i hi=>by
 obtain⟨b,o,e,c0,c1,c2,c3,c4⟩:=h i hi;cases e;have D:=E.block g (yd _ _ c0) F;exact⟨g,0,rfl,(yB D).trans c0,(yB D).trans c1,(yB D).trans c2,(yB D).trans c3,(yB D).trans c4⟩
theorem zjX(me:Nat)(W:Wl)(x:Ac)(hm:zdK W.fs me x.n 2=0):zhv 112 #[] (fun _=>True) me W x ⟨0,W,(zkt W.fs x.n:Nat)⟩:=fun w0 d s V I _=>by
 obtain⟨xk,xa,xb,xc,J⟩:=x;have II:Hid (SW w0 d me W s V):=I;have U:=I.lt;have a8:Hid _:=U;obtain⟨l0,l1,l2,l3,l4,lf,ll⟩:=zak I.box;have b1:d<V.heap.size:=ll;have n8:W.fs.length<=8:=I.rt.fs.few;have a5:me<W.fs.length:=I.sf;clear U;dsimp only at hm |-;have hh:zcw W.fs J=0:=zpF hm;have D:Hid (∀ V2,Below V.heap.size V V2->Calls _ _ _ _ _):=fun V2 hV=>zrk s.a0 s.c0 W.fs J V2 (by omega) (I.dp.fr.at.below hV);have e1:zBe W.fs J=(zkt W.fs J:Nat):=yb hh;rw[e1,hh] at D;clear e1 hh hm;show Calls Tryz.prog _ #[.pointer (some ⟨d,0,none⟩),.int .i64 (me:Int),.agg #[.int .i64 xk,.int .i64 xa,.int .i64 xb,.int .i64 xc,.int .i64 J]] V _;obtain⟨n,hn⟩:∃ n,W.fs.length=n:=⟨_,rfl⟩;have HN:Hid (W.fs.length=n):=hn;obtain⟨nt,O⟩:∃ n,W.pt.length=n:=⟨_,rfl⟩;have a7:Hid (W.pt.length=nt):=O;rw[O] at l4;rw[hn] at l0 l1 l2 l3 n8 a5;rw[hn] at D;obtain⟨L,hL⟩:∃ L:Int,((zkt W.fs J:Nat):Int)=L:=⟨_,rfl⟩;rw[hL] at D |-;clear hL;clear hn O I;have a6:(me:Int)<(n:Int):=by omega
 go_enter Tryz.func112,Tryz.ntmps112
 go_upto_region 1 with fail
 obtain⟨F,E⟩:∃ F,V.alloc (.cells #[.int .i64 xk,.int .i64 xa,.int .i64 xb,.int .i64 xc,.int .i64 J] 36)=F:=⟨_,rfl⟩;have M:Hid (Below V.heap.size V F):=by rw[<- E];exact zaa _ _
 have y0:F.cell? ⟨V.heap.size,0,none⟩=some (.int .i64 xk):=by rw[<- E];exact zac _ _ _ 0 rfl
 have y1:F.cell? ⟨V.heap.size,1,none⟩=some (.int .i64 xa):=by rw[<- E];exact zac _ _ _ 1 rfl
 have y2:F.cell? ⟨V.heap.size,2,none⟩=some (.int .i64 xb):=by rw[<- E];exact zac _ _ _ 2 rfl
 have y3:F.cell? ⟨V.heap.size,3,none⟩=some (.int .i64 xc):=by rw[<- E];exact zac _ _ _ 3 rfl
 have y4:F.cell? ⟨V.heap.size,4,none⟩=some (.int .i64 J):=by rw[<- E];exact zac _ _ _ 4 rfl
 have sV:V.heap.size<F.heap.size:=yd _ _ y0;rw[E];clear E;replace l0:=zab l0 M.out;replace l1:=zab l1 M.out;replace l2:=zab l2 M.out;replace l3:=zab l3 M.out;replace l4:=zab l4 M.out
 go_region_held3 (fun Z=>Z.cell? ⟨d,0,none⟩=some (.slice s.a0 n s.c0)/\Z.cell? ⟨V.heap.size,4,none⟩=some (.int .i64 J)) (go_keep) (first|(go_at_call 138;refine ye (D.out F.drew M.out.drew) ?_;rintro e w3 ⟨rfl,T⟩;have B3:Hid (Below F.heap.size F w3):=(yk _ _).drew.trans T;have a9:=zab l0 B3.out;have b0:=zab y4 B3.out;clear T))
 have I2:Hid _:=II.out.below (M.out.trans (B3.out.mono M.out.size))
 go_wp2
 exact yv (v:=.tuple #[.int .i64 L,.int .i64 0]) (by simp[results,Tryz.results112,go_sem]) rfl (zdF.ok I2.out)
theorem zri(me:Nat)(W:Wl)(x:Ac)(hm:zdK W.fs me x.n 4=0):zhv 116 #[] (fun _=>True) me W x ⟨0,{ W with fs:=zkc W.fs x.n },0⟩:=fun w0 d s V I _=>by
 obtain⟨xk,xa,xb,xc,M⟩:=x;have II:Hid (SW w0 d me W s V):=I;have a7:=I.lt;have a9:Hid _:=a7;obtain⟨l0,l1,l2,l3,l4,lf,ll⟩:=zak I.box;have b5:d<V.heap.size:=ll;have n8:W.fs.length<=8:=I.rt.fs.few;have b0:me<W.fs.length:=I.sf;clear a7;dsimp only at hm |-;have hh:zcw W.fs M=0:=zpF hm;have D:Hid (∀ O,Below V.heap.size V O->Calls _ _ _ _ _):=fun O hV=>zqI s.a0 s.c0 W.fs M O n8 (I.dp.fr.at.below hV) hh;have FS:Hid (∀ O g,SW w0 d me W s O->V.heap.size<=g->zaS O (some ⟨g,0,none⟩) (zkc W.fs M)->∃ s', SW w0 d me { W with fs:=zkc W.fs M } s' (O.setCell ⟨d,0,none⟩ (.slice (some ⟨g,0,none⟩) W.fs.length W.fs.length))):=fun O g h2 hg hf=>⟨_,h2.frames (zxu hf (fun hb=>by have:=a9.out g hb;omega)) (zdp _ _) (zjm I.rt me M) (by rw[zdp];exact⟨(fun e=>by cases e),yj _,by omega⟩)⟩;clear hh hm;show Calls Tryz.prog _ #[.pointer (some ⟨d,0,none⟩),.int .i64 (me:Int),.agg #[.int .i64 xk,.int .i64 xa,.int .i64 xb,.int .i64 xc,.int .i64 M]] V _;obtain⟨n,hn⟩:∃ n,W.fs.length=n:=⟨_,rfl⟩;have HN:Hid (W.fs.length=n):=hn;obtain⟨nt,T⟩:∃ n,W.pt.length=n:=⟨_,rfl⟩;have b2:Hid (W.pt.length=nt):=T;rw[T] at l4;rw[hn] at l0 l1 l2 l3 n8 b0;rw[hn] at D FS;clear hn T I;have b1:(me:Int)<(n:Int):=by omega
 go_enter Tryz.func116,Tryz.ntmps116
 go_upto_region 1 with fail
 obtain⟨F,E⟩:∃ F,V.alloc (.cells #[.int .i64 xk,.int .i64 xa,.int .i64 xb,.int .i64 xc,.int .i64 M] 36)=F:=⟨_,rfl⟩;have J:Hid (Below V.heap.size V F):=by rw[<- E];exact zaa _ _
 have y0:F.cell? ⟨V.heap.size,0,none⟩=some (.int .i64 xk):=by rw[<- E];exact zac _ _ _ 0 rfl
 have y1:F.cell? ⟨V.heap.size,1,none⟩=some (.int .i64 xa):=by rw[<- E];exact zac _ _ _ 1 rfl
 have y2:F.cell? ⟨V.heap.size,2,none⟩=some (.int .i64 xb):=by rw[<- E];exact zac _ _ _ 2 rfl
 have y3:F.cell? ⟨V.heap.size,3,none⟩=some (.int .i64 xc):=by rw[<- E];exact zac _ _ _ 3 rfl
 have y4:F.cell? ⟨V.heap.size,4,none⟩=some (.int .i64 M):=by rw[<- E];exact zac _ _ _ 4 rfl
 have sV:V.heap.size<F.heap.size:=yd _ _ y0;rw[E];clear E;replace l0:=zab l0 J.out;replace l1:=zab l1 J.out;replace l2:=zab l2 J.out;replace l3:=zab l3 J.out;replace l4:=zab l4 J.out
 go_region_held3 (fun a8=>a8.cell? ⟨d,0,none⟩=some (.slice s.a0 n s.c0)/\a8.cell? ⟨V.heap.size,4,none⟩=some (.int .i64 M)) (go_keep) (first|(go_at_call 140;refine ye (D.out F.drew J.out.drew) ?_;rintro e w3 ⟨g,rfl,U,a5,Z⟩;have B3:Hid (Below F.heap.size F w3):=(yk _ _).drew.trans U;have b3:=zab l0 B3.out;have b4:=zab y4 B3.out;have HG:Hid (V.heap.size<=g):=yE J.out.size (show F.heap.size<=g from a5);have HF:Hid _:=Z;clear Z a5;clear U))
 have I2:Hid _:=II.out.below (J.out.trans (B3.out.mono J.out.size));obtain⟨s', a6⟩:=FS.out w3 g I2.out HG.out HF.out;have HS:Hid _:=a6;obtain⟨b6,b7,b8,b9,c6,c7,c8⟩:=zak I2.out.box;clear a6 l0 l1 l2 l3 l4
 go_wp2
 exact yv (v:=.tuple #[.int .i64 0,.int .i64 0]) (by simp[results,Tryz.results116,go_sem]) rfl (zdF.ok HS.out)
theorem SW.fcell{D:W0}{d me:Nat}{W:Wl}{s:SD}{V:World}(I:SW D d me W s V){i:Nat}(hi:i<W.fs.length):∃ b o,s.a0=some ⟨b,o,none⟩/\V.cell? ⟨b,o+i*5+2,none⟩=some (.int .i64 (fr W.fs i).m)/\V.cell? ⟨b,o+i*5+3,none⟩=some (.int .i64 (fr W.fs i).t)/\b<V.heap.size:=by
 obtain⟨b,o,e,c0,c1,c2,c3,c4⟩:=I.dp.fr.at i hi;exact⟨b,o,e,c2,c3,yd _ _ c2⟩
theorem zmk(W:Wl)(k:Nat):zax W (k:Int)=(fr W.fs k).t:=by unfold zax;rw[yi]
theorem SW.big{D:W0}{d me:Nat}{W:Wl}{s:SD}{V:World}(I:SW D d me W s V):W.pt.length<=9223372036854775807/\zmu W.pt:=(zfW I.rt).2.2.2.2
theorem zul(me:Nat)(W:Wl)(x:Ac):zhv 118 #[] (fun _=>True) me W x (zva W me):=fun w0 d s V I _=>by
 have QI:=zeS [zfb W.pt (many W) me (zax W me)] W { W with pt:=zcx W.pt me (zax W me) } W.pt.length;rw[zkN] at QI;change QIs (zva W me) _ _ _ _ at QI;obtain⟨xk,xa,xb,xc,xn⟩:=x;have II:Hid (SW w0 d me W s V):=I;have b3:=I.lt;have b5:Hid _:=b3;obtain⟨l0,l1,l2,l3,l4,lf,ll⟩:=zak I.box;have c9:d<V.heap.size:=ll;have n8:W.fs.length<=8:=I.rt.fs.few;have b9:me<W.fs.length:=I.sf;clear b3;obtain⟨fb,fo,ea,fm,ft,fl⟩:=I.fcell I.sf;rw[ea] at l0;have TN:=zmk W me;obtain⟨J,b4⟩:∃ t,(fr W.fs me).t=t:=⟨_,rfl⟩;rw[b4] at ft TN;clear b4 ea;have a7:∀ O,Below V.heap.size V O->∀ b,SX w0.heap.size d s b->b<O.heap.size:=fun O hV b hb=>yx (b5.out b hb) hV.size;have T:=I.big;rw[TN] at QI;have D:Hid (∀ O,Below V.heap.size V O->Calls _ _ _ _ _):=fun O hV=>zuj (SX w0.heap.size d s) s.a4 s.c4 W.pt (many W) me J O (a7 O hV) T.1 T.2 I.dp.pc (I.dp.pt.off (zaq.of_below hV))
 have PS:Hid (zfb W.pt (many W) me J=0->∀ O va vc,SW w0 d me W s O->zbJ (SX w0.heap.size d s) O va (zmb W.pt (many W) me J)->SlA va (zmb W.pt (many W) me J).length vc->∃ s', SW w0 d me { W with pt:=zcx W.pt me J } s' (O.setCell ⟨d,4,none⟩ (.slice va (zmb W.pt (many W) me J).length vc))):=fun h O va vc h2 h3 h4=>by
  have e:zmb W.pt (many W) me J=zcx W.pt me J:=yb h;rw[e] at h3 h4 |-;exact⟨_,h2.ports h3 (by have:=zjy I.rt (k:=me) (by rw[TN];exact h);rw[TN] at this;exact this) h4⟩
 have ON:Hid (zfb W.pt (many W) me J=0->ziD W.pt (many W) me J=W.pt.length):=fun h=>yb h;have MN:Hid (many W=(W.fs.length:Int)):=rfl;clear a7 T;show Calls Tryz.prog _ #[.pointer (some ⟨d,0,none⟩),.int .i64 (me:Int),.agg #[.int .i64 xk,.int .i64 xa,.int .i64 xb,.int .i64 xc,.int .i64 xn]] V _;obtain⟨n,hn⟩:∃ n,W.fs.length=n:=⟨_,rfl⟩;have HN:Hid (W.fs.length=n):=hn;obtain⟨nt,Z⟩:∃ n,W.pt.length=n:=⟨_,rfl⟩;have c7:Hid (W.pt.length=nt):=Z;rw[Z] at l4 D;rw[hn] at l0 l1 l2 l3 n8 b9;rw[show many W=(n:Int) from by rw[<- hn];rfl] at D PS ON QI;generalize zfb W.pt n me J=E at *;generalize zmb W.pt n me J=L at *;generalize ziD W.pt n me J=a6 at *;generalize zva W me=q at *;obtain⟨qe,qw,qo⟩:=q;obtain⟨b0,Q0,Q1⟩:=QI;dsimp only at b0 Q0 Q1 |-;subst b0;have Q0:Hid _:=Q0;have Q1:Hid _:=Q1;clear hn Z I;have c6:(me:Int)<(n:Int):=by omega
 go_enter Tryz.func118,Tryz.ntmps118
 go_upto_region 1 with fail
 obtain⟨M,F⟩:∃ M,V.alloc (.cells #[.int .i64 xk,.int .i64 xa,.int .i64 xb,.int .i64 xc,.int .i64 xn] 36)=M:=⟨_,rfl⟩;have U:Hid (Below V.heap.size V M):=by rw[<- F];exact zaa _ _
 have y0:M.cell? ⟨V.heap.size,0,none⟩=some (.int .i64 xk):=by rw[<- F];exact zac _ _ _ 0 rfl
 have y1:M.cell? ⟨V.heap.size,1,none⟩=some (.int .i64 xa):=by rw[<- F];exact zac _ _ _ 1 rfl
 have y2:M.cell? ⟨V.heap.size,2,none⟩=some (.int .i64 xb):=by rw[<- F];exact zac _ _ _ 2 rfl
 have y3:M.cell? ⟨V.heap.size,3,none⟩=some (.int .i64 xc):=by rw[<- F];exact zac _ _ _ 3 rfl
 have y4:M.cell? ⟨V.heap.size,4,none⟩=some (.int .i64 xn):=by rw[<- F];exact zac _ _ _ 4 rfl
 have sV:V.heap.size<M.heap.size:=yd _ _ y0;rw[F];clear F;replace l0:=zab l0 U.out;replace l1:=zab l1 U.out;replace l2:=zab l2 U.out;replace l3:=zab l3 U.out;replace l4:=zab l4 U.out;replace ft:=zab ft U.out;have d4:fb<M.heap.size:=by omega
 go_region_held3 (fun a5=>a5.cell? ⟨d,0,none⟩=some (.slice (some ⟨fb,fo,none⟩) n s.c0)/\a5.cell? ⟨d,4,none⟩=some (.slice s.a4 nt s.c4)/\a5.cell? ⟨fb,fo+me*5+3,none⟩=some (.int .i64 J)) (go_keep) (first|(go_at_call 142;refine ye (D.out M.drew U.out.drew) ?_;rintro e w3 ⟨va,vc,rfl,a8,b2,a9⟩;have B3:Hid (Below M.heap.size M w3):=(yk _ _).drew.trans a8;have b7:=zab l0 B3.out;have b8:=zab l4 B3.out;have c8:=zab ft B3.out;have b6:Hid _:=b2;have HP:Hid _:=a9;clear a8 b2 a9))
 have I2:Hid _:=II.out.below (U.out.trans (B3.out.mono U.out.size));obtain⟨d5,d6,d7,d8,d9,e0,e1⟩:=zak I2.out.box;clear l0 l1 l2 l3 l4 b7 b8;by_cases hE:qe=0
 ·subst hE;obtain⟨rfl,rfl⟩:=Q0.out rfl;obtain⟨s', b1⟩:=PS.out rfl w3 va vc I2.out HP.out b6.out;have HS:Hid _:=b1;have HO:Hid (a6=(W.pt.length:Int)):=ON.out rfl;clear b1
  go_wp2
  refine yv (v:=.tuple #[.int .i64 a6,.int .i64 0]) (by simp[results,Tryz.results118,go_sem]) rfl ?_;rw[HO.out];exact zdF.ok HS.out
 ·obtain rfl:=Q1.out hE;have hz:(qe == 0)=false:=by simp[hE]
  go_wp2
  exact yv (v:=.tuple #[.int .i64 0,.int .i64 qe]) (by simp[results,Tryz.results118,go_sem]) rfl (zdF.no I2.out hE)
def zkg(F:W0)(d me:Nat)(W O:Wl)(E:Int)(L:List Pt)(g1:Nat)(J:World)(e:Ending)(V:World):Prop:=∃ (D:Option Addr) (I:Nat) (M:List Pt) (s:SD),e=.returned (.tuple #[.slice D M.length I,.int .i64 E])/\zaq (fun b=>b=g1) J V/\(E=0->M=L/\SW F d me O s V/\zbJ (SX F.heap.size d s) V D L/\SlA D L.length I)/\(E≠0->SW F d me W s V)
def PBy(K:Nat)(me:Nat)(W:Wl)(x:Ac)(F:Wl)(E:Int)(L:List Pt):Prop:=∀ (D:W0) (d:Nat) (s:SD) (V:World),SW D d me W s V ->
 Calls Tryz.prog K #[.pointer (some ⟨d,0,none⟩),.int .i64 (me:Int),.int .i64 (zax W me),acV x] V (zkg D d me W F E L s.g1 V)
theorem znb{W D:World}{b o g:Nat}{v:Value}(h:W.cell? ⟨b,o,none⟩=some v)(E:zaq (fun x=>x=g) W D)(hg:b≠g):D.cell? ⟨b,o,none⟩=some v:=(yB (E.block b (yd _ _ h) hg)).trans h
theorem SW.no_row{M:W0}{d me:Nat}{W:Wl}{s:SD}{V:World}(I:SW M d me W s V){b o:Nat}{v:Value}(h:V.cell? ⟨b,o,none⟩=some v)(D:∀ a n c,v≠.slice a n c):b≠s.g1:=fun e=>by
 subst e;obtain⟨c,hc,hl,J⟩:=I.r1;simp only[World.cell?,hc] at h
 have E:o<W.fs.length*4:=by
  rcases Nat.lt_or_ge o (W.fs.length*4) with F|F
  ·exact F
  ·rw[Array.getElem?_eq_none (by omega)] at h;cases h
 rw[J o E] at h;have e:=Option.some.inj h;unfold zpg at e
 split at e
 ·exact D _ _ _ e.symm
 ·split at e
  ·exact D _ _ _ e.symm
  ·split at e
   ·exact D _ _ _ e.symm
   ·exact D _ _ _ e.symm
theorem zez(K cb:Nat)(eg:∀ args w,(callFunc K args).run Tryz.prog w=.ok (.enter K args) w)(me:Nat)(W:Wl)(x:Ac)(W1:Wl)(E:Int)(L:List Pt)(hK:PBy K me W x W1 E L)(hR:E=0->zan { W1 with pt:=L })(q:Ws)(QI:QIs q E W { W1 with pt:=L } 0) :
  zhv 143 #[.pointer (some ⟨cb,0,none⟩)] (fun V=>V.cell? ⟨cb,0,none⟩=some (.func (.func K) #[] #[])) me W x q:=fun w0 d s V I v1=>by
 obtain⟨xk,xa,xb,xc,xn⟩:=x;have II:Hid (SW w0 d me W s V):=I;have b0:=I.lt;have b8:Hid _:=b0;obtain⟨l0,l1,l2,l3,l4,lf,ll⟩:=zak I.box;have d8:d<V.heap.size:=ll;have n8:W.fs.length<=8:=I.rt.fs.few;have b2:me<W.fs.length:=I.sf;clear b0;obtain⟨fb,fo,ea,fm,ft,fl⟩:=I.fcell I.sf;rw[ea] at l0;have TN:=zmk W me;obtain⟨tn,b1⟩:∃ t,(fr W.fs me).t=t:=⟨_,rfl⟩;rw[b1] at ft TN;clear b1 ea;have D:Hid (∀ V2,Below V.heap.size V V2->Calls _ _ _ _ _):=fun V2 hV=>hK w0 d s V2 (I.below hV);dsimp only[acV] at D;rw[TN] at D;have RR:Hid _:=hR;have b3:d≠s.g1:=I.ap.d1;have b4:fb≠s.g1:=I.no_row ft (fun _ _ _ h=>by cases h);have b5:cb≠s.g1:=I.no_row v1 (fun _ _ _ h=>by cases h);have T:V.heap.size≠s.g1:=Nat.ne_of_gt I.r1.lt;clear hK hR;show Calls Tryz.prog _ #[.pointer (some ⟨d,0,none⟩),.int .i64 (me:Int),.agg #[.int .i64 xk,.int .i64 xa,.int .i64 xb,.int .i64 xc,.int .i64 xn],.pointer (some ⟨cb,0,none⟩)] V _;obtain⟨n,hn⟩:∃ n,W.fs.length=n:=⟨_,rfl⟩;have HN:Hid (W.fs.length=n):=hn;obtain⟨nt,a5⟩:∃ n,W.pt.length=n:=⟨_,rfl⟩;have b7:Hid (W.pt.length=nt):=a5;rw[a5] at l4;rw[hn] at l0 l1 l2 l3 n8 b2;obtain⟨qe,qw,qo⟩:=q;obtain⟨a8,Q0,Q1⟩:=QI;dsimp only at a8 Q0 Q1 |-;subst a8;have Q0:Hid _:=Q0;have Q1:Hid _:=Q1;clear hn a5 I;have b6:(me:Int)<(n:Int):=by omega
 have d7:cb<V.heap.size:=yd _ _ v1
 go_enter Tryz.func143,Tryz.ntmps143
 go_upto_region 1 with fail
 obtain⟨O,F⟩:∃ O,V.alloc (.cells #[.int .i64 xk,.int .i64 xa,.int .i64 xb,.int .i64 xc,.int .i64 xn] 36)=O:=⟨_,rfl⟩;have U:Hid (Below V.heap.size V O):=by rw[<- F];exact zaa _ _
 have y0:O.cell? ⟨V.heap.size,0,none⟩=some (.int .i64 xk):=by rw[<- F];exact zac _ _ _ 0 rfl
 have y1:O.cell? ⟨V.heap.size,1,none⟩=some (.int .i64 xa):=by rw[<- F];exact zac _ _ _ 1 rfl
 have y2:O.cell? ⟨V.heap.size,2,none⟩=some (.int .i64 xb):=by rw[<- F];exact zac _ _ _ 2 rfl
 have y3:O.cell? ⟨V.heap.size,3,none⟩=some (.int .i64 xc):=by rw[<- F];exact zac _ _ _ 3 rfl
 have y4:O.cell? ⟨V.heap.size,4,none⟩=some (.int .i64 xn):=by rw[<- F];exact zac _ _ _ 4 rfl
 have sV:V.heap.size<O.heap.size:=yd _ _ y0;rw[F];clear F;replace l0:=zab l0 U.out;replace l1:=zab l1 U.out;replace l2:=zab l2 U.out;replace l3:=zab l3 U.out;replace l4:=zab l4 U.out;replace ft:=zab ft U.out;replace v1:=zab v1 U.out;have d9:fb<O.heap.size:=by omega
 go_region_held3 (fun J=>J.cell? ⟨d,0,none⟩=some (.slice (some ⟨fb,fo,none⟩) n s.c0)/\J.cell? ⟨V.heap.size,0,none⟩=some (.int .i64 xk)/\J.cell? ⟨V.heap.size,1,none⟩=some (.int .i64 xa)/\J.cell? ⟨V.heap.size,2,none⟩=some (.int .i64 xb)/\J.cell? ⟨V.heap.size,3,none⟩=some (.int .i64 xc)/\J.cell? ⟨V.heap.size,4,none⟩=some (.int .i64 xn)/\J.cell? ⟨fb,fo+me*5+3,none⟩=some (.int .i64 tn)/\J.cell? ⟨cb,0,none⟩=some (.func (.func K) #[] #[])) (go_keep) (first|(go_at_fn K;refine ye (D.out O.drew U.out.drew) ?_;rintro e w3 ⟨va,vc,M,s3,rfl,hx,h0,h1⟩;have Z:Hid (zaq (fun b=>b=s.g1) O w3):=⟨hx.size,hx.block⟩;have c6:=znb l0 Z.out b3;have b9:=znb ft Z.out b4;have c7:=znb v1 Z.out b5;have c8:=znb y0 Z.out T;have c9:=znb y1 Z.out T;have d4:=znb y2 Z.out T;have d5:=znb y3 Z.out T;have d6:=znb y4 Z.out T;clear hx;have H0:Hid _:=h0;have H1:Hid _:=h1;clear h0 h1))
 by_cases hE:qe=0
 ·subst hE;obtain⟨rfl,rfl⟩:=Q0.out rfl;obtain⟨rfl,a6,a7,a9⟩:=H0.out rfl;have HS:Hid _:=a6.ports a7 (RR.out rfl) a9;obtain⟨e0,e1,e2,e3,e4,e5,e6⟩:=zak a6.box;clear a6 a7 a9 H0 H1 l0 l1 l2 l3 l4
  go_wp2
  exact yv (v:=.tuple #[.int .i64 0,.int .i64 0]) (by simp[results,Tryz.results143,go_sem]) rfl (zdF.ok HS.out)
 ·obtain rfl:=Q1.out hE;have HS:Hid _:=H1.out hE;have hz:(qe == 0)=false:=by simp[hE]
  go_wp2
  exact yv (v:=.tuple #[.int .i64 0,.int .i64 qe]) (by simp[results,Tryz.results143,go_sem]) rfl (zdF.no HS.out hE)
end Go.Proofs.YtcbcpomacdngmaaGreat
