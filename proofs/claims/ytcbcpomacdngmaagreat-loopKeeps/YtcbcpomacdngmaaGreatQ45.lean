/-
  x
-/
import Derived.Test.YtcbcpomacdngmaaGreatQ44
namespace Go.Proofs.YtcbcpomacdngmaaGreat
set_option maxRecDepth 100000
set_option maxHeartbeats 4000000
set_option linter.unusedVariables false
open Go.RowKit Go.ChangeShapes Go.WideShapes
theorem zhK(x:Ac)(w:World):Calls Tryz.prog 113 #[acV x] w fun e w' => e=.returned (.int .i64 x.a)/\Below w.heap.size w w' := by
 obtain⟨I,D,E,F,J⟩:=x;show Calls Tryz.prog _ #[.agg #[.int .i64 I,.int .i64 D,.int .i64 E,.int .i64 F,.int .i64 J]] w _
 go_enter Tryz.func113,Tryz.ntmps113
 go_wp2
 go_ret;exact⟨rfl,zaa _ _⟩
theorem zhL(x:Ac)(w:World):Calls Tryz.prog 111 #[acV x] w fun e w' => e=.returned (.int .i64 x.n)/\Below w.heap.size w w' := by
 obtain⟨I,D,E,F,J⟩:=x;show Calls Tryz.prog _ #[.agg #[.int .i64 I,.int .i64 D,.int .i64 E,.int .i64 F,.int .i64 J]] w _
 go_enter Tryz.func111,Tryz.ntmps111
 go_wp2
 go_ret;exact⟨rfl,zaa _ _⟩
theorem zrg(K1 K2 c1 c2 c3:Nat)(J:Array Value)(D t:Int)(b4:∀ args w,(callFunc K1 args).run Tryz.prog w=.ok (.enter K1 args) w)(b5:∀ args w,(callFunc K2 args).run Tryz.prog w=.ok (.enter K2 args) w)(me:Nat)(W:Wl)(x:Ac)(hw:(Lit.int .i64 D).wf=true)(h1:∀ V,Calls Tryz.prog K1 #[acV x] V fun e w' => e=.returned (.int .i64 t)/\Below V.heap.size V w')(C:World->Prop)(hC:∀ V V', C V->Below V.heap.size V V' -> C V')(q:Ws)(h2:zdI W.fs me t D=0->zhA K2 J C me W x q) :
  zhA 136 #[.pointer (some ⟨c1,0,none⟩),.pointer (some ⟨c2,0,none⟩),.pointer (some ⟨c3,0,none⟩)] (fun V=>V.cell? ⟨c1,0,none⟩=some (.func (.func K1) #[] #[])/\V.cell? ⟨c2,0,none⟩=some (.int .i64 D)/\V.cell? ⟨c3,0,none⟩=some (.func (.func K2) #[] J)/\C V) me W x (if zdI W.fs me t D=0 then q else ⟨zdI W.fs me t D,W,0⟩):=fun w0 d s V I ⟨v1,v2,v3,v4⟩=>by
 obtain⟨xk,xa,xb,xc,xn⟩:=x;have II:Hid (SW w0 d me W s V):=I;have b0:=I.lt;have b3:Hid _:=b0;obtain⟨l0,l1,l2,l3,l4,lf,ll⟩:=zal I.box;have d5:d<V.heap.size:=ll;have n8:W.fs.length<=8:=I.rt.fs.few;have d9:me<W.fs.length:=I.sf;clear b0;show Calls Tryz.prog _ #[.pointer (some ⟨d,0,none⟩),.int .i64 (me:Int),.agg #[.int .i64 xk,.int .i64 xa,.int .i64 xb,.int .i64 xc,.int .i64 xn],.pointer (some ⟨c1,0,none⟩),.pointer (some ⟨c2,0,none⟩),.pointer (some ⟨c3,0,none⟩)] V _;have D1:Hid (∀ V,Calls _ _ _ _ _):=h1;have D2:Hid (∀ U,Below V.heap.size V U->Calls _ _ _ _ _):=fun U hV=>zyV s.a0 s.c0 W.fs me t D U hw (by omega) (I.dp.fr.at.below hV);have HC:Hid (C V):=v4;have D3:Hid (zdI W.fs me t D=0->∀ U,SW w0 d me W s U->C U->Calls Tryz.prog K2 (#[.pointer (some ⟨d,0,none⟩),.int .i64 (me:Int),.agg #[.int .i64 xk,.int .i64 xa,.int .i64 xb,.int .i64 xc,.int .i64 xn]] ++ J) U (zdP w0 d me q)):=fun h U hV hc=>h2 h w0 d s U hV hc;dsimp only[acV] at D1;have d6:c1<V.heap.size:=ye _ _ v1;have d7:c2<V.heap.size:=ye _ _ v2;have d8:c3<V.heap.size:=ye _ _ v3;obtain⟨n,hn⟩:∃ n,W.fs.length=n:=⟨_,rfl⟩;have HN:Hid (W.fs.length=n):=hn;obtain⟨nt,a9⟩:∃ n,W.pt.length=n:=⟨_,rfl⟩;have b2:Hid (W.pt.length=nt):=a9;rw[hn] at l0 D2;clear hn a9 I h1 h2 v4 l1 l2 l3 l4;obtain⟨E,Z⟩:∃ E,zdI W.fs me t D=E:=⟨_,rfl⟩;rw[Z] at D2 D3 |-;clear Z;obtain⟨qq,a5⟩:∃ qq:Ws,(if E=0 then q else ⟨E,W,0⟩)=qq:=⟨_,rfl⟩;have HQ:Hid (_=qq):=a5;rw[a5];clear a5
 go_enter Tryz.func136,Tryz.ntmps136
 go_upto_region 1 with fail
 obtain⟨V1,a6,T,y0,y1,y2,y3,y4,sV⟩:=zcC V xk xa xb xc xn;rw[a6];clear a6;replace l0:=zab l0 T.out;replace v1:=zab v1 T.out;replace v2:=zab v2 T.out;replace v3:=zab v3 T.out
 go_region_held3 (fun F=>F.cell? ⟨d,0,none⟩=some (.slice s.a0 n s.c0)/\F.cell? ⟨c1,0,none⟩=some (.func (.func K1) #[] #[])/\F.cell? ⟨c2,0,none⟩=some (.int .i64 D)/\F.cell? ⟨V.heap.size,0,none⟩=some (.int .i64 xk)/\F.cell? ⟨V.heap.size,1,none⟩=some (.int .i64 xa)/\F.cell? ⟨V.heap.size,2,none⟩=some (.int .i64 xb)/\F.cell? ⟨V.heap.size,3,none⟩=some (.int .i64 xc)/\F.cell? ⟨V.heap.size,4,none⟩=some (.int .i64 xn)) (go_keep) (first|(go_at_fn K1;refine yi (D1.out V1.drew) ?_;rintro e w3 ⟨rfl,a7⟩;have M:Hid (Below V1.heap.size V1 w3):=(yr _ _).drew.trans a7;have b6:=zab l0 M.out;have b7:=zab v1 M.out;have b8:=zab v2 M.out;have b9:=zab v3 M.out;have c6:=zab y0 M.out;have c7:=zab y1 M.out;have c8:=zab y2 M.out;have c9:=zab y3 M.out;have d4:=zab y4 M.out;clear a7)|(go_at_call 137;refine yi (D2.out w3 (T.out.trans (M.out.mono T.out.size))) ?_;rintro e w4 ⟨rfl,a8⟩;have O:Hid (Below V1.heap.size V1 w4):=M.out.trans (a8.mono M.out.size);have e0:=zab l0 O.out;have e1:=zab v1 O.out;have e2:=zab v2 O.out;have e3:=zab v3 O.out;have e4:=zab y0 O.out;have e5:=zab y1 O.out;have e6:=zab y2 O.out;have e7:=zab y3 O.out;have e8:=zab y4 O.out;clear a8))
 have I4:Hid _:=II.out.below (T.out.trans (O.out.mono T.out.size));have C4:Hid (C w4):=hC _ _ HC.out (T.out.trans (O.out.mono T.out.size));by_cases Z:E=0
 ·subst Z;obtain rfl:=(yd rfl).symm.trans HQ.out;have D4:Hid _:=D3.out rfl w4 I4.out C4.out
  go_wp2_with (go_at_fn K2;refine yi D4.out ?_;rintro e w5 ⟨o,s', rfl,ho,b1⟩)
  have HO:Hid _:=ho;have HS:Hid _:=b1;exact yw (v:=.tuple #[.int .i64 o,.int .i64 q.e]) (by simp[results,Tryz.results136,go_sem]) rfl ⟨o,s', rfl,HO.out,HS.out⟩
 ·obtain rfl:=(ya Z).symm.trans HQ.out;have hz:(E == 0)=false:=by simp[Z]
  go_wp2
  exact yw (v:=.tuple #[.int .i64 0,.int .i64 E]) (by simp[results,Tryz.results136,go_sem]) rfl (zdP.no I4.out Z)
theorem zpM{L:List Fr}{f t x:Int}(h:zdI L f t x=0):zcy L t=0:=by
 obtain⟨h1,_,D,_⟩:=zcg h;unfold zcy;simp[h1,D]
theorem zxN{X:Nat->Prop}{V:World}{g:Nat}{L:List Fr}(h:zaS V (some ⟨g,0,none⟩) L)(F:¬ X g):St X (fun V=>zaS V (some ⟨g,0,none⟩) L) V:=fun I E i hi=>by
 obtain⟨b,o,e,c0,c1,c2,c3,c4⟩:=h i hi;cases e;have D:=E.block g (ye _ _ c0) F;exact⟨g,0,rfl,(yC D).trans c0,(yC D).trans c1,(yC D).trans c2,(yC D).trans c3,(yC D).trans c4⟩
theorem zjT(me:Nat)(W:Wl)(x:Ac)(hm:zdI W.fs me x.n 2=0):zhA 112 #[] (fun _=>True) me W x ⟨0,W,(zku W.fs x.n:Nat)⟩:=fun w0 d s V I _=>by
 obtain⟨xk,xa,xb,xc,F⟩:=x;have II:Hid (SW w0 d me W s V):=I;have T:=I.lt;have a8:Hid _:=T;obtain⟨Z,l1,l2,l3,l4,lf,ll⟩:=zal I.box;have b1:d<V.heap.size:=ll;have n8:W.fs.length<=8:=I.rt.fs.few;have a5:me<W.fs.length:=I.sf;clear T;dsimp only at hm |-;have hh:zcy W.fs F=0:=zpM hm;have D:Hid (∀ V2,Below V.heap.size V V2->Calls _ _ _ _ _):=fun V2 hV=>zrv s.a0 s.c0 W.fs F V2 (by omega) (I.dp.fr.at.below hV);have e1:zBu W.fs F=(zku W.fs F:Nat):=yd hh;rw[e1,hh] at D;clear e1 hh hm;show Calls Tryz.prog _ #[.pointer (some ⟨d,0,none⟩),.int .i64 (me:Int),.agg #[.int .i64 xk,.int .i64 xa,.int .i64 xb,.int .i64 xc,.int .i64 F]] V _;obtain⟨n,hn⟩:∃ n,W.fs.length=n:=⟨_,rfl⟩;have HN:Hid (W.fs.length=n):=hn;obtain⟨nt,J⟩:∃ n,W.pt.length=n:=⟨_,rfl⟩;have a7:Hid (W.pt.length=nt):=J;rw[J] at l4;rw[hn] at Z l1 l2 l3 n8 a5;rw[hn] at D;obtain⟨L,hL⟩:∃ L:Int,((zku W.fs F:Nat):Int)=L:=⟨_,rfl⟩;rw[hL] at D |-;clear hL;clear hn J I;have a6:(me:Int)<(n:Int):=by omega
 go_enter Tryz.func112,Tryz.ntmps112
 go_upto_region 1 with fail
 obtain⟨V1,M,E,y0,y1,y2,y3,y4,sV⟩:=zcC V xk xa xb xc F;rw[M];clear M;replace Z:=zab Z E.out;replace l1:=zab l1 E.out;replace l2:=zab l2 E.out;replace l3:=zab l3 E.out;replace l4:=zab l4 E.out
 go_region_held3 (fun U=>U.cell? ⟨d,0,none⟩=some (.slice s.a0 n s.c0)/\U.cell? ⟨V.heap.size,4,none⟩=some (.int .i64 F)) (go_keep) (first|(go_at_call 138;refine yi (D.out V1.drew E.out.drew) ?_;rintro e w3 ⟨rfl,O⟩;have B3:Hid (Below V1.heap.size V1 w3):=(yr _ _).drew.trans O;have a9:=zab Z B3.out;have b0:=zab y4 B3.out;clear O))
 have I2:Hid _:=II.out.below (E.out.trans (B3.out.mono E.out.size))
 go_wp2
 exact yw (v:=.tuple #[.int .i64 L,.int .i64 0]) (by simp[results,Tryz.results112,go_sem]) rfl (zdP.ok I2.out)
theorem zrt(me:Nat)(W:Wl)(x:Ac)(hm:zdI W.fs me x.n 4=0):zhA 116 #[] (fun _=>True) me W x ⟨0,{ W with fs:=zkc W.fs x.n },0⟩:=fun w0 d s V I _=>by
 obtain⟨xk,xa,xb,xc,J⟩:=x;have II:Hid (SW w0 d me W s V):=I;have a6:=I.lt;have a8:Hid _:=a6;obtain⟨l0,l1,l2,l3,l4,lf,ll⟩:=zal I.box;have b4:d<V.heap.size:=ll;have n8:W.fs.length<=8:=I.rt.fs.few;have a9:me<W.fs.length:=I.sf;clear a6;dsimp only at hm |-;have hh:zcy W.fs J=0:=zpM hm;have D:Hid (∀ F,Below V.heap.size V F->Calls _ _ _ _ _):=fun F hV=>zqS s.a0 s.c0 W.fs J F n8 (I.dp.fr.at.below hV) hh;have FS:Hid (∀ F g,SW w0 d me W s F->V.heap.size<=g->zaS F (some ⟨g,0,none⟩) (zkc W.fs J)->∃ s', SW w0 d me { W with fs:=zkc W.fs J } s' (F.setCell ⟨d,0,none⟩ (.slice (some ⟨g,0,none⟩) W.fs.length W.fs.length))):=fun F g h2 hg hf=>⟨_,h2.frames (zxN hf (fun hb=>by have:=a8.out g hb;omega)) (zdw _ _) (zjk I.rt me J) (by rw[zdw];exact⟨(fun e=>by cases e),yk _,by omega⟩)⟩;clear hh hm;show Calls Tryz.prog _ #[.pointer (some ⟨d,0,none⟩),.int .i64 (me:Int),.agg #[.int .i64 xk,.int .i64 xa,.int .i64 xb,.int .i64 xc,.int .i64 J]] V _;obtain⟨n,hn⟩:∃ n,W.fs.length=n:=⟨_,rfl⟩;have HN:Hid (W.fs.length=n):=hn;obtain⟨nt,M⟩:∃ n,W.pt.length=n:=⟨_,rfl⟩;have b1:Hid (W.pt.length=nt):=M;rw[M] at l4;rw[hn] at l0 l1 l2 l3 n8 a9;rw[hn] at D FS;clear hn M I;have b0:(me:Int)<(n:Int):=by omega
 go_enter Tryz.func116,Tryz.ntmps116
 go_upto_region 1 with fail
 obtain⟨V1,O,E,y0,y1,y2,y3,y4,sV⟩:=zcC V xk xa xb xc J;rw[O];clear O;replace l0:=zab l0 E.out;replace l1:=zab l1 E.out;replace l2:=zab l2 E.out;replace l3:=zab l3 E.out;replace l4:=zab l4 E.out
 go_region_held3 (fun a7=>a7.cell? ⟨d,0,none⟩=some (.slice s.a0 n s.c0)/\a7.cell? ⟨V.heap.size,4,none⟩=some (.int .i64 J)) (go_keep) (first|(go_at_call 140;refine yi (D.out V1.drew E.out.drew) ?_;rintro e w3 ⟨g,rfl,T,Z,U⟩;have B3:Hid (Below V1.heap.size V1 w3):=(yr _ _).drew.trans T;have b2:=zab l0 B3.out;have b3:=zab y4 B3.out;have HG:Hid (V.heap.size<=g):=yH E.out.size (show V1.heap.size<=g from Z);have HF:Hid _:=U;clear U Z;clear T))
 have I2:Hid _:=II.out.below (E.out.trans (B3.out.mono E.out.size));obtain⟨s', a5⟩:=FS.out w3 g I2.out HG.out HF.out;have HS:Hid _:=a5;obtain⟨b5,b6,b7,b8,b9,c6,c7⟩:=zal I2.out.box;clear a5 l0 l1 l2 l3 l4
 go_wp2
 exact yw (v:=.tuple #[.int .i64 0,.int .i64 0]) (by simp[results,Tryz.results116,go_sem]) rfl (zdP.ok HS.out)
theorem SW.fcell{D:W0}{d me:Nat}{W:Wl}{s:SD}{V:World}(I:SW D d me W s V){i:Nat}(hi:i<W.fs.length):∃ b o,s.a0=some ⟨b,o,none⟩/\V.cell? ⟨b,o+i*5+2,none⟩=some (.int .i64 (fr W.fs i).m)/\V.cell? ⟨b,o+i*5+3,none⟩=some (.int .i64 (fr W.fs i).t)/\b<V.heap.size:=by
 obtain⟨b,o,e,c0,c1,c2,c3,c4⟩:=I.dp.fr.at i hi;exact⟨b,o,e,c2,c3,ye _ _ c2⟩
theorem zmm(W:Wl)(k:Nat):zaE W (k:Int)=(fr W.fs k).t:=by unfold zaE;rw[yj]
theorem SW.big{D:W0}{d me:Nat}{W:Wl}{s:SD}{V:World}(I:SW D d me W s V):W.pt.length<=9223372036854775807/\zsm W.pt:=(zdq I.rt).2.2.2.2
theorem zuw(me:Nat)(W:Wl)(x:Ac):zhA 118 #[] (fun _=>True) me W x (zvm W me):=fun w0 d s V I _=>by
 have QI:=zeW [zfF W.pt (many W) me (zaE W me)] W { W with pt:=zcz W.pt me (zaE W me) } W.pt.length;rw[zkQ] at QI;change QIs (zvm W me) _ _ _ _ at QI;obtain⟨xk,xa,xb,xc,xn⟩:=x;have II:Hid (SW w0 d me W s V):=I;have b3:=I.lt;have b5:Hid _:=b3;obtain⟨Z,l1,l2,l3,l4,lf,ll⟩:=zal I.box;have c9:d<V.heap.size:=ll;have n8:W.fs.length<=8:=I.rt.fs.few;have b9:me<W.fs.length:=I.sf;clear b3;obtain⟨fb,fo,ea,fm,ft,fl⟩:=I.fcell I.sf;rw[ea] at Z;have TN:=zmm W me;obtain⟨F,b4⟩:∃ t,(fr W.fs me).t=t:=⟨_,rfl⟩;rw[b4] at ft TN;clear b4 ea;have a7:∀ J,Below V.heap.size V J->∀ b,SX w0.heap.size d s b->b<J.heap.size:=fun J hV b hb=>yz (b5.out b hb) hV.size;have M:=I.big;rw[TN] at QI;have D:Hid (∀ J,Below V.heap.size V J->Calls _ _ _ _ _):=fun J hV=>zuu (SX w0.heap.size d s) s.a4 s.c4 W.pt (many W) me F J (a7 J hV) M.1 M.2 I.dp.pc (I.dp.pt.off (zar.of_below hV))
 have PS:Hid (zfF W.pt (many W) me F=0->∀ J va vc,SW w0 d me W s J->zbP (SX w0.heap.size d s) J va (znP W.pt (many W) me F)->SlA va (znP W.pt (many W) me F).length vc->∃ s', SW w0 d me { W with pt:=zcz W.pt me F } s' (J.setCell ⟨d,4,none⟩ (.slice va (znP W.pt (many W) me F).length vc))):=fun h J va vc h2 h3 h4=>by
  have e:znP W.pt (many W) me F=zcz W.pt me F:=yd h;rw[e] at h3 h4 |-;exact⟨_,h2.ports h3 (by have:=zjx I.rt (k:=me) (by rw[TN];exact h);rw[TN] at this;exact this) h4⟩
 have ON:Hid (zfF W.pt (many W) me F=0->zjw W.pt (many W) me F=W.pt.length):=fun h=>yd h;have MN:Hid (many W=(W.fs.length:Int)):=rfl;clear a7 M;show Calls Tryz.prog _ #[.pointer (some ⟨d,0,none⟩),.int .i64 (me:Int),.agg #[.int .i64 xk,.int .i64 xa,.int .i64 xb,.int .i64 xc,.int .i64 xn]] V _;obtain⟨n,hn⟩:∃ n,W.fs.length=n:=⟨_,rfl⟩;have HN:Hid (W.fs.length=n):=hn;obtain⟨nt,T⟩:∃ n,W.pt.length=n:=⟨_,rfl⟩;have c7:Hid (W.pt.length=nt):=T;rw[T] at l4 D;rw[hn] at Z l1 l2 l3 n8 b9;rw[show many W=(n:Int) from by rw[<- hn];rfl] at D PS ON QI;generalize zfF W.pt n me F=E at *;generalize znP W.pt n me F=L at *;generalize zjw W.pt n me F=a5 at *;generalize zvm W me=q at *;obtain⟨qe,qw,qo⟩:=q;obtain⟨b0,Q0,Q1⟩:=QI;dsimp only at b0 Q0 Q1 |-;subst b0;have Q0:Hid _:=Q0;have Q1:Hid _:=Q1;clear hn T I;have c6:(me:Int)<(n:Int):=by omega
 go_enter Tryz.func118,Tryz.ntmps118
 go_upto_region 1 with fail
 obtain⟨V1,a6,O,y0,y1,y2,y3,y4,sV⟩:=zcC V xk xa xb xc xn;rw[a6];clear a6;replace Z:=zab Z O.out;replace l1:=zab l1 O.out;replace l2:=zab l2 O.out;replace l3:=zab l3 O.out;replace l4:=zab l4 O.out;replace ft:=zab ft O.out;have d4:fb<V1.heap.size:=by omega
 go_region_held3 (fun U=>U.cell? ⟨d,0,none⟩=some (.slice (some ⟨fb,fo,none⟩) n s.c0)/\U.cell? ⟨d,4,none⟩=some (.slice s.a4 nt s.c4)/\U.cell? ⟨fb,fo+me*5+3,none⟩=some (.int .i64 F)) (go_keep) (first|(go_at_call 142;refine yi (D.out V1.drew O.out.drew) ?_;rintro e w3 ⟨va,vc,rfl,a8,b2,a9⟩;have B3:Hid (Below V1.heap.size V1 w3):=(yr _ _).drew.trans a8;have b7:=zab Z B3.out;have b8:=zab l4 B3.out;have c8:=zab ft B3.out;have b6:Hid _:=b2;have HP:Hid _:=a9;clear a8 b2 a9))
 have I2:Hid _:=II.out.below (O.out.trans (B3.out.mono O.out.size));obtain⟨d5,d6,d7,d8,d9,e0,e1⟩:=zal I2.out.box;clear Z l1 l2 l3 l4 b7 b8;by_cases hE:qe=0
 ·subst hE;obtain⟨rfl,rfl⟩:=Q0.out rfl;obtain⟨s', b1⟩:=PS.out rfl w3 va vc I2.out HP.out b6.out;have HS:Hid _:=b1;have HO:Hid (a5=(W.pt.length:Int)):=ON.out rfl;clear b1
  go_wp2
  refine yw (v:=.tuple #[.int .i64 a5,.int .i64 0]) (by simp[results,Tryz.results118,go_sem]) rfl ?_;rw[HO.out];exact zdP.ok HS.out
 ·obtain rfl:=Q1.out hE;have hz:(qe == 0)=false:=by simp[hE]
  go_wp2
  exact yw (v:=.tuple #[.int .i64 0,.int .i64 qe]) (by simp[results,Tryz.results118,go_sem]) rfl (zdP.no I2.out hE)
def zkg(F:W0)(d me:Nat)(W O:Wl)(E:Int)(L:List Pt)(g1:Nat)(J:World)(e:Ending)(V:World):Prop:=∃ (D:Option Addr) (I:Nat) (M:List Pt) (s:SD),e=.returned (.tuple #[.slice D M.length I,.int .i64 E])/\zar (fun b=>b=g1) J V/\(E=0->M=L/\SW F d me O s V/\zbP (SX F.heap.size d s) V D L/\SlA D L.length I)/\(E≠0->SW F d me W s V)
def PBy(K:Nat)(me:Nat)(W:Wl)(x:Ac)(F:Wl)(E:Int)(L:List Pt):Prop:=∀ (D:W0) (d:Nat) (s:SD) (V:World),SW D d me W s V ->
 Calls Tryz.prog K #[.pointer (some ⟨d,0,none⟩),.int .i64 (me:Int),.int .i64 (zaE W me),acV x] V (zkg D d me W F E L s.g1 V)
theorem zne{W D:World}{b o g:Nat}{v:Value}(h:W.cell? ⟨b,o,none⟩=some v)(E:zar (fun x=>x=g) W D)(hg:b≠g):D.cell? ⟨b,o,none⟩=some v:=(yC (E.block b (ye _ _ h) hg)).trans h
theorem SW.no_row{M:W0}{d me:Nat}{W:Wl}{s:SD}{V:World}(I:SW M d me W s V){b o:Nat}{v:Value}(h:V.cell? ⟨b,o,none⟩=some v)(D:∀ a n c,v≠.slice a n c):b≠s.g1:=fun e=>by
 subst e;obtain⟨c,hc,hl,J⟩:=I.r1;simp only[World.cell?,hc] at h
 have E:o<W.fs.length*4:=by
  rcases Nat.lt_or_ge o (W.fs.length*4) with F|F
  ·exact F
  ·rw[Array.getElem?_eq_none (by omega)] at h;cases h
 rw[J o E] at h;have e:=Option.some.inj h;unfold zpi at e
 split at e
 ·exact D _ _ _ e.symm
 ·split at e
  ·exact D _ _ _ e.symm
  ·split at e
   ·exact D _ _ _ e.symm
   ·exact D _ _ _ e.symm
theorem zeH(K cb:Nat)(eg:∀ args w,(callFunc K args).run Tryz.prog w=.ok (.enter K args) w)(me:Nat)(W:Wl)(x:Ac)(W1:Wl)(E:Int)(L:List Pt)(hK:PBy K me W x W1 E L)(hR:E=0->zan { W1 with pt:=L })(q:Ws)(QI:QIs q E W { W1 with pt:=L } 0) :
  zhA 143 #[.pointer (some ⟨cb,0,none⟩)] (fun V=>V.cell? ⟨cb,0,none⟩=some (.func (.func K) #[] #[])) me W x q:=fun w0 d s V I v1=>by
 obtain⟨xk,xa,xb,xc,xn⟩:=x;have II:Hid (SW w0 d me W s V):=I;have a9:=I.lt;have b7:Hid _:=a9;obtain⟨l0,l1,l2,l3,l4,lf,ll⟩:=zal I.box;have d7:d<V.heap.size:=ll;have n8:W.fs.length<=8:=I.rt.fs.few;have b1:me<W.fs.length:=I.sf;clear a9;obtain⟨fb,fo,ea,fm,ft,fl⟩:=I.fcell I.sf;rw[ea] at l0;have TN:=zmm W me;obtain⟨tn,b0⟩:∃ t,(fr W.fs me).t=t:=⟨_,rfl⟩;rw[b0] at ft TN;clear b0 ea;have D:Hid (∀ V2,Below V.heap.size V V2->Calls _ _ _ _ _):=fun V2 hV=>hK w0 d s V2 (I.below hV);dsimp only[acV] at D;rw[TN] at D;have RR:Hid _:=hR;have b2:d≠s.g1:=I.ap.d1;have b3:fb≠s.g1:=I.no_row ft (fun _ _ _ h=>by cases h);have b4:cb≠s.g1:=I.no_row v1 (fun _ _ _ h=>by cases h);have J:V.heap.size≠s.g1:=Nat.ne_of_gt I.r1.lt;clear hK hR;show Calls Tryz.prog _ #[.pointer (some ⟨d,0,none⟩),.int .i64 (me:Int),.agg #[.int .i64 xk,.int .i64 xa,.int .i64 xb,.int .i64 xc,.int .i64 xn],.pointer (some ⟨cb,0,none⟩)] V _;obtain⟨n,hn⟩:∃ n,W.fs.length=n:=⟨_,rfl⟩;have HN:Hid (W.fs.length=n):=hn;obtain⟨nt,U⟩:∃ n,W.pt.length=n:=⟨_,rfl⟩;have b6:Hid (W.pt.length=nt):=U;rw[U] at l4;rw[hn] at l0 l1 l2 l3 n8 b1;obtain⟨qe,qw,qo⟩:=q;obtain⟨a7,Q0,Q1⟩:=QI;dsimp only at a7 Q0 Q1 |-;subst a7;have Q0:Hid _:=Q0;have Q1:Hid _:=Q1;clear hn U I;have b5:(me:Int)<(n:Int):=by omega
 have d6:cb<V.heap.size:=ye _ _ v1
 go_enter Tryz.func143,Tryz.ntmps143
 go_upto_region 1 with fail
 obtain⟨V1,a5,O,y0,y1,y2,y3,y4,sV⟩:=zcC V xk xa xb xc xn;rw[a5];clear a5;replace l0:=zab l0 O.out;replace l1:=zab l1 O.out;replace l2:=zab l2 O.out;replace l3:=zab l3 O.out;replace l4:=zab l4 O.out;replace ft:=zab ft O.out;replace v1:=zab v1 O.out;have d8:fb<V1.heap.size:=by omega
 go_region_held3 (fun F=>F.cell? ⟨d,0,none⟩=some (.slice (some ⟨fb,fo,none⟩) n s.c0)/\F.cell? ⟨V.heap.size,0,none⟩=some (.int .i64 xk)/\F.cell? ⟨V.heap.size,1,none⟩=some (.int .i64 xa)/\F.cell? ⟨V.heap.size,2,none⟩=some (.int .i64 xb)/\F.cell? ⟨V.heap.size,3,none⟩=some (.int .i64 xc)/\F.cell? ⟨V.heap.size,4,none⟩=some (.int .i64 xn)/\F.cell? ⟨fb,fo+me*5+3,none⟩=some (.int .i64 tn)/\F.cell? ⟨cb,0,none⟩=some (.func (.func K) #[] #[])) (go_keep) (first|(go_at_fn K;refine yi (D.out V1.drew O.out.drew) ?_;rintro e w3 ⟨va,vc,M,s3,rfl,hx,h0,h1⟩;have T:Hid (zar (fun b=>b=s.g1) V1 w3):=⟨hx.size,hx.block⟩;have b9:=zne l0 T.out b2;have b8:=zne ft T.out b3;have c6:=zne v1 T.out b4;have c7:=zne y0 T.out J;have c8:=zne y1 T.out J;have c9:=zne y2 T.out J;have d4:=zne y3 T.out J;have d5:=zne y4 T.out J;clear hx;have H0:Hid _:=h0;have H1:Hid _:=h1;clear h0 h1))
 by_cases hE:qe=0
 ·subst hE;obtain⟨rfl,rfl⟩:=Q0.out rfl;obtain⟨rfl,Z,a6,a8⟩:=H0.out rfl;have HS:Hid _:=Z.ports a6 (RR.out rfl) a8;obtain⟨d9,e0,e1,e2,e3,e4,e5⟩:=zal Z.box;clear Z a6 a8 H0 H1 l0 l1 l2 l3 l4
  go_wp2
  exact yw (v:=.tuple #[.int .i64 0,.int .i64 0]) (by simp[results,Tryz.results143,go_sem]) rfl (zdP.ok HS.out)
 ·obtain rfl:=Q1.out hE;have HS:Hid _:=H1.out hE;have hz:(qe == 0)=false:=by simp[hE]
  go_wp2
  exact yw (v:=.tuple #[.int .i64 0,.int .i64 qe]) (by simp[results,Tryz.results143,go_sem]) rfl (zdP.no HS.out hE)
def zke(me:Nat)(W:Wl)(x:Ac)(F:World)(e:Ending)(V:World):Prop:=∃ (K:Nat) (D:Array Value) (C:World->Prop),e=.returned (.func (.func K) #[] D)/\Below F.heap.size F V/\C V/\(∀ V E,C V->Below V.heap.size V E->C E)/\(∀ args w,(callFunc K args).run Tryz.prog w=.ok (.enter K args) w)/\zhA K D C me W x (zdv W me x)
def zmv(I J:Nat)(D:Array Value)(E:Int)(F:World)(e:Ending)(V:World):Prop:=∃ c1 c2 c3,e=.returned (.func (.func 136) #[] #[.pointer (some ⟨c1,0,none⟩),.pointer (some ⟨c2,0,none⟩),.pointer (some ⟨c3,0,none⟩)])/\Below F.heap.size F V/\V.cell? ⟨c1,0,none⟩=some (.func (.func I) #[] #[])/\V.cell? ⟨c2,0,none⟩=some (.int .i64 E)/\V.cell? ⟨c3,0,none⟩=some (.func (.func J) #[] D)
theorem zex(E:Int)(Es:List Int)(W V:Wl)(o:Int):zff (E :: Es) W V o=if E=0 then zff Es W V o else ⟨E,W,0⟩:=by
 unfold zff;by_cases h:E=0
 ·subst h;rfl
 ·have e:zaq (E :: Es)=E:=ya h;rw[e,ya h,ya h]
theorem zke.may{I J:Nat}{E:Array Value}{D t:Int}{me:Nat}{W:Wl}{x:Ac}{Z V:World}{e:Ending}{C:World->Prop}{q:Ws}(hv:zmv I J E D Z e V)(c:C V)(O:∀ args w,(callFunc I args).run Tryz.prog w=.ok (.enter I args) w)(T:∀ args w,(callFunc J args).run Tryz.prog w=.ok (.enter J args) w)(hw:(Lit.int .i64 D).wf=true)(h1:∀ V,Calls Tryz.prog I #[acV x] V fun e w' => e=.returned (.int .i64 t)/\Below V.heap.size V w')(hC:∀ V M,C V->Below V.heap.size V M->C M)(U:zdI W.fs me t D=0->zhA J E C me W x q)(hq:zdv W me x=if zdI W.fs me t D=0 then q else ⟨zdI W.fs me t D,W,0⟩):zke me W x Z e V:=by
 obtain⟨c1,c2,c3,he,F,v1,v2,v3⟩:=hv;exact⟨_,_,_,he,F,⟨v1,v2,v3,c⟩,fun V M ⟨h1,U,h3,h4⟩ F=>⟨zab h1 F,zab U F,zab h3 F,hC V M h4 F⟩,(yK Tryz.func136 (by kernel_rfl) rfl),hq ▸ zrg I J c1 c2 c3 E D t O T me W x hw h1 C hC q U⟩
theorem zcJ(F I:Nat)(D:Array Value)(E:Int)(W:World):Calls Tryz.prog 110 #[.int .i64 E,.func (.func F) #[] #[],.func (.func I) #[] D] W (zmv F I D E W):=by
 go_enter Tryz.func110,Tryz.ntmps110
 go_wp2
 go_ret;exact⟨_,_,_,rfl,((zaa _ _).trans ((zaa _ _).mono (by simp))).trans ((zaa _ _).mono (by simp;omega)),by go_simp,by go_simp,by go_simp⟩
theorem zcj(F:Nat)(W:World):Calls Tryz.prog 119 #[.func (.func F) #[] #[]] W fun e w' => e=.returned (.func (.func 143) #[] #[.pointer (some ⟨W.heap.size,0,none⟩)])/\Below W.heap.size W w' /\ w'.cell? ⟨W.heap.size,0,none⟩=some (.func (.func F) #[] #[]):=by
 go_enter Tryz.func119,Tryz.ntmps119
 go_wp2
 go_ret;exact⟨rfl,zaa _ _,zad _ _ _ 0 rfl⟩
theorem ztS(W:World):Calls Tryz.prog 79 #[.int .i64 9] W (zmv 111 112 #[] 2 W):=by
 have D:Hid (∀ W,Calls _ _ _ _ _):=fun W=>zcJ 111 112 #[] 2 W
 go_enter Tryz.func79,Tryz.ntmps79
 go_wp2_with fail
 refine yi (D.out _) ?_;rintro e V ⟨c1,c2,c3,rfl,E,v1,v2,F⟩;have I:Hid _:=E;have J:Hid _:=And.intro v1 (And.intro v2 F);clear E v1 v2 F D
 go_wp2
 go_ret;exact⟨c1,c2,c3,rfl,I.out,J.out⟩
theorem zrj(W:World):Calls Tryz.prog 79 #[.int .i64 10] W (zmv 113 114 #[] 3 W):=by
 have D:Hid (∀ W,Calls _ _ _ _ _):=fun W=>zcJ 113 114 #[] 3 W
 go_enter Tryz.func79,Tryz.ntmps79
 go_wp2_with fail
 refine yi (D.out _) ?_;rintro e V ⟨c1,c2,c3,rfl,E,v1,v2,F⟩;have I:Hid _:=E;have J:Hid _:=And.intro v1 (And.intro v2 F);clear E v1 v2 F D
 go_wp2
 go_ret;exact⟨c1,c2,c3,rfl,I.out,J.out⟩
theorem zrk(W:World):Calls Tryz.prog 79 #[.int .i64 12] W (zmv 113 115 #[] 1 W):=by
 have D:Hid (∀ W,Calls _ _ _ _ _):=fun W=>zcJ 113 115 #[] 1 W
 go_enter Tryz.func79,Tryz.ntmps79
 go_wp2_with fail
 refine yi (D.out _) ?_;rintro e V ⟨c1,c2,c3,rfl,E,v1,v2,F⟩;have I:Hid _:=E;have J:Hid _:=And.intro v1 (And.intro v2 F);clear E v1 v2 F D
 go_wp2
 go_ret;exact⟨c1,c2,c3,rfl,I.out,J.out⟩
theorem zrl(W:World):Calls Tryz.prog 79 #[.int .i64 13] W (zmv 111 116 #[] 4 W):=by
 have D:Hid (∀ W,Calls _ _ _ _ _):=fun W=>zcJ 111 116 #[] 4 W
 go_enter Tryz.func79,Tryz.ntmps79
 go_wp2_with fail
 refine yi (D.out _) ?_;rintro e V ⟨c1,c2,c3,rfl,E,v1,v2,F⟩;have I:Hid _:=E;have J:Hid _:=And.intro v1 (And.intro v2 F);clear E v1 v2 F D
 go_wp2
 go_ret;exact⟨c1,c2,c3,rfl,I.out,J.out⟩
theorem zrr(W:World):Calls Tryz.prog 79 #[.int .i64 21] W (zmv 111 117 #[] 5 W):=by
 have D:Hid (∀ W,Calls _ _ _ _ _):=fun W=>zcJ 111 117 #[] 5 W
 go_enter Tryz.func79,Tryz.ntmps79
 go_wp2_with fail
 refine yi (D.out _) ?_;rintro e V ⟨c1,c2,c3,rfl,E,v1,v2,F⟩;have I:Hid _:=E;have J:Hid _:=And.intro v1 (And.intro v2 F);clear E v1 v2 F D
 go_wp2
 go_ret;exact⟨c1,c2,c3,rfl,I.out,J.out⟩
theorem zro(W:World):Calls Tryz.prog 79 #[.int .i64 18] W fun e w' => ∃ E,e=.returned (.func (.func 143) #[] #[.pointer (some ⟨E,0,none⟩)])/\Below W.heap.size W w' /\ w'.cell? ⟨E,0,none⟩=some (.func (.func 121) #[] #[]):=by
 have D:Hid (∀ W,Calls _ _ _ _ _):=fun W=>zcj 121 W
 go_enter Tryz.func79,Tryz.ntmps79
 go_wp2_with fail
 refine yi (D.out _) ?_;rintro e V ⟨rfl,F,hc⟩;have I:Hid _:=F;have J:Hid _:=hc;clear F hc D
 go_wp2
 go_ret;exact⟨_,rfl,I.out,J.out⟩
theorem zrp(W:World):Calls Tryz.prog 79 #[.int .i64 19] W fun e w' => ∃ E,e=.returned (.func (.func 143) #[] #[.pointer (some ⟨E,0,none⟩)])/\Below W.heap.size W w' /\ w'.cell? ⟨E,0,none⟩=some (.func (.func 122) #[] #[]):=by
 have D:Hid (∀ W,Calls _ _ _ _ _):=fun W=>zcj 122 W
 go_enter Tryz.func79,Tryz.ntmps79
 go_wp2_with fail
 refine yi (D.out _) ?_;rintro e V ⟨rfl,F,hc⟩;have I:Hid _:=F;have J:Hid _:=hc;clear F hc D
 go_wp2
 go_ret;exact⟨_,rfl,I.out,J.out⟩
theorem zrq(W:World):Calls Tryz.prog 79 #[.int .i64 20] W fun e w' => ∃ E,e=.returned (.func (.func 143) #[] #[.pointer (some ⟨E,0,none⟩)])/\Below W.heap.size W w' /\ w'.cell? ⟨E,0,none⟩=some (.func (.func 123) #[] #[]):=by
 have D:Hid (∀ W,Calls _ _ _ _ _):=fun W=>zcj 123 W
 go_enter Tryz.func79,Tryz.ntmps79
 go_wp2_with fail
 refine yi (D.out _) ?_;rintro e V ⟨rfl,F,hc⟩;have I:Hid _:=F;have J:Hid _:=hc;clear F hc D
 go_wp2
 go_ret;exact⟨_,rfl,I.out,J.out⟩
theorem zrn(W:World):Calls Tryz.prog 79 #[.int .i64 17] W fun e w' => ∃ O,zmv 113 143 #[.pointer (some ⟨O,0,none⟩)] 3 W e w' /\ w'.cell? ⟨O,0,none⟩=some (.func (.func 120) #[] #[]):=by
 have D:Hid (∀ W,Calls _ _ _ _ _):=fun W=>zcj 120 W;have J:Hid (∀ E W,Calls _ _ _ _ _):=fun E W=>zcJ 113 143 E 3 W
 go_enter Tryz.func79,Tryz.ntmps79
 go_wp2_with fail
 refine yi (D.out _) ?_;rintro e V ⟨rfl,I,hc⟩;have M:Hid _:=I;have U:Hid _:=hc;clear I hc D
 go_wp2_with fail
 refine yi (J.out _ _) ?_;rintro e V2 ⟨c1,c2,c3,rfl,I,v1,v2,T⟩;have F:Hid _:=I;have Z:Hid _:=And.intro v1 (And.intro v2 T);clear I v1 v2 T J
 go_wp2
 go_ret;exact⟨_,⟨c1,c2,c3,rfl,M.out.trans (F.out.mono M.out.size),Z.out⟩,zab U.out F.out⟩
theorem zrm(W:World):Calls Tryz.prog 79 #[.int .i64 16] W fun e w' => e=.returned (.func (.func 118) #[] #[])/\Below W.heap.size W w' := by
 go_enter Tryz.func79,Tryz.ntmps79
 go_wp2
 go_ret;exact⟨rfl,yr _ _⟩
theorem zrs(k:Int)(W:World)(U:k≠9/\k≠10/\k≠12/\k≠13/\k≠21/\k≠16/\k≠17/\k≠18/\k≠19/\k≠20):Calls Tryz.prog 79 #[.int .i64 k] W fun e w' => e=.returned (.func (.func 124) #[] #[])/\Below W.heap.size W w' := by
 obtain⟨h1,E,F,I,h5,J,M,O,T,D⟩:=U;have z1:(k == 9)=false:=by simp[h1]
 have z2:(k == 10)=false:=by simp[E]
 have z3:(k == 12)=false:=by simp[F]
 have z4:(k == 13)=false:=by simp[I]
 have z5:(k == 21)=false:=by simp[h5]
 have z6:(k == 16)=false:=by simp[J]
 have z7:(k == 17)=false:=by simp[M]
 have z8:(k == 18)=false:=by simp[O]
 have z9:(k == 19)=false:=by simp[T]
 have Z:(k == 20)=false:=by simp[D]
 clear h1 E F I h5 J M O T D
 go_enter Tryz.func79,Tryz.ntmps79
 go_wp2
 go_ret;exact⟨rfl,yr _ _⟩
theorem zxL{a b:Int}:zaq [a,b]=if a=0 then b else a:=by
 show (if a=0 then (if b=0 then 0 else b) else a)=_;by_cases h:b=0
 ·rw[yd h,h]
 ·rw[ya h]
theorem zrL(me:Nat)(W:Wl)(x:Ac)(hm:zax W.fs x.a=0)(q:Ws)(QI:QIs q (zaq [if isH x.b then 0 else 4,zaz (rlm W x.a.toNat).s (hd (rlm W x.a.toNat) x.b).1 (hd (rlm W x.a.toNat) x.b).2]) W W (nd (rlm W x.a.toNat).s (hd (rlm W x.a.toNat) x.b).1.toNat).m):zhA 115 #[] (fun _=>True) me W x q:=fun w0 d s V I _=>by
 rw[zxL] at QI;obtain⟨xk,xa,xb,xc,xn⟩:=x;have II:Hid (SW w0 d me W s V):=I;have b6:=I.lt;have c9:Hid _:=b6;obtain⟨l0,l1,l2,l3,l4,lf,ll⟩:=zal I.box;have d7:d<V.heap.size:=ll;have n8:W.fs.length<=8:=I.rt.fs.few;have c6:me<W.fs.length:=I.sf;clear b6;obtain⟨qa,b4,a5,_⟩:=zdA hm;dsimp only at b4 QI;subst b4;rw[yj] at QI;obtain⟨wf,hl,_,_⟩:=zav (I.rt.rs qa a5);obtain⟨k0,k1,k2,k3,kf,kl⟩:=I.rcells a5;have hw:=I.rat a5;have HW:Hid (zct V (s.R qa) (rlm W qa)):=hw;have D:Hid (∀ V2 P U,Below V.heap.size V V2->Calls _ _ _ _ _):=fun V2 P U hV=>zeK (rlm W qa).s P U (s.R qa).a0 (s.R qa).c0 V2 wf (hw.1.below hV)
 have HH:Hid (∀ p:Nat,p<16->∃ b o,(s.R qa).a1=some ⟨b,o,none⟩/\V.cell? ⟨b,o+p*2,none⟩=some (.int .i64 (hd (rlm W qa) p).1)/\V.cell? ⟨b,o+p*2+1,none⟩=some (.int .i64 (hd (rlm W qa) p).2)/\b<V.heap.size):=fun p hp=>by
  obtain⟨b,o,e,h1,h2⟩:=hw.2.1 p (by omega);have e2:hd (rlm W qa) (p:Int)=(rlm W qa).hs.getD p (0,0):=by unfold hd;rw[yj]
  rw[e2];exact⟨b,o,e,h1,h2,ye _ _ h1⟩
 have DW:Hid (∀ V2,Calls _ _ _ _ _):=fun V2=>zaR xb 0 15 V2;rw[hl] at k1;clear hw hm wf hl;show Calls Tryz.prog _ #[.pointer (some ⟨d,0,none⟩),.int .i64 (me:Int),.agg #[.int .i64 xk,.int .i64 qa,.int .i64 xb,.int .i64 xc,.int .i64 xn]] V _;obtain⟨n,hn⟩:∃ n,W.fs.length=n:=⟨_,rfl⟩;have HN:Hid (W.fs.length=n):=hn;obtain⟨nt,b0⟩:∃ n,W.pt.length=n:=⟨_,rfl⟩;have c8:Hid (W.pt.length=nt):=b0;rw[b0] at l4;rw[hn] at l0 l1 l2 l3 n8 c6 a5;clear hn b0 I;have c7:(me:Int)<(n:Int):=by omega
 have e0:(qa:Int)<(n:Int):=by omega
 obtain⟨r0,b5⟩:∃ n,(rlm W qa).s.length=n:=⟨_,rfl⟩;rw[b5] at D k0;clear b5;generalize (rlm W qa).i.length=r2 at *;generalize (rlm W qa).t.length=r3 at *;obtain⟨qe,qw,qo⟩:=q;obtain⟨a6,Q0,Q1⟩:=QI;dsimp only at a6 Q0 Q1 |-;rw[<- a6] at Q0 Q1;have Q0:Hid _:=Q0;have Q1:Hid _:=Q1;have a8:Hid _:=a6;clear a6
 go_enter Tryz.func115,Tryz.ntmps115
 go_upto_region 1 with fail
 obtain⟨M,b3,O,y0,y1,y2,y3,y4,sV⟩:=zcC V xk qa xb xc xn;rw[b3];clear b3;replace l0:=zab l0 O.out;replace l1:=zab l1 O.out;replace l2:=zab l2 O.out;replace l3:=zab l3 O.out;replace l4:=zab l4 O.out;replace k0:=zab k0 O.out;replace k1:=zab k1 O.out;replace k2:=zab k2 O.out;replace k3:=zab k3 O.out;have n0:¬ M.heap.size=d:=by omega
 have o0:¬ d=M.heap.size:=by omega
 have n1:¬ M.heap.size=s.g1:=by omega
 have o1:¬ s.g1=M.heap.size:=by omega
 have n2:¬ M.heap.size=V.heap.size:=by omega
 have o2:¬ V.heap.size=M.heap.size:=by omega
 have e3:d<M.heap.size:=by omega
 have e4:s.g1<M.heap.size:=by omega
 go_cut [8] (fun s8 wx=>∃ (b:Nat),s8=.pointer (some ⟨b,0,none⟩)/\Hid (Below M.heap.size M wx)/\Hid (wx.heap[b]?=some (.cells #[.slice (s.R qa).a0 r0 (s.R qa).c0,.slice (s.R qa).a1 16 (s.R qa).c1,.slice (s.R qa).a2 r2 (s.R qa).c2,.slice (s.R qa).a3 r3 (s.R qa).c3] 50 (0,0)))/\M.heap.size<=b)
 case first =>
  go_region
  go_wp2_with fail
  go_meet
  case rel=>exact⟨_,rfl,(zaa M _).drew,zci _ _ _ _ _ _,yk _⟩
 case rest =>
  obtain⟨b,rfl,HB,HX,d5⟩:=hcut;have BW:Hid (Below V.heap.size V wc):=O.out.trans (HB.out.mono O.out.size);have I2:Hid _:=II.out.below BW.out;obtain⟨m0,m1,m2,m3,ml⟩:=zyl HX.out;have a7:=zab y2 HB.out;have e8:V.heap.size<wc.heap.size:=ye _ _ a7;clear l0 l1 l2 l3 l4 k0 k1 k2 k3 n0 o0 n1 o1 n2 o2;by_cases J:isH xb
  ·obtain⟨p,rfl,hp⟩:=zmu J;have hq:=a8.out;rw[show (if isH (p:Int) then (0:Int) else 4)=0 from yd J,yd rfl] at hq;rw[show decide (0<=(p:Int)/\(p:Int)<=15)=true from yG J] at DW;clear a8;obtain⟨hb,ho,ea,u0,u1,ul⟩:=HH.out p hp;replace u0:=zab u0 BW.out;replace u1:=zab u1 BW.out;rw[ea] at m1;clear ea HH;generalize hd (rlm W qa) (p:Int)=hh at *;obtain⟨P,U⟩:=hh;dsimp only at u0 u1 hq Q0 Q1;have DD:Hid (∀ V2,Below wc.heap.size wc V2->Calls _ _ _ _ _):=fun V2 hV=>D.out V2 P U (BW.out.trans (hV.mono BW.out.size));clear D;rw[<- hq] at DD;have HQ:Hid _:=hq;clear hq J;have d8:(p:Int)<16:=by omega
   have e1:hb<wc.heap.size:=ye _ _ u0
   go_upto_region 4 with (go_at_call 66;refine(DW.out _).mono ?_;rintro e w3 ⟨rfl,b1⟩;subst b1)
   have n1:¬ w3.heap.size=b:=by omega
   have e5:¬ b=w3.heap.size:=by omega
   have n2:¬ w3.heap.size=hb:=by omega
   have e6:¬ hb=w3.heap.size:=by omega
   have n3:¬ w3.heap.size=V.heap.size:=by omega
   have e7:¬ V.heap.size=w3.heap.size:=by omega
   go_cut [9,10] (fun s9 s10 wx=>∃ (c:Nat) (mm pp:Int),s9=.pointer (some ⟨c,0,none⟩)/\s10=.int .i64 qe/\Hid (Below w3.heap.size w3 wx)/\wx.cell? ⟨c,3,none⟩=some (.int .i64 mm)/\wx.cell? ⟨c,4,none⟩=some (.int .i64 pp)/\w3.heap.size<=c/\Hid (qe=0->mm=(nd (rlm W qa).s P.toNat).m/\pp=(nd (rlm W qa).s P.toNat).p))
   case first =>
    go_region_held3 (fun Z=>Z.cell? ⟨b,0,none⟩=some (.slice (s.R qa).a0 r0 (s.R qa).c0)/\Z.cell? ⟨b,1,none⟩=some (.slice (some ⟨hb,ho,none⟩) 16 (s.R qa).c1)/\Z.cell? ⟨V.heap.size,2,none⟩=some (.int .i64 p)/\Z.cell? ⟨hb,ho+p*2,none⟩=some (.int .i64 P)/\Z.cell? ⟨hb,ho+p*2+1,none⟩=some (.int .i64 U)) (go_keep) (first|(go_at_call 14;refine yi (DD.out w3.drew (yr _ _).drew) ?_;rintro e w5 ⟨nx,ka,kl,kc,rfl,F,T,b2⟩;have E:Hid (Below w3.heap.size w3 w5):=(yr _ _).drew.trans F;have a9:Hid _:=T;have g0:=zab m0 E.out;have g1:=zab m1 E.out;have gy:=zab a7 E.out;have b8:=zab u0 E.out;have b9:=zab u1 E.out;clear F T b2)|(go_at_call 14;refine yi (DD.out (w3.alloc (.cells #[.bool false,.int .i64 0,.int .i64 0,.int .i64 0,.int .i64 0,.slice none 0 0,.int .i64 0,.bool false] 57)).drew (zaa w3 _).drew) ?_;rintro e w5 ⟨nx,ka,kl,kc,rfl,F,T,b2⟩;have E:Hid (Below w3.heap.size w3 w5):=(zaa w3 _).drew.trans (F.mono (by simp));have a9:Hid _:=T;have g0:=zab m0 E.out;have g1:=zab m1 E.out;have gy:=zab a7 E.out;have b8:=zab u0 E.out;have b9:=zab u1 E.out;have X3:Hid (w5.heap[w3.heap.size]?=some (.cells #[.bool false,.int .i64 0,.int .i64 0,.int .i64 0,.int .i64 0,.slice none 0 0,.int .i64 0,.bool false] 57 (0,0))):=zat (W:=(w3.alloc (.cells #[.bool false,.int .i64 0,.int .i64 0,.int .i64 0,.int .i64 0,.slice none 0 0,.int .i64 0,.bool false] 57)).drew) (yL w3 _) F;obtain⟨x0,x1,x2,x3,x4,x5,x6,x7,xf,xl⟩:=zdn X3.out;clear F T b2))
    ·go_wp2_with fail
     go_meet
     case rel =>
      have r:=zuS nx (.slice ka kl kc) 57 (yr w3.heap.size w3) E.out;exact⟨_,_,_,rfl,rfl,r.1,r.2.1,r.2.2.1,r.2.2.2,fun h=>by rw[a9.out h];exact⟨rfl,rfl⟩⟩
    ·go_wp2_with fail
     go_meet
     case rel =>
      have r:=zuT nx (.slice ka kl kc) (yr w3.heap.size w3) E.out X3.out;exact⟨_,_,_,rfl,rfl,r.1,r.2.1,r.2.2.1,r.2.2.2,fun h=>by rw[a9.out h];exact⟨rfl,rfl⟩⟩
   case rest =>
    obtain⟨c,mm,pp,rfl,rfl,b7,hm,d9,d6,HM⟩:=hcut;have I4:Hid _:=I2.out.below b7.out;have d4:c<wc.heap.size:=ye _ _ hm;clear m0 m1 m2 m3 u0 u1 a7
    go_wp2
    refine yw (v:=.tuple #[.int .i64 mm,.int .i64 qe]) (by simp[results,Tryz.results115,go_sem]) rfl ?_;by_cases hE:qe=0
    ·obtain⟨h1,h2⟩:=Hid.out Q0 hE;subst hE;rw[(HM.out rfl).1,h1,h2];exact zdP.ok I4.out
    ·rw[Hid.out Q1 hE];exact zdP.no I4.out hE
  ·have hq:=a8.out;rw[show (if isH xb then (0:Int) else 4)=4 from ya J,ya (by decide)] at hq;rw[show decide (0<=xb/\xb<=15)=false from yF J] at DW;subst hq;obtain rfl:=Hid.out Q1 (by decide);clear D HH
   go_wp2_with (go_at_call 66;refine(DW.out _).mono ?_;rintro e w3 ⟨rfl,b1⟩;subst b1)
   exact yw (v:=.tuple #[.int .i64 0,.int .i64 4]) (by simp[results,Tryz.results115,go_sem]) rfl (zdP.no I2.out (by decide))
end Go.Proofs.YtcbcpomacdngmaaGreat
