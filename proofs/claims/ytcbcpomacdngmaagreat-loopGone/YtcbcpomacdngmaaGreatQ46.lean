/-
  x
-/
import Derived.Test.YtcbcpomacdngmaaGreatQ45
namespace Go.Proofs.YtcbcpomacdngmaaGreat
set_option maxRecDepth 100000
set_option maxHeartbeats 4000000
set_option linter.unusedVariables false
open Go.RowKit Go.ChangeShapes Go.WideShapes
theorem zkg.mk{O:W0}{d me:Nat}{W:Wl}{E:Int}{L M:List Pt}{s:SD}{V D:World}{F:Option Addr}{J:Nat}(I:SW O d me W s D)(Z:Below V.heap.size V D)(U:E=0->M=L)(T:zbP (SX O.heap.size d s) D F M)(hs:SlA F M.length J):zkg O d me W W E L s.g1 V (.returned (.tuple #[.slice F M.length J,.int .i64 E])) D :=
 ⟨F,J,M,s,rfl,zar.of_below Z,fun h=>by have e:=U h;rw[e] at T hs;exact⟨e,I,T,hs⟩,fun _=>I⟩
theorem zzk(me:Nat)(W:Wl)(x:Ac):PBy 123 me W x W (zaU W.pt (many W) x.n me (zaE W me)) (zij W.pt x.n):=fun w0 d s V I=>by
 obtain⟨xk,xa,xb,xc,J⟩:=x;have II:Hid (SW w0 d me W s V):=I;have b0:=I.lt;have b1:Hid _:=b0;obtain⟨l0,l1,l2,l3,l4,lf,ll⟩:=zal I.box;have b9:d<V.heap.size:=ll;have n8:W.fs.length<=8:=I.rt.fs.few;have b3:me<W.fs.length:=I.sf;clear b0;dsimp only;have a6:∀ T,Below V.heap.size V T->∀ b,SX w0.heap.size d s b->b<T.heap.size:=fun T hV b hb=>yz (b1.out b hb) hV.size;have F:=I.big;have D:Hid (∀ T,Below V.heap.size V T->Calls _ _ _ _ _):=fun T hV=>zvb (SX w0.heap.size d s) s.a4 s.c4 W.pt (many W) J me (zaE W me) T (a6 T hV) F.1 F.2 I.dp.pc (I.dp.pt.off (zar.of_below hV));have EP:Hid (zaU W.pt (many W) J me (zaE W me)=0->zih W.pt (many W) J me (zaE W me)=zij W.pt J):=fun h=>yd h;show Calls Tryz.prog _ #[.pointer (some ⟨d,0,none⟩),.int .i64 (me:Int),.int .i64 (zaE W me),.agg #[.int .i64 xk,.int .i64 xa,.int .i64 xb,.int .i64 xc,.int .i64 J]] V _;obtain⟨n,hn⟩:∃ n,W.fs.length=n:=⟨_,rfl⟩;have HN:Hid (W.fs.length=n):=hn;obtain⟨nt,U⟩:∃ n,W.pt.length=n:=⟨_,rfl⟩;have b5:Hid (W.pt.length=nt):=U;rw[U] at l4 D;rw[hn] at l0 l1 l2 l3 n8 b3;rw[show many W=(n:Int) from by rw[<- hn];rfl] at D EP |-;generalize zaE W me=tn at *;generalize zaU W.pt n J me tn=E at *;generalize zih W.pt n J me tn=M at *;generalize zij W.pt J=L at *;clear hn U I a6 F;have b4:(me:Int)<(n:Int):=by omega
 go_enter Tryz.func123,Tryz.ntmps123
 go_upto_region 1 with fail
 obtain⟨V1,a5,O,y0,y1,y2,y3,y4,sV⟩:=zcC V xk xa xb xc J;rw[a5];clear a5;replace l0:=zab l0 O.out;replace l1:=zab l1 O.out;replace l2:=zab l2 O.out;replace l3:=zab l3 O.out;replace l4:=zab l4 O.out
 go_region_held3 (fun Z=>Z.cell? ⟨d,0,none⟩=some (.slice s.a0 n s.c0)/\Z.cell? ⟨d,4,none⟩=some (.slice s.a4 nt s.c4)/\Z.cell? ⟨V.heap.size,4,none⟩=some (.int .i64 J)) (go_keep) (first|(go_at_call 147;refine yi (D.out V1.drew O.out.drew) ?_;rintro e w3 ⟨va,vc,rfl,a7,a9,a8⟩;have B3:Hid (Below V1.heap.size V1 w3):=(yr _ _).drew.trans a7;have b6:=zab l0 B3.out;have b7:=zab l4 B3.out;have b8:=zab y4 B3.out;have b2:Hid _:=a9;have HP:Hid _:=a8;clear a7 a9 a8))
 have BW:Hid (Below V.heap.size V w3):=O.out.trans (B3.out.mono O.out.size)
 go_wp2
 exact yw (v:=.tuple #[.slice va M.length vc,.int .i64 E]) (by simp[results,Tryz.results123,go_sem]) rfl (zkg.mk (II.out.below BW.out) BW.out EP.out HP.out b2.out)
theorem zzc(me:Nat)(W:Wl)(x:Ac)(hm:zax W.fs x.a=0):PBy 120 me W x W (zkz W.pt (many W) x.n me (zaE W me) x.a (zaE W x.a)) (zhW W.pt x.n x.a (zaE W x.a)):=fun w0 d s V I=>by
 obtain⟨xk,xa,xb,xc,O⟩:=x;have II:Hid (SW w0 d me W s V):=I;have b1:=I.lt;have b3:Hid _:=b1;obtain⟨l0,l1,l2,l3,l4,lf,ll⟩:=zal I.box;have d4:d<V.heap.size:=ll;have n8:W.fs.length<=8:=I.rt.fs.few;have b5:me<W.fs.length:=I.sf;clear b1;dsimp only;have a6:∀ U,Below V.heap.size V U->∀ b,SX w0.heap.size d s b->b<U.heap.size:=fun U hV b hb=>yz (b3.out b hb) hV.size;have F:=I.big;obtain⟨qa,a9,b6,_⟩:=zdA hm;dsimp only at a9;subst a9;obtain⟨fb,fo,ea,_,ft,fl⟩:=I.fcell b6;rw[ea] at l0;have TA:=zmm W qa;obtain⟨ta,b2⟩:∃ t,(fr W.fs qa).t=t:=⟨_,rfl⟩;rw[b2] at ft TA;clear b2 ea hm;have D:Hid (∀ U,Below V.heap.size V U->Calls _ _ _ _ _):=fun U hV=>zuC (SX w0.heap.size d s) s.a4 s.c4 W.pt (many W) O me (zaE W me) qa ta U (a6 U hV) F.1 F.2 I.dp.pc (I.dp.pt.off (zar.of_below hV));have EP:Hid (zkz W.pt (many W) O me (zaE W me) qa ta=0->zid W.pt (many W) O me (zaE W me) qa ta=zhW W.pt O qa ta):=fun h=>yd h;rw[TA];show Calls Tryz.prog _ #[.pointer (some ⟨d,0,none⟩),.int .i64 (me:Int),.int .i64 (zaE W me),.agg #[.int .i64 xk,.int .i64 qa,.int .i64 xb,.int .i64 xc,.int .i64 O]] V _;obtain⟨n,hn⟩:∃ n,W.fs.length=n:=⟨_,rfl⟩;have HN:Hid (W.fs.length=n):=hn;obtain⟨nt,Z⟩:∃ n,W.pt.length=n:=⟨_,rfl⟩;have b8:Hid (W.pt.length=nt):=Z;rw[Z] at l4 D;rw[hn] at l0 l1 l2 l3 n8 b5;rw[show many W=(n:Int) from by rw[<- hn];rfl] at D EP |-;have d6:(qa:Int)<(n:Int):=by omega
 generalize zaE W me=tn at *;generalize zkz W.pt n O me tn qa ta=E at *;generalize zid W.pt n O me tn qa ta=M at *;generalize zhW W.pt O qa ta=L at *;clear hn Z I a6 F;have b7:(me:Int)<(n:Int):=by omega
 go_enter Tryz.func120,Tryz.ntmps120
 go_upto_region 1 with fail
 obtain⟨V1,a5,T,y0,y1,y2,y3,y4,sV⟩:=zcC V xk qa xb xc O;rw[a5];clear a5;replace l0:=zab l0 T.out;replace l1:=zab l1 T.out;replace l2:=zab l2 T.out;replace l3:=zab l3 T.out;replace l4:=zab l4 T.out;replace ft:=zab ft T.out;have d5:fb<V1.heap.size:=by omega
 go_region_held3 (fun J=>J.cell? ⟨d,0,none⟩=some (.slice (some ⟨fb,fo,none⟩) n s.c0)/\J.cell? ⟨d,4,none⟩=some (.slice s.a4 nt s.c4)/\J.cell? ⟨V.heap.size,1,none⟩=some (.int .i64 qa)/\J.cell? ⟨V.heap.size,4,none⟩=some (.int .i64 O)/\J.cell? ⟨fb,fo+qa*5+3,none⟩=some (.int .i64 ta)) (go_keep) (first|(go_at_call 144;refine yi (D.out V1.drew T.out.drew) ?_;rintro e w3 ⟨va,vc,rfl,a7,b0,a8⟩;have B3:Hid (Below V1.heap.size V1 w3):=(yr _ _).drew.trans a7;have c6:=zab l0 B3.out;have c7:=zab l4 B3.out;have c8:=zab y1 B3.out;have c9:=zab y4 B3.out;have b9:=zab ft B3.out;have b4:Hid _:=b0;have HP:Hid _:=a8;clear a7 b0 a8))
 have BW:Hid (Below V.heap.size V w3):=T.out.trans (B3.out.mono T.out.size)
 go_wp2
 exact yw (v:=.tuple #[.slice va M.length vc,.int .i64 E]) (by simp[results,Tryz.results120,go_sem]) rfl (zkg.mk (II.out.below BW.out) BW.out EP.out HP.out b4.out)
theorem zxM{a b c:Int}:zaq [a,b,c]=if a=0 then (if b=0 then c else b) else a:=by
 show (if a=0 then (if b=0 then (if c=0 then 0 else c) else b) else a)=_;by_cases h:c=0
 ·rw[yd h,h]
 ·rw[ya h]
theorem zkg.no{M:W0}{d me:Nat}{W:Wl}{E F:Int}{L:List Pt}{s:SD}{V D:World}(I:SW M d me W s D)(T:Below V.heap.size V D)(J:E=F)(O:F≠0):zkg M d me W W E L s.g1 V (.returned (.tuple #[.slice none 0 0,.int .i64 F])) D :=
 ⟨none,0,[],s,by rw[J];rfl,zar.of_below T,fun h=>absurd (J.symm.trans h) O,fun _=>I⟩
theorem zzg(me:Nat)(W:Wl)(x:Ac):PBy 121 me W x W (zaq [if bits .and .i64 (zjr W me) 2=0 then 7 else 0,zby (rlm W me) x.a,zib W.pt (many W) x.n me (zaE W me) (zbj (rlm W me) x.a.toNat)]) (ziH W.pt x.n (zbj (rlm W me) x.a.toNat)):=fun w0 d s V I=>by
 rw[zxM];obtain⟨xk,T,xb,xc,xn⟩:=x;have II:Hid (SW w0 d me W s V):=I;have c6:=I.lt;have d4:Hid _:=c6;obtain⟨l0,l1,l2,l3,l4,lf,ll⟩:=zal I.box;have g0:d<V.heap.size:=ll;have n8:W.fs.length<=8:=I.rt.fs.few;have e4:me<W.fs.length:=I.sf;clear c6;dsimp only;have b5:∀ V2,Below V.heap.size V V2->∀ b,SX w0.heap.size d s b->b<V2.heap.size:=fun V2 hV b hb=>yz (d4.out b hb) hV.size;have a8:=I.big;obtain⟨fb,fo,ea,fm,_,fl⟩:=I.fcell I.sf;rw[ea] at l0;clear ea;have e0:zjr W me=(fr W.fs me).m:=rfl;rw[e0];obtain⟨mm,b7⟩:∃ t,(fr W.fs me).m=t:=⟨_,rfl⟩;rw[b7] at fm |-;clear b7 e0;obtain⟨k0,k1,k2,k3,kf,kl⟩:=I.rcells I.sf;have D:Hid (∀ V2,Below V.heap.size V V2->Calls _ _ _ _ _):=fun V2 hV=>zno (s.R me) (rlm W me) T V2 (I.rt.rs me I.sf) ((I.rat I.sf).below hV)
 have DP:Hid (∀ V2 ga gc G,G=zbj (rlm W me) T.toNat->zby (rlm W me) T=0->Below V.heap.size V V2->zaI V2 ga G->Calls _ _ _ _ _):=fun V2 ga gc G hG hE hV hc=>zuM (SX w0.heap.size d s) s.a4 s.c4 W.pt (many W) xn me (zaE W me) ga gc G V2 (b5 V2 hV) a8.1 a8.2 I.dp.pc (I.dp.pt.off (zar.of_below hV)) (by
  obtain⟨m,rfl,h8,hf⟩:=zgF hE;rw[hG,yj,zcL];omega) (by
  obtain⟨m,rfl,h8,hf⟩:=zgF hE;rw[hG,yj];exact(zcG (zbK.2 (zjq h8 hf))).2) hc
 have EP:Hid (zib W.pt (many W) xn me (zaE W me) (zbj (rlm W me) T.toNat)=0->zif W.pt (many W) xn me (zaE W me) (zbj (rlm W me) T.toNat)=ziH W.pt xn (zbj (rlm W me) T.toNat)):=fun h=>yd h;dsimp only[rlV] at D;show Calls Tryz.prog _ #[.pointer (some ⟨d,0,none⟩),.int .i64 (me:Int),.int .i64 (zaE W me),.agg #[.int .i64 xk,.int .i64 T,.int .i64 xb,.int .i64 xc,.int .i64 xn]] V _;obtain⟨n,hn⟩:∃ n,W.fs.length=n:=⟨_,rfl⟩;have HN:Hid (W.fs.length=n):=hn;obtain⟨nt,b1⟩:∃ n,W.pt.length=n:=⟨_,rfl⟩;have c9:Hid (W.pt.length=nt):=b1;rw[b1] at l4 DP;rw[hn] at l0 l1 l2 l3 n8 e4;rw[show many W=(n:Int) from by rw[<- hn];rfl] at DP EP |-;have MG:Hid (zby (rlm W me) T=0->mkG (rlm W me) T=zbj (rlm W me) T.toNat):=fun h=>yd h;generalize (rlm W me).s.length=r0 at *;generalize (rlm W me).hs.length=r1 at *;generalize (rlm W me).i.length=r2 at *;generalize (rlm W me).t.length=r3 at *;clear hn b1 I b5 a8;have e6:(me:Int)<(n:Int):=by omega
 generalize zaE W me=tn at *;generalize ziH W.pt xn (zbj (rlm W me) T.toNat)=LL at EP |-;obtain⟨bb,e3⟩:∃ b,bits .and .i64 mm 2=b:=⟨_,rfl⟩;rw[e3];obtain⟨E1,a9⟩:∃ E,zby (rlm W me) T=E:=⟨_,rfl⟩;have b2:Hid (zby (rlm W me) T=E1):=a9;rw[a9] at DP MG |-;clear a9;obtain⟨F,hF⟩:∃ F:Int,(if (if bb=0 then (7:Int) else 0)=0 then (if E1=0 then zib W.pt n xn me tn (zbj (rlm W me) T.toNat) else E1) else (if bb=0 then 7 else 0))=F:=⟨_,rfl⟩;have HF:Hid (_=F):=hF;rw[hF];clear hF
 go_enter Tryz.func121,Tryz.ntmps121
 go_upto_region 1 with fail
 obtain⟨J,b4,Z,y0,y1,y2,y3,y4,sV⟩:=zcC V xk T xb xc xn;rw[b4];clear b4;replace l0:=zab l0 Z.out;replace l1:=zab l1 Z.out;replace l2:=zab l2 Z.out;replace l3:=zab l3 Z.out;replace l4:=zab l4 Z.out;replace fm:=zab fm Z.out;replace k0:=zab k0 Z.out;replace k1:=zab k1 Z.out;replace k2:=zab k2 Z.out;replace k3:=zab k3 Z.out;have g4:fb<J.heap.size:=by omega
 have I1:Hid _:=II.out.below Z.out;by_cases b0:bb=0
 ·subst b0;rw[show (if (0:Int)=0 then (7:Int) else 0)=7 from rfl,ya (by decide)] at HF
  go_wp2
  exact yw (v:=.tuple #[.slice none 0 0,.int .i64 7]) (by simp[results,Tryz.results121,go_sem]) rfl (zkg.no I1.out Z.out HF.out.symm (by decide))
 ·have e9:(bb == 0)=false:=by simp[b0]
  rw[show (if bb=0 then (7:Int) else 0)=0 from ya b0,yd rfl] at HF
  go_upto_region 3 with fail
  have n0:¬ J.heap.size=d:=by omega
  have o0:¬ d=J.heap.size:=by omega
  have n1:¬ J.heap.size=s.g1:=by omega
  have o1:¬ s.g1=J.heap.size:=by omega
  have n2:¬ J.heap.size=V.heap.size:=by omega
  have o2:¬ V.heap.size=J.heap.size:=by omega
  have g5:d<J.heap.size:=by omega
  have g6:s.g1<J.heap.size:=by omega
  obtain⟨GG,b3⟩:∃ G,mkG (rlm W me) T=G:=⟨_,rfl⟩;have a7:Hid (mkG (rlm W me) T=GG):=b3;clear b3
  go_cut [10,11] (fun s10 s11 wx=>∃ (b:Nat) (ga:Option Addr) (gc:Nat),s10=.pointer (some ⟨b,0,none⟩)/\s11=.int .i64 E1/\Hid (Below J.heap.size J wx)/\Hid (wx.heap[b]?=some (.cells #[.slice ga GG.length gc] 47 (0,0)))/\J.heap.size<=b/\Hid (zaI wx ga GG))
  case first =>
   go_region_held3 (fun O=>O.cell? ⟨d,1,none⟩=some (.slice (some ⟨s.g1,0,none⟩) n n)/\O.cell? ⟨s.g1,me*4,none⟩=some (.slice (s.R me).a0 r0 (s.R me).c0)/\O.cell? ⟨s.g1,me*4+1,none⟩=some (.slice (s.R me).a1 r1 (s.R me).c1)/\O.cell? ⟨s.g1,me*4+2,none⟩=some (.slice (s.R me).a2 r2 (s.R me).c2)/\O.cell? ⟨s.g1,me*4+3,none⟩=some (.slice (s.R me).a3 r3 (s.R me).c3)/\O.cell? ⟨V.heap.size,1,none⟩=some (.int .i64 T)) (go_keep) (first|(go_at_call 139;refine yi (D.out J.drew Z.out.drew) ?_;rintro e w3 ⟨ga,gc,rfl,a6,a5⟩;rw[a7.out,b2.out];rw[a7.out] at a5;have U:Hid (Below J.heap.size J w3):=(yr _ _).drew.trans a6;have C3:Hid (St (fun b=>b<J.heap.size) (fun V=>zaI V ga GG) w3):=a5;have e1:=zab l1 U.out;have d6:=zab k0 U.out;have d7:=zab k1 U.out;have d8:=zab k2 U.out;have d9:=zab k3 U.out;have e2:=zab y1 U.out;clear a6 a5)|(go_at_call 139;refine yi (D.out (J.alloc (.cells #[.slice none 0 0] 47)).drew (Z.out.trans ((zaa J _).mono Z.out.size)).drew) ?_;rintro e w3 ⟨ga,gc,rfl,a6,a5⟩;rw[a7.out,b2.out];rw[a7.out] at a5;have U:Hid (Below J.heap.size J w3):=(zaa J _).drew.trans (a6.mono (by simp));have C3:Hid (St (fun b=>b<J.heap.size+1) (fun V=>zaI V ga GG) w3):=(by have h:=a5;simp only[ys,World.size_drew] at h;exact h);have e1:=zab l1 U.out;have d6:=zab k0 U.out;have d7:=zab k1 U.out;have d8:=zab k2 U.out;have d9:=zab k3 U.out;have e2:=zab y1 U.out;have X3:Hid (w3.heap[J.heap.size]?=some (.cells #[.slice none 0 0] 47 (0,0))):=zat (W:=(J.alloc (.cells #[.slice none 0 0] 47)).drew) (yL J _) a6;have x0:=zaJ X3.out;have xf:=zaW (o:=0) X3.out;have xl:J.heap.size<w3.heap.size:=zay X3.out;clear a6 a5))
   ·go_wp2_with fail
    go_meet
    case rel=>exact⟨_,ga,gc,rfl,rfl,U.out.trans ((zaa _ _).mono U.out.size),yL _ _,U.out.size,C3.out.at.below (zaa _ _)⟩
   ·go_wp2_with fail
    go_meet
    case rel=>exact⟨_,ga,gc,rfl,rfl,U.out.setCell (yk _) _,ziX X3.out,yk _,C3.out _ (zar.set _ _ (Nat.lt_succ_self _))⟩
  case rest =>
   obtain⟨b,ga,gc,rfl,rfl,HB,HX,e8,HC⟩:=hcut;have BW:Hid (Below V.heap.size V wc):=Z.out.trans (HB.out.mono Z.out.size);have I2:Hid _:=II.out.below BW.out;clear l0 l1 l2 l3 l4 k0 k1 k2 k3 D fm;by_cases hE:E1=0
   ·subst hE;rw[yd rfl] at HF;have eG:GG=zbj (rlm W me) T.toNat:=a7.out.symm.trans (MG.out rfl);have e7:Hid _:=eG;have DQ:Hid (∀ V2,Below wc.heap.size wc V2->Calls _ _ _ _ _):=fun V2 hV=>DP.out V2 ga gc GG eG rfl (BW.out.trans (hV.mono BW.out.size)) (HC.out.below hV);rw[<- eG] at HF EP;obtain⟨c7,g7,g8,g9,c8,h2,h3⟩:=zal I2.out.box;rw[HN.out] at c7;rw[c9.out] at c8;have x0:=zaJ HX.out;have e5:=zab y4 HB.out;have bl:b<wc.heap.size:=zay HX.out;obtain⟨M,hM⟩:∃ M,zif W.pt n xn me tn GG=M:=⟨_,rfl⟩;have HM:Hid _:=hM;rw[hM] at DQ EP;clear hM eG DP;generalize zib W.pt n xn me tn GG=E2 at *;obtain rfl:=HF.out;generalize GG.length=gl at *
    go_wp2_with fail
    go_region_held3 (fun O=>O.cell? ⟨d,0,none⟩=some (.slice s.a0 n s.c0)/\O.cell? ⟨d,4,none⟩=some (.slice s.a4 nt s.c4)/\O.cell? ⟨V.heap.size,4,none⟩=some (.int .i64 xn)/\O.cell? ⟨b,0,none⟩=some (.slice ga gl gc)) (go_keep) (first|(go_at_call 145;refine yi (DQ.out wc.drew (yr _ _).drew) ?_;rintro e w5 ⟨va,vc,rfl,b6,b9,b8⟩;have B5:Hid (Below wc.heap.size wc w5):=(yr _ _).drew.trans b6;have j0:=zab c7 B5.out;have j4:=zab c8 B5.out;have jy:=zab e5 B5.out;have jx:=zab x0 B5.out;have d5:Hid _:=b9;have HP:Hid _:=b8;clear b6 b9 b8))
    have BY:Hid (Below V.heap.size V w5):=BW.out.trans (B5.out.mono BW.out.size)
    go_wp2
    exact yw (v:=.tuple #[.slice va M.length vc,.int .i64 E2]) (by simp[results,Tryz.results121,go_sem]) rfl (zkg.mk (II.out.below BY.out) BY.out EP.out HP.out d5.out)
   ·rw[ya hE] at HF;have hz:(E1 == 0)=false:=by simp[hE]
    go_wp2
    exact yw (v:=.tuple #[.slice none 0 0,.int .i64 E1]) (by simp[results,Tryz.results121,go_sem]) rfl (zkg.no I2.out BW.out HF.out.symm hE)
theorem zzf(me:Nat)(W:Wl)(x:Ac):PBy 122 me W x (setR W me { rlm W me with i:=gr (pt W.pt x.n.toNat).cm 0 }) (zfI W.pt (many W) x.n me (zaE W me)) (zia W.pt x.n):=fun w0 d s V I=>by
 obtain⟨xk,xa,xb,xc,J⟩:=x;have II:Hid (SW w0 d me W s V):=I;have b3:=I.lt;have b5:Hid _:=b3;obtain⟨l0,l1,l2,l3,l4,lf,ll⟩:=zal I.box;have d5:d<V.heap.size:=ll;have n8:W.fs.length<=8:=I.rt.fs.few;have c6:me<W.fs.length:=I.sf;clear b3;dsimp only;have b2:∀ V2,Below V.heap.size V V2->∀ b,SX w0.heap.size d s b->b<V2.heap.size:=fun V2 hV b hb=>yz (b5.out b hb) hV.size;have a5:=I.big;have D:Hid (∀ V2 z,Below V.heap.size V V2->V.heap.size<=z->z<V2.heap.size->Calls _ _ _ _ _):=fun V2 z hV hz d7=>zuL (fun b=>SX w0.heap.size d s b\/b=z) s.a4 s.c4 W.pt (many W) J me (zaE W me) V2 (fun b hb=>hb.elim (b2 V2 hV b) (fun e=>by omega)) a5.1 a5.2 I.dp.pc (I.dp.pt.grow (zar.of_below hV) (fun b hb hy=>hy.elim id (fun e=>by omega)));have EP:Hid (zfI W.pt (many W) J me (zaE W me)=0->zie W.pt (many W) J me (zaE W me)=zia W.pt J/\zuK W.pt (many W) J me (zaE W me)=gr (pt W.pt J.toNat).cm 0):=fun h=>⟨yd h,yd h⟩
 have HQ:Hid (zfI W.pt (many W) J me (zaE W me)=0->zaG { rlm W me with i:=gr (pt W.pt J.toNat).cm 0 }=0):=fun h=>by
  have h1:=(zgH I.rt I.sf h).rs me I.sf;have h2:rlm (setR W me { rlm W me with i:=gr (pt W.pt J.toNat).cm 0 }) me={ rlm W me with i:=gr (pt W.pt J.toNat).cm 0 }:=by rw[zcQ (by rw[I.rt.lr];exact I.sf),yd rfl]
  rw[<- h2];exact h1
 obtain⟨k0,k1,k2,k3,kf,kl⟩:=I.rcells I.sf;clear k0 k1 k3 kf;show Calls Tryz.prog _ #[.pointer (some ⟨d,0,none⟩),.int .i64 (me:Int),.int .i64 (zaE W me),.agg #[.int .i64 xk,.int .i64 xa,.int .i64 xb,.int .i64 xc,.int .i64 J]] V _;obtain⟨n,hn⟩:∃ n,W.fs.length=n:=⟨_,rfl⟩;have HN:Hid (W.fs.length=n):=hn;obtain⟨nt,a9⟩:∃ n,W.pt.length=n:=⟨_,rfl⟩;have c9:Hid (W.pt.length=nt):=a9;rw[a9] at l4 D;rw[hn] at l0 l1 l2 l3 n8 c6;rw[show many W=(n:Int) from by rw[<- hn];rfl] at D EP HQ |-;clear hn a9 I b2 a5;have c8:(me:Int)<(n:Int):=by omega
 generalize zaE W me=tn at *;generalize zfI W.pt n J me tn=E at *;generalize zie W.pt n J me tn=M at *;generalize zuK W.pt n J me tn=G at *;generalize zia W.pt J=L at *;generalize gr (pt W.pt J.toNat).cm 0=G0 at *
 go_enter Tryz.func122,Tryz.ntmps122
 go_upto_region 1 with fail
 obtain⟨F,b1,T,y0,y1,y2,y3,y4,sV⟩:=zcC V xk xa xb xc J;rw[b1];clear b1;replace l0:=zab l0 T.out;replace l1:=zab l1 T.out;replace l2:=zab l2 T.out;replace l3:=zab l3 T.out;replace l4:=zab l4 T.out;replace k2:=zab k2 T.out;have n0:¬ F.heap.size=d:=by omega
 have o0:¬ d=F.heap.size:=by omega
 have n2:¬ F.heap.size=V.heap.size:=by omega
 have o2:¬ V.heap.size=F.heap.size:=by omega
 have d6:d<F.heap.size:=by omega
 go_cut [10,11,12] (fun s10 s11 s12 wx=>∃ (b:Nat) (U:Option Addr) (vc:Nat) (ga:Option Addr) (gc:Nat),s10=.slice U M.length vc/\s11=.pointer (some ⟨b,0,none⟩)/\s12=.int .i64 E/\Hid (Below F.heap.size F wx)/\Hid (wx.heap[b]?=some (.cells #[.slice ga G.length gc] 47 (0,0)))/\F.heap.size<=b/\Hid (zbP (SX w0.heap.size d s) wx U M)/\Hid (SlA U M.length vc)/\Hid (St (SX w0.heap.size d s) (fun V=>zaI V ga G) wx))
 case first =>
  go_region_held3 (fun b0=>b0.cell? ⟨d,0,none⟩=some (.slice s.a0 n s.c0)/\b0.cell? ⟨d,4,none⟩=some (.slice s.a4 nt s.c4)/\b0.cell? ⟨V.heap.size,4,none⟩=some (.int .i64 J)) (go_keep) (first|(go_at_call 146;refine yi (D.out F.drew V.heap.size T.out.drew (yk _) sV) ?_;rintro e w3 ⟨U,vc,ga,gc,rfl,O,a8,a7,a6⟩;have Z:Hid (Below F.heap.size F w3):=(yr _ _).drew.trans O;have S3:Hid _:=a8;have P3:Hid (zbP (fun b=>SX w0.heap.size d s b\/b=V.heap.size) w3 U M):=a7;have C3:Hid (St (fun b=>SX w0.heap.size d s b\/b=V.heap.size) (fun V=>zaI V ga G) w3):=a6;have b7:=zab l0 Z.out;have b8:=zab l4 Z.out;have b9:=zab y4 Z.out;clear O a8 a7 a6)|(go_at_call 146;refine yi (D.out (F.alloc (.cells #[.slice none 0 0] 47)).drew F.heap.size (T.out.trans ((zaa F _).mono T.out.size)).drew T.out.size (by show F.heap.size<(F.alloc _).heap.size;simp)) ?_;rintro e w3 ⟨U,vc,ga,gc,rfl,O,a8,a7,a6⟩;have Z:Hid (Below F.heap.size F w3):=(zaa F _).drew.trans (O.mono (by simp));have S3:Hid _:=a8;have P3:Hid (zbP (fun b=>SX w0.heap.size d s b\/b=F.heap.size) w3 U M):=a7;have C3:Hid (St (fun b=>SX w0.heap.size d s b\/b=F.heap.size) (fun V=>zaI V ga G) w3):=a6;have b7:=zab l0 Z.out;have b8:=zab l4 Z.out;have b9:=zab y4 Z.out;have X3:Hid (w3.heap[F.heap.size]?=some (.cells #[.slice none 0 0] 47 (0,0))):=zat (W:=(F.alloc (.cells #[.slice none 0 0] 47)).drew) (yL F _) O;have x0:=zaJ X3.out;have xf:=zaW (o:=0) X3.out;have xl:F.heap.size<w3.heap.size:=zay X3.out;clear O a8 a7 a6))
  ·go_wp2_with fail
   go_meet
   case rel=>exact⟨_,U,vc,ga,gc,rfl,rfl,rfl,Z.out.trans ((zaa _ _).mono Z.out.size),yL _ _,Z.out.size,fun w' ho=>(P3.out.off (zar.of_below (zaa _ _))) w' (ho.mono (fun b h=>Or.inl h)),S3.out,(C3.out.off (zar.of_below (zaa _ _))).less (fun b h=>Or.inl h)⟩
  ·go_wp2_with fail
   go_meet
   case rel=>exact⟨_,U,vc,ga,gc,rfl,rfl,rfl,Z.out.setCell (yk _) _,ziX X3.out,yk _,fun w' ho=>(P3.out.off (zar.set _ _ (Or.inr rfl))) w' (ho.mono (fun b h=>Or.inl h)),S3.out,(C3.out.off (zar.set _ _ (Or.inr rfl))).less (fun b h=>Or.inl h)⟩
 case rest =>
  obtain⟨b,U,vc,ga,gc,rfl,rfl,rfl,HB,HX,d4,HP,b6,HC⟩:=hcut;have BW:Hid (Below V.heap.size V wc):=T.out.trans (HB.out.mono T.out.size);have I2:Hid _:=II.out.below BW.out;clear l0 l1 l2 l3 l4 k2 D;by_cases hE:E=0
  ·subst hE;obtain⟨rfl,rfl⟩:=EP.out rfl;have hs:=I2.out.setIn (c:=gc) (HQ.out rfl) HC.out;have HS:Hid _:=hs;have b4:Hid _:=HP.out.off (zar.set wc (o:=me*4+2) (.slice ga G.length gc) (show SX w0.heap.size d s s.g1 from .inr (.inr (.inl rfl))));have OX:Hid (zar (fun b=>b=s.g1) V (wc.setCell ⟨s.g1,me*4+2,none⟩ (.slice ga G.length gc))):=(zar.of_below BW.out).trans (zar.set (X:=fun b=>b=s.g1) _ _ rfl);obtain⟨e4,c7,e5,e6,e7,e8,e9⟩:=zal I2.out.box;rw[HN.out] at c7;obtain⟨d8,d9,e0,e1,e2,e3⟩:=I2.out.rcells I2.out.sf;have x0:=zaJ HX.out;have bl:b<wc.heap.size:=zay HX.out;have ng:¬ s.g1=b:=by omega
   have g0:¬ b=s.g1:=by omega
   clear hs
   go_wp2_with fail
   go_region
   go_wp2
   exact yw (v:=.tuple #[.slice U M.length vc,.int .i64 0]) (by simp[results,Tryz.results122,go_sem]) rfl ⟨U,vc,M,_,rfl,OX.out.trans (zar.of_below (yr _ _).drew),fun _=>⟨rfl,HS.out.below (yr _ _).drew,zbP.off (X:=SX w0.heap.size d s) b4.out (zar.of_below (yr _ _).drew),b6.out⟩,fun h=>absurd rfl h⟩
  ·have hz:(E == 0)=false:=by simp[hE]
   go_wp2
   exact yw (v:=.tuple #[.slice none 0 0,.int .i64 E]) (by simp[results,Tryz.results122,go_sem]) rfl ⟨none,0,[],s,rfl,zar.of_below BW.out,fun h=>absurd h hE,fun _=>I2.out⟩
theorem zmP{l:List Int}:zaq (0 :: l)=zaq l:=yd rfl
theorem zpJ{a:Int}{l:List Int}(h:a≠0):zaq (a :: l)=a:=ya h
theorem zlA(A:WA)(W:Wl)(k:Int)(st:Bool)(w:World)(H:zan W)(hW:zdF w A W):Calls Tryz.prog 38 #[wlV A W,.agg #[.int .i64 k,.bool st]] w fun e w' => e=.returned (.int .i64 (zaq [zax W.fs k,if bits .and .i64 (zjr W k.toNat) 1=0 then 7 else 0,if 4760<(rlm W k.toNat).t.length then 1 else 0,if st=false/\(que W k.toNat).length=0 then 8 else 0]))/\Below w.heap.size w w' := by
 obtain⟨a0,a1,a2,a3,a4,c0,c1,c2,c3,c4⟩:=A;have n8:W.fs.length<=8:=H.fs.few;have lr:=H.lr;have lq:=H.lq;have lp:=H.lp;have D:Hid (∀ V2,Below w.heap.size w V2->Calls _ _ _ _ _):=fun V2 hV=>zcF a0 c0 W.fs k V2 (by omega) (hW.fs.below hV)
 have HF:Hid (∀ i:Nat,i<W.fs.length->∃ b o,a0=some ⟨b,o,none⟩/\w.cell? ⟨b,o+i*5+2,none⟩=some (.int .i64 (zjr W i))/\b<w.heap.size):=fun i hi=>by
  obtain⟨b,o,e,h0,h1,U,_⟩:=hW.fs i hi;exact⟨b,o,e,U,ye _ _ U⟩
 have HR:Hid (∀ i:Nat,i<W.fs.length->∃ b o ta tc,a1=some ⟨b,o,none⟩/\w.cell? ⟨b,o+i*4+3,none⟩=some (.slice ta (rlm W i).t.length tc)/\b<w.heap.size):=fun i hi=>by
  obtain⟨b,o,A,e,h0,h1,U,Z,_⟩:=hW.rs i (by rw[lr];exact hi);exact⟨b,o,A.a3,A.c3,e,Z,ye _ _ Z⟩
 have HQ:Hid (∀ i:Nat,i<W.fs.length->∃ b o qa qc,a3=some ⟨b,o,none⟩/\w.cell? ⟨b,o+i,none⟩=some (.slice qa (que W i).length qc)/\b<w.heap.size):=fun i hi=>by
  obtain⟨b,o,qa,qc,e,h0,_⟩:=hW.qs i (by rw[lq];exact hi);exact⟨b,o,qa,qc,e,h0,ye _ _ h0⟩
 have HK:Hid (zax W.fs k=0->0<=k/\k<W.fs.length):=fun h=>by
  unfold zax at h;by_cases hk:0<=k/\k<W.fs.length
  ·exact hk
  ·rw[yd hk] at h;exact absurd h (by decide)
 clear hW H;show Calls Tryz.prog _ #[.agg #[.slice a0 W.fs.length c0,.slice a1 W.rs.length c1,.slice a2 W.ps.length c2,.slice a3 W.qs.length c3,.slice a4 W.pt.length c4],.agg #[.int .i64 k,.bool st]] w _;rw[lr,lq,lp];clear lr lq lp;generalize W.fs.length=n at *;generalize W.pt.length=nt at *;generalize zax W.fs k=E at *;obtain⟨q,I⟩:∃ q,zaq [E,if bits .and .i64 (zjr W k.toNat) 1=0 then 7 else 0,if 4760<(rlm W k.toNat).t.length then 1 else 0,if st=false/\(que W k.toNat).length=0 then 8 else 0]=q:=⟨_,rfl⟩;have HE:Hid _:=I;rw[I];clear I
 go_enter Tryz.func38,Tryz.ntmps38
 go_upto_region 1 with fail
 obtain⟨O,J⟩:∃ O,(w.alloc (.cells #[.slice a0 n c0,.slice a1 n c1,.slice a2 n c2,.slice a3 n c3,.slice a4 nt c4] 28)).alloc (.cells #[.int .i64 k,.bool st] 40)=O:=⟨_,rfl⟩;have M:Hid (Below w.heap.size w O):=by rw[<- J];exact(zaa _ _).trans ((zaa _ _).mono (by simp))
 have l0:O.cell? ⟨w.heap.size,0,none⟩=some (.slice a0 n c0):=by rw[<- J];exact zaB _ _ _ 0 _ rfl
 have l1:O.cell? ⟨w.heap.size,1,none⟩=some (.slice a1 n c1):=by rw[<- J];exact zaB _ _ _ 1 _ rfl
 have l3:O.cell? ⟨w.heap.size,3,none⟩=some (.slice a3 n c3):=by rw[<- J];exact zaB _ _ _ 3 _ rfl
 have y0:O.cell? ⟨w.heap.size+1,0,none⟩=some (.int .i64 k):=by rw[<- J];exact zaC _ _ _ 0 _ rfl
 have y1:O.cell? ⟨w.heap.size+1,1,none⟩=some (.bool st):=by rw[<- J];exact zaC _ _ _ 1 _ rfl
 have T:Hid (Calls _ _ _ _ _):=D.out O M.out;clear D;rw[J];clear J;by_cases h0:E=0
 ·subst h0;obtain⟨a6,b0⟩:=HK.out rfl;obtain⟨i,rfl⟩:∃ i:Nat,k=i:=⟨k.toNat,(Int.toNat_of_nonneg a6).symm⟩;have hi:i<n:=by omega
  obtain⟨fb,fo,rfl,f2,fl⟩:=HF.out i hi;obtain⟨rb,ro,ta,tc,rfl,r3,rl⟩:=HR.out i hi;obtain⟨qb,qo,qa,qc,rfl,q0,ql⟩:=HQ.out i hi;replace f2:=zab f2 M.out;replace r3:=zab r3 M.out;replace q0:=zab q0 M.out;have I:=HE.out;rw[zmP,yj] at I;clear HF HR HQ HK HE;generalize zjr W i=mm at *;generalize (rlm W i).t.length=tl at *;generalize (que W i).length=qn at *;by_cases h1:bits .and .i64 mm 1=0
  ·rw[yd h1,zpJ (by decide)] at I;subst I
   go_wp2_with (go_at_call 70;refine yi T.out ?_;rintro e w3 ⟨rfl,F⟩;subst F)
   go_ret;exact⟨rfl,M.out⟩
  ·rw[ya h1,zmP] at I;have a8:(bits .and .i64 mm 1 == 0)=false:=by simp[h1]
   by_cases U:4760<tl
   ·rw[yd U,zpJ (by decide)] at I;subst I;have a5:(4760:Int)<(tl:Int):=by omega
    go_wp2_with (go_at_call 70;refine yi T.out ?_;rintro e w3 ⟨rfl,F⟩;subst F)
    go_ret;exact⟨rfl,M.out⟩
   ·rw[ya U,zmP] at I;have a5:¬ (4760:Int)<(tl:Int):=by omega
    cases st
    ·by_cases Z:qn=0
     ·subst Z;rw[yd ⟨rfl,rfl⟩,zpJ (by decide)] at I;subst I
      go_wp2_with (go_at_call 70;refine yi T.out ?_;rintro e w3 ⟨rfl,F⟩;subst F)
      go_ret;exact⟨rfl,M.out⟩
     ·rw[ya (fun h=>Z h.2),zmP] at I;change (0:Int)=q at I;subst I;have a9:((qn:Int) == 0)=false:=by simp[Z]
      go_wp2_with (go_at_call 70;refine yi T.out ?_;rintro e w3 ⟨rfl,F⟩;subst F)
      go_ret;exact⟨rfl,M.out⟩
    ·rw[ya (fun h=>absurd h.1 (by decide)),zmP] at I;change (0:Int)=q at I;subst I
     go_wp2_with (go_at_call 70;refine yi T.out ?_;rintro e w3 ⟨rfl,F⟩;subst F)
     go_ret;exact⟨rfl,M.out⟩
 ·have I:=HE.out;rw[zpJ h0] at I;subst I;clear HF HR HQ HK;have a7:(E == 0)=false:=by simp[h0]
  go_wp2_with (go_at_call 70;refine yi T.out ?_;rintro e w3 ⟨rfl,F⟩;subst F)
  go_ret;exact⟨rfl,M.out⟩
theorem zgI(m:Ml)(r:List Ml)(G:Nat->Option Addr × Nat):zcZ (m :: r) G=[Value.int .i64 m.f,.slice (G 0).1 m.g.length (G 0).2] ++ zcZ r (fun j=>G (j+1)):=by
 unfold zcZ;rw[List.length_cons,List.range_succ_eq_map,List.flatMap_cons,List.flatMap_map];rfl
theorem zqT{W:Wl}(H:zan W){k:Nat}(D:k<W.fs.length):zan { W with qs:=W.qs.set k ((que W k).drop 1) }:=by
 obtain⟨I,F⟩:=zbr.1 (H.qs k D);exact zan.queue (q:=(que W k).drop 1) H D (zbr.2 ⟨by rw[List.length_drop];omega,fun m E=>F m (List.mem_of_mem_drop E)⟩)
theorem SW.no_row3{M:W0}{d me:Nat}{W:Wl}{s:SD}{V:World}(I:SW M d me W s V){b o:Nat}{v:Value}(h:V.cell? ⟨b,o,none⟩=some v)(J:∀ a n c,v≠.slice a n c):¬ s.g3=b:=fun e=>by
 subst e;obtain⟨c,hc,hl,F⟩:=I.r3;simp only[World.cell?,hc] at h
 have D:o<W.fs.length:=by
  rcases Nat.lt_or_ge o W.fs.length with E|E
  ·exact E
  ·rw[Array.getElem?_eq_none (by omega)] at h;cases h
 rw[F o D] at h;cases h;exact J _ _ _ rfl
theorem SW.take{J:W0}{d me:Nat}{W:Wl}{s:SD}{V:World}(I:SW J d me W s V)(hq:s.q me=none)(hl:(que W me).length≠0) :
  ∃ b o,s.Q me=(some ⟨b,o,none⟩,(que W me).length)/\¬ s.g3=b/\V.cell? ⟨b,o+1,none⟩=some (.slice (s.G me 0).1 ((que W me).getD 0 ⟨0,[]⟩).g.length (s.G me 0).2)/\St (SX J.heap.size d s) (fun V=>zaI V (s.G me 0).1 ((que W me).getD 0 ⟨0,[]⟩).g) V /\
   ∀ E M,SW J d me W s E->(M=some ⟨b,o+2,none⟩\/((que W me).length=1/\∀ D,M=some D->∃ b o,D=⟨b,o,none⟩)) ->
    ∃ U,SW J d me { W with qs:=W.qs.set me ((que W me).drop 1) } U (E.setCell ⟨s.g3,me,none⟩ (.slice M ((que W me).length-1) ((que W me).length-1)))/\U.g1=s.g1/\U.R=s.R/\∀ b,SX J.heap.size d U b->SX J.heap.size d s b:=by
 have HR:=zqT I.rt I.sf;have hg:=fun E (h:SW J d me W s E)=>h.dp.qg me I.sf;have hA:=fun E (h:SW J d me W s E)=>(h.dp.qs me I.sf).2
 have key:∀ E,SW J d me W s E->(s.Q me).2=(que W me).length/\(((s.Q me).1=none->(que W me).length=0)/\∀ D,(s.Q me).1=some D->∃ b o,D=⟨b,o,none⟩)/\St (SX J.heap.size d s) (fun V=>∀ D,(s.Q me).1=some D->∀ j u,(zcZ (que W me) (s.G me))[j]?=some u->V.cell? (D.add j)=some u) E:=fun E h=>by
  rcases hA E h with ⟨_,O,h3,h4⟩ |⟨b,h1,_⟩
  ·exact⟨O,h3,h4⟩
  ·rw[hq] at h1;cases h1
 obtain⟨k1,k2,k3⟩:=key V I
 obtain⟨D,F⟩:∃ D,(s.Q me).1=some D:=by
  cases h:(s.Q me).1 with
  | none=>exact absurd (k2.1 h) hl
  | some D=>exact⟨D,rfl⟩
 obtain⟨b,o,rfl⟩:=k2.2 D F
 obtain⟨m,r,Z⟩:∃ m r,que W me=m :: r:=by
  cases h:que W me with
  | nil=>rw[h] at hl;exact absurd rfl hl
  | cons m r=>exact⟨m,r,rfl⟩
 rw[Z] at hg key k1 k3 HR |-;refine⟨b,o,Prod.ext F k1,I.no_row3 (k3.at _ F 0 (.int .i64 m.f) (by rw[zgI];rfl)) (fun _ _ _ h=>by cases h),?_,hg V I 0 (by simp),fun E M O T=>?_⟩
 ·have:=k3.at _ F 1 (.slice (s.G me 0).1 m.g.length (s.G me 0).2) (by rw[zgI];rfl);exact this
 ·have hs:=O.queue (k:=me) (c:=r.length) (a:=M) (q:=r) (G:=fun j=>s.G me (j+1)) I.sf ?_ ?_ rfl (fun j hj=>hg E O (j+1) (by simp;omega)) HR
  ·refine⟨_,hs,rfl,rfl,fun b hb=>?_⟩;rcases hb with h|h|h|h|h|h |⟨i,h⟩
   ·exact .inl h
   ·exact .inr (.inl h)
   ·exact .inr (.inr (.inl h))
   ·exact .inr (.inr (.inr (.inl h)))
   ·exact .inr (.inr (.inr (.inr (.inl h))))
   ·exact .inr (.inr (.inr (.inr (.inr (.inl h)))))
   ·refine .inr (.inr (.inr (.inr (.inr (.inr ⟨i,?_⟩)))));dsimp only at h
    split at h
    ·cases h
    ·exact h
  ·intro V3 ho D hd j u hu;rcases T with rfl |⟨hr,_⟩
   ·cases hd;have:=(key E O).2.2 V3 ho _ F (j+2) u (by rw[zgI,List.getElem?_append_right (by simp)];exact hu)
    have e:(⟨b,o,none⟩:Addr).add (j+2)=(⟨b,o+2,none⟩:Addr).add j:=by
     have e1:o+(j+2)=o+2+j:=by omega
     first|(show (⟨b,o+(j+2),none⟩:Addr)=⟨b,o+2+j,none⟩;rw[e1])|(unfold Addr.add;simp[e1])
    rw[<- e];exact this
   ·have:r=[]:=by
     cases r with
     | nil=>rfl
     | cons _ _=>simp at hr
    subst this;simp[zcZ] at hu
  ·rcases T with rfl |⟨hr,hs⟩
   ·exact⟨(fun h=>by cases h),fun D h=>by cases h;exact⟨_,_,rfl⟩⟩
   ·exact⟨fun _=>by simpa using hr,hs⟩
theorem zyZ{S D:List Nd}(hl:S.length=D.length)(h:∀ i,i<S.length->nd S i=nd D i):S=D :=
 List.ext_getElem hl fun i hi E=>by
  have:=h i hi
  rwa [zbi hi,zbi E] at this
theorem zul(x y:Nd):x=y↔(x.u=y.u/\x.n=y.n/\x.t=y.t/\x.m=y.m/\x.p=y.p/\x.ks=y.ks/\x.h=y.h/\x.c=y.c):=by
 constructor
 ·rintro rfl;exact⟨rfl,rfl,rfl,rfl,rfl,rfl,rfl,rfl⟩
 ·obtain⟨a1,a2,a3,a4,D,E,F,I⟩:=x;obtain⟨J,M,O,T,U,Z,b7,b8⟩:=y;rintro⟨rfl,rfl,rfl,rfl,rfl,rfl,rfl,rfl⟩;rfl
theorem zpk(x y:Nd)(ka D:Option Addr)(kc F:Nat)(w:World)(E:x.ks.length<=9223372036854775807)(h1:zak w ka x.ks)(I:zak w D y.ks) :
  Calls Tryz.prog 87 #[.agg #[.bool x.u,.int .i64 x.n,.int .i64 x.t,.int .i64 x.m,.int .i64 x.p,.slice ka x.ks.length kc,.int .i64 x.h,.bool x.c],.agg #[.bool y.u,.int .i64 y.n,.int .i64 y.t,.int .i64 y.m,.int .i64 y.p,.slice D y.ks.length F,.int .i64 y.h,.bool y.c]] w fun e w' => ∃ r:Bool,e=.returned (.bool r)/\Below w.heap.size w w' /\(r=true↔x=y):=by
 refine(ziA x.u y.u x.n y.n x.t y.t x.m y.m x.p y.p x.ks y.ks ka D kc F x.h y.h x.c y.c w E h1 I).mono ?_;rintro e w' ⟨rfl,J⟩;exact⟨_,rfl,J,by rw[decide_eq_true_iff,zul]⟩
theorem zkp(a a' : Option Addr)(c c' : Nat)(S D:List Nd)(w:World)(hN:S.length<=9223372036854775807)(hB:Big S)(h1:zai w a S)(h2:zai w a' D) :
  Calls Tryz.prog 86 #[.slice a S.length c,.slice a' D.length c', .func (.func 87) #[] #[]] w fun e w' => ∃ r:Bool,e=.returned (.bool r)/\Below w.heap.size w w' /\(r=true↔S=D):=by
 have eg:=yK Tryz.func87 (by kernel_rfl) rfl;by_cases hl:S.length=D.length
 ·have E1:Hid ((∀ i,i<S.length->nd S i=nd D i)->S=D):=fun h=>zyZ hl h;have E2:Hid (∀ i,nd S i≠nd D i->S≠D):=fun i h e=>h (by rw[e]);have H1:Hid (zai w a S):=h1;have H2:Hid (zai w a' D):=h2;have HB:Hid (Big S):=hB;have HL:Hid (D.length=S.length):=hl.symm;rw[<- hl];clear h1 h2 hB hl;generalize hn:S.length=n at *;have HN:Hid _:=hn;clear hn
  go_enter Tryz.func86,Tryz.ntmps86
  go_wp2
  go_loopg [17] n (fun g s17 wr=>∃ k:Nat,k<=n/\n-k<=g/\s17=.int .i64 k/\Below w.heap.size w wr/\Hid (∀ i,i<k->nd S i=nd D i))
  case atStart=>exact⟨0,by omega,by omega,rfl,yr _ _,fun i hi=>by omega⟩
  case round =>
   obtain⟨k,hk,hg,rfl,E,A⟩:=hrel;by_cases F:k<n
   ·have a8:(k:Int)<(n:Int):=by omega
    obtain⟨b,o,rfl,c0,c1,c2,c3,c4,⟨ka,kc,c5,J⟩,c6,c7⟩:=(H1.out.below E) k (by rw[HN.out];exact F);obtain⟨b', o', rfl,e0,e1,e2,e3,e4,⟨a5,a6,e5,M⟩,e6,e7⟩:=(H2.out.below E) k (by rw[HL.out];exact F);have a9:=ye _ _ c0;have a7:=ye _ _ e0;have d1:=fun o1 o2=>zpk (nd S k) (nd D k) ka a5 kc a6 ((wr.alloc o1).alloc o2) (HB.out k (by rw[HN.out];exact F)) (J.below (zbv _ _ _)) (M.below (zbv _ _ _));have EK:=E2.out k;have T:Hid _:=EK
    have KK:Hid (nd S k=nd D k->∀ i,i<k+1->nd S i=nd D i):=fun h i hi=>by
     by_cases e:i=k
     ·subst e;exact h
     ·exact A.out i (by omega)
    clear EK J M;have D1:Hid _:=d1;clear d1;generalize nd S k=x at *;generalize nd D k=y at *
    go_wp2_with fail
    refine(D1.out _ _).mono ?_;rintro e w3 ⟨r,rfl,I,O⟩
    cases r with
    | true =>
     have Z:Hid _:=O.1 rfl;clear O
     go_wp2
     go_roundg (n-(k+1))
     case measure=>omega
     case rel=>exact⟨k+1,by omega,by omega,by go_num,(E.trans ((zbv _ _ _).mono E.size)).trans (I.mono (by simp;have:=E.size;omega)),KK.out Z.out⟩
    | false =>
     have Z:Hid (S≠D):=T.out fun e=>by have:=O.2 e;cases this
     clear O
     go_wp2
     go_ret;exact⟨false,rfl,(E.trans ((zbv _ _ _).mono E.size)).trans (I.mono (by simp;have:=E.size;omega)),⟨fun h=>(by cases h),fun h=>absurd h Z.out⟩⟩
   ·have:k=n:=by omega
    subst this
    go_wp2
    go_ret;exact⟨true,rfl,E,⟨fun _=>E1.out A.out,fun _=>rfl⟩⟩
 ·have b0:¬ ((S.length:Int)=(D.length:Int)):=by omega
  have U:Hid (S≠D):=fun e=>hl (by rw[e]);clear h1 h2 hB;generalize S.length=n at *;generalize D.length=n' at *
  go_enter Tryz.func86,Tryz.ntmps86
  go_wp2
  go_ret;exact⟨false,rfl,yr _ _,⟨fun h=>(by cases h),fun h=>absurd h U.out⟩⟩
theorem zxo(a E:Option Addr)(c F:Nat)(S D:List Nd)(w:World)(U:S.length<=9223372036854775807)(J:Big S)(h1:zai w a S)(I:zai w E D) :
  Calls Tryz.prog 48 #[.agg #[.slice a S.length c],.agg #[.slice E D.length F]] w fun e w' => ∃ r:Bool,e=.returned (.bool r)/\Below w.heap.size w w' /\(r=true↔S=D):=by
 have O:Hid _:=fun o1 o2=>zkp a E c F S D ((w.alloc o1).alloc o2) U J (h1.below (zbv _ _ _)) (I.below (zbv _ _ _));clear h1 I J;generalize S.length=n at *;generalize D.length=n' at *
 go_enter Tryz.func48,Tryz.ntmps48
 go_wp2_with (go_at_call 86;refine(O.out _ _).mono ?_;rintro e w1 ⟨r,rfl,Z,M⟩;have T:Hid _:=M;clear M)
 go_ret;exact⟨r,rfl,(zbv _ _ _).trans (Z.mono (by simp;omega)),T.out⟩
theorem zwo{A B:List (Int × Int)}(hl:A.length=B.length)(h:∀ i,i<A.length->A.getD i (0,0)=B.getD i (0,0)):A=B:=by
 refine List.ext_getElem hl fun i h1 D=>?_;have:=h i h1
 rwa [zae _ _ h1,zae _ _ D] at this
theorem zko(a T:Option Addr)(c c' : Nat)(A B:List (Int × Int))(w:World)(hN:A.length<=9223372036854775807)(h1:zau w a A)(U:zau w T B) :
  Calls Tryz.prog 49 #[.slice a A.length c,.slice T B.length c'] w fun e w' => ∃ r:Bool,e=.returned (.bool r)/\Below w.heap.size w w' /\(r=true↔A=B):=by
 by_cases hl:A.length=B.length
 ·have E1:Hid ((∀ i,i<A.length->A.getD i (0,0)=B.getD i (0,0))->A=B):=fun h=>zwo hl h;have E2:Hid (∀ i,A.getD i (0,0)≠B.getD i (0,0)->A≠B):=fun i h e=>h (by rw[e]);have H1:Hid (zau w a A):=h1;have H2:Hid (zau w T B):=U;have HL:Hid (B.length=A.length):=hl.symm;rw[<- hl];clear h1 U hl;obtain⟨n,hn⟩:∃ n,A.length=n:=⟨_,rfl⟩;have HN:Hid (A.length=n):=hn;rw[hn] at hN E1 HL |-;clear hn
  go_enter Tryz.func49,Tryz.ntmps49
  go_wp2
  go_loopg [13] n (fun g s13 wr=>∃ k:Nat,k<=n/\n-k<=g/\s13=.int .i64 k/\Below w.heap.size w wr/\Hid (∀ i,i<k->A.getD i (0,0)=B.getD i (0,0)))
  case atStart=>exact⟨0,by omega,by omega,rfl,yr _ _,fun i hi=>by omega⟩
  case round =>
   obtain⟨k,hk,hg,rfl,D,AA⟩:=hrel;by_cases E:k<n
   ·have a5:(k:Int)<(n:Int):=by omega
    obtain⟨b,o,rfl,c0,c1⟩:=(H1.out.below D) k (by rw[HN.out];exact E);obtain⟨b', o', rfl,e0,e1⟩:=(H2.out.below D) k (by rw[HL.out];exact E)
    have KK:Hid (A.getD k (0,0)=B.getD k (0,0)->∀ i,i<k+1->A.getD i (0,0)=B.getD i (0,0)):=fun h i hi=>by
     by_cases e:i=k
     ·subst e;exact h
     ·exact AA.out i (by omega)
    have EE:Hid _:=E2.out k;generalize A.getD k (0,0)=x at *;generalize B.getD k (0,0)=y at *;obtain⟨Z,x1⟩:=x;obtain⟨y0,y1⟩:=y;dsimp only at c0 c1 e0 e1;by_cases I:Z=y0
    ·subst I;by_cases J:x1=y1
     ·subst J
      go_wp2_with fail
      go_quiet (fail)
      go_wp2
      go_roundg (n-(k+1))
      case measure=>omega
      case rel=>exact⟨k+1,by omega,by omega,by go_num,zoe D _,KK.out trivial⟩
     ·have q2:(x1 == y1)=false:=beq_eq_false_iff_ne.2 J;have q3:decide (x1=y1)=false:=yF J;have O:Hid (A≠B):=EE.out (fun h=>J (congrArg Prod.snd h))
      go_wp2_with fail
      go_quiet (fail)
      go_wp2
      go_ret;exact⟨false,rfl,zoe D _,⟨fun h=>(by cases h),fun h=>absurd h O.out⟩⟩
    ·have q2:(Z == y0)=false:=beq_eq_false_iff_ne.2 I;have q3:decide (Z=y0)=false:=yF I;have O:Hid (A≠B):=EE.out (fun h=>I (congrArg Prod.fst h))
     go_wp2_with fail
     go_quiet (fail)
     go_wp2
     go_ret;exact⟨false,rfl,zoe D _,⟨fun h=>(by cases h),fun h=>absurd h O.out⟩⟩
   ·have:k=n:=by omega
    subst this;have Y:Hid (A=B):=E1.out AA.out
    go_wp2
    go_ret;exact⟨true,rfl,D,⟨fun _=>Y.out,fun _=>rfl⟩⟩
 ·have F:A≠B:=fun e=>hl (by rw[e]);have M:Hid (A≠B):=F;have a6:decide ((A.length:Int)=(B.length:Int))=false:=yF (by omega);have a7:((A.length:Int) ==(B.length:Int))=false:=beq_eq_false_iff_ne.2 (by omega);have a8:(A.length == B.length)=false:=beq_eq_false_iff_ne.2 hl;clear h1 U F;generalize A.length=n at *;generalize B.length=m at *
  go_enter Tryz.func49,Tryz.ntmps49
  go_wp2
  go_ret;exact⟨false,rfl,yr _ _,⟨fun h=>(by cases h),fun h=>absurd h M.out⟩⟩
theorem zAF{R Q:Rl}:R=Q↔R.s=Q.s/\R.hs=Q.hs/\R.i=Q.i/\R.t=Q.t:=by
 cases R;cases Q;simp
end Go.Proofs.YtcbcpomacdngmaaGreat
