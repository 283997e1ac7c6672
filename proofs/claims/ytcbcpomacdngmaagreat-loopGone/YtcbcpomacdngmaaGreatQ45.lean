/-
  x
-/
import Derived.Test.YtcbcpomacdngmaaGreatQ44
namespace Go.Proofs.YtcbcpomacdngmaaGreat
set_option maxRecDepth 100000
set_option maxHeartbeats 4000000
set_option linter.unusedVariables false
open Go.RowKit Go.ChangeShapes Go.WideShapes
theorem zxt{a b c:Int}:zao [a,b,c]=if a=0 then (if b=0 then c else b) else a:=by
 show (if a=0 then (if b=0 then (if c=0 then 0 else c) else b) else a)=_;by_cases h:c=0
 ·rw[yb h,h]
 ·rw[ya h]
theorem zkg.no{M:W0}{d me:Nat}{W:Wl}{E F:Int}{L:List Pt}{s:SD}{V D:World}(I:SW M d me W s D)(T:Below V.heap.size V D)(J:E=F)(O:F≠0):zkg M d me W W E L s.g1 V (.returned (.tuple #[.slice none 0 0,.int .i64 F])) D :=
 ⟨none,0,[],s,by rw[J];rfl,zaq.of_below T,fun h=>absurd (J.symm.trans h) O,fun _=>I⟩
theorem zyS(me:Nat)(W:Wl)(x:Ac):PBy 121 me W x W (zao [if bits .and .i64 (zjt W me) 2=0 then 7 else 0,zbv (rlm W me) x.a,zhl W.pt (many W) x.n me (zax W me) (zbf (rlm W me) x.a.toNat)]) (ziE W.pt x.n (zbf (rlm W me) x.a.toNat)):=fun w0 d s V I=>by
 rw[zxt];obtain⟨xk,T,xb,xc,xn⟩:=x;have II:Hid (SW w0 d me W s V):=I;have c6:=I.lt;have d4:Hid _:=c6;obtain⟨l0,l1,l2,l3,l4,lf,ll⟩:=zak I.box;have g0:d<V.heap.size:=ll;have n8:W.fs.length<=8:=I.rt.fs.few;have e4:me<W.fs.length:=I.sf;clear c6;dsimp only;have b5:∀ V2,Below V.heap.size V V2->∀ b,SX w0.heap.size d s b->b<V2.heap.size:=fun V2 hV b hb=>yx (d4.out b hb) hV.size;have a9:=I.big;obtain⟨fb,fo,ea,fm,_,fl⟩:=I.fcell I.sf;rw[ea] at l0;clear ea;have e0:zjt W me=(fr W.fs me).m:=rfl;rw[e0];obtain⟨mm,b7⟩:∃ t,(fr W.fs me).m=t:=⟨_,rfl⟩;rw[b7] at fm |-;clear b7 e0;obtain⟨k0,k1,k2,k3,kf,kl⟩:=I.rcells I.sf;have D:Hid (∀ V2,Below V.heap.size V V2->Calls _ _ _ _ _):=fun V2 hV=>znl (s.R me) (rlm W me) T V2 (I.rt.rs me I.sf) ((I.rat I.sf).below hV)
 have DP:Hid (∀ V2 ga gc G,G=zbf (rlm W me) T.toNat->zbv (rlm W me) T=0->Below V.heap.size V V2->zaG V2 ga G->Calls _ _ _ _ _):=fun V2 ga gc G hG hE hV hc=>zuz (SX w0.heap.size d s) s.a4 s.c4 W.pt (many W) xn me (zax W me) ga gc G V2 (b5 V2 hV) a9.1 a9.2 I.dp.pc (I.dp.pt.off (zaq.of_below hV)) (by
  obtain⟨m,rfl,h8,hf⟩:=zgA hE;rw[hG,yi,zcn];omega) (by
  obtain⟨m,rfl,h8,hf⟩:=zgA hE;rw[hG,yi];exact(zdg (zbG.2 (zjs h8 hf))).2) hc
 have EP:Hid (zhl W.pt (many W) xn me (zax W me) (zbf (rlm W me) T.toNat)=0->zeM W.pt (many W) xn me (zax W me) (zbf (rlm W me) T.toNat)=ziE W.pt xn (zbf (rlm W me) T.toNat)):=fun h=>yb h;dsimp only[rlV] at D;show Calls Tryz.prog _ #[.pointer (some ⟨d,0,none⟩),.int .i64 (me:Int),.int .i64 (zax W me),.agg #[.int .i64 xk,.int .i64 T,.int .i64 xb,.int .i64 xc,.int .i64 xn]] V _;obtain⟨n,hn⟩:∃ n,W.fs.length=n:=⟨_,rfl⟩;have HN:Hid (W.fs.length=n):=hn;obtain⟨nt,b2⟩:∃ n,W.pt.length=n:=⟨_,rfl⟩;have c9:Hid (W.pt.length=nt):=b2;rw[b2] at l4 DP;rw[hn] at l0 l1 l2 l3 n8 e4;rw[show many W=(n:Int) from by rw[<- hn];rfl] at DP EP |-;have MG:Hid (zbv (rlm W me) T=0->mkG (rlm W me) T=zbf (rlm W me) T.toNat):=fun h=>yb h;generalize (rlm W me).s.length=r0 at *;generalize (rlm W me).hs.length=r1 at *;generalize (rlm W me).i.length=r2 at *;generalize (rlm W me).t.length=r3 at *;clear hn b2 I b5 a9;have e6:(me:Int)<(n:Int):=by omega
 generalize zax W me=tn at *;generalize ziE W.pt xn (zbf (rlm W me) T.toNat)=LL at EP |-;obtain⟨bb,e3⟩:∃ b,bits .and .i64 mm 2=b:=⟨_,rfl⟩;rw[e3];obtain⟨E1,b0⟩:∃ E,zbv (rlm W me) T=E:=⟨_,rfl⟩;have b3:Hid (zbv (rlm W me) T=E1):=b0;rw[b0] at DP MG |-;clear b0;obtain⟨F,hF⟩:∃ F:Int,(if (if bb=0 then (7:Int) else 0)=0 then (if E1=0 then zhl W.pt n xn me tn (zbf (rlm W me) T.toNat) else E1) else (if bb=0 then 7 else 0))=F:=⟨_,rfl⟩;have HF:Hid (_=F):=hF;rw[hF];clear hF
 go_enter Tryz.func121,Tryz.ntmps121
 go_upto_region 1 with fail
 obtain⟨J,a5⟩:∃ J,V.alloc (.cells #[.int .i64 xk,.int .i64 T,.int .i64 xb,.int .i64 xc,.int .i64 xn] 36)=J:=⟨_,rfl⟩;have Z:Hid (Below V.heap.size V J):=by rw[<- a5];exact zaa _ _
 have y0:J.cell? ⟨V.heap.size,0,none⟩=some (.int .i64 xk):=by rw[<- a5];exact zac _ _ _ 0 rfl
 have y1:J.cell? ⟨V.heap.size,1,none⟩=some (.int .i64 T):=by rw[<- a5];exact zac _ _ _ 1 rfl
 have y2:J.cell? ⟨V.heap.size,2,none⟩=some (.int .i64 xb):=by rw[<- a5];exact zac _ _ _ 2 rfl
 have y3:J.cell? ⟨V.heap.size,3,none⟩=some (.int .i64 xc):=by rw[<- a5];exact zac _ _ _ 3 rfl
 have y4:J.cell? ⟨V.heap.size,4,none⟩=some (.int .i64 xn):=by rw[<- a5];exact zac _ _ _ 4 rfl
 have sV:V.heap.size<J.heap.size:=yd _ _ y0;rw[a5];clear a5;replace l0:=zab l0 Z.out;replace l1:=zab l1 Z.out;replace l2:=zab l2 Z.out;replace l3:=zab l3 Z.out;replace l4:=zab l4 Z.out;replace fm:=zab fm Z.out;replace k0:=zab k0 Z.out;replace k1:=zab k1 Z.out;replace k2:=zab k2 Z.out;replace k3:=zab k3 Z.out;have g4:fb<J.heap.size:=by omega
 have I1:Hid _:=II.out.below Z.out;by_cases b1:bb=0
 ·subst b1;rw[show (if (0:Int)=0 then (7:Int) else 0)=7 from rfl,ya (by decide)] at HF
  go_wp2
  exact yv (v:=.tuple #[.slice none 0 0,.int .i64 7]) (by simp[results,Tryz.results121,go_sem]) rfl (zkg.no I1.out Z.out HF.out.symm (by decide))
 ·have e9:(bb == 0)=false:=by simp[b1]
  rw[show (if bb=0 then (7:Int) else 0)=0 from ya b1,yb rfl] at HF
  go_upto_region 3 with fail
  have n0:¬ J.heap.size=d:=by omega
  have o0:¬ d=J.heap.size:=by omega
  have n1:¬ J.heap.size=s.g1:=by omega
  have o1:¬ s.g1=J.heap.size:=by omega
  have n2:¬ J.heap.size=V.heap.size:=by omega
  have o2:¬ V.heap.size=J.heap.size:=by omega
  have g5:d<J.heap.size:=by omega
  have g6:s.g1<J.heap.size:=by omega
  obtain⟨GG,b4⟩:∃ G,mkG (rlm W me) T=G:=⟨_,rfl⟩;have a8:Hid (mkG (rlm W me) T=GG):=b4;clear b4
  go_cut [10,11] (fun s10 s11 wx=>∃ (b:Nat) (ga:Option Addr) (gc:Nat),s10=.pointer (some ⟨b,0,none⟩)/\s11=.int .i64 E1/\Hid (Below J.heap.size J wx)/\Hid (wx.heap[b]?=some (.cells #[.slice ga GG.length gc] 47 (0,0)))/\J.heap.size<=b/\Hid (zaG wx ga GG))
  case first =>
   go_region_held3 (fun O=>O.cell? ⟨d,1,none⟩=some (.slice (some ⟨s.g1,0,none⟩) n n)/\O.cell? ⟨s.g1,me*4,none⟩=some (.slice (s.R me).a0 r0 (s.R me).c0)/\O.cell? ⟨s.g1,me*4+1,none⟩=some (.slice (s.R me).a1 r1 (s.R me).c1)/\O.cell? ⟨s.g1,me*4+2,none⟩=some (.slice (s.R me).a2 r2 (s.R me).c2)/\O.cell? ⟨s.g1,me*4+3,none⟩=some (.slice (s.R me).a3 r3 (s.R me).c3)/\O.cell? ⟨V.heap.size,1,none⟩=some (.int .i64 T)) (go_keep) (first|(go_at_call 139;refine ye (D.out J.drew Z.out.drew) ?_;rintro e w3 ⟨ga,gc,rfl,a7,a6⟩;rw[a8.out,b3.out];rw[a8.out] at a6;have U:Hid (Below J.heap.size J w3):=(yk _ _).drew.trans a7;have C3:Hid (St (fun b=>b<J.heap.size) (fun V=>zaG V ga GG) w3):=a6;have e1:=zab l1 U.out;have d6:=zab k0 U.out;have d7:=zab k1 U.out;have d8:=zab k2 U.out;have d9:=zab k3 U.out;have e2:=zab y1 U.out;clear a7 a6)|(go_at_call 139;refine ye (D.out (J.alloc (.cells #[.slice none 0 0] 47)).drew (Z.out.trans ((zaa J _).mono Z.out.size)).drew) ?_;rintro e w3 ⟨ga,gc,rfl,a7,a6⟩;rw[a8.out,b3.out];rw[a8.out] at a6;have U:Hid (Below J.heap.size J w3):=(zaa J _).drew.trans (a7.mono (by simp));have C3:Hid (St (fun b=>b<J.heap.size+1) (fun V=>zaG V ga GG) w3):=(by have h:=a6;simp only[yr,World.size_drew] at h;exact h);have e1:=zab l1 U.out;have d6:=zab k0 U.out;have d7:=zab k1 U.out;have d8:=zab k2 U.out;have d9:=zab k3 U.out;have e2:=zab y1 U.out;have X3:Hid (w3.heap[J.heap.size]?=some (.cells #[.slice none 0 0] 47 (0,0))):=zaD (W:=(J.alloc (.cells #[.slice none 0 0] 47)).drew) (heap_alloc_new J _) a7;have x0:=zaJ X3.out;have xf:=zaX (o:=0) X3.out;have xl:J.heap.size<w3.heap.size:=zaw X3.out;clear a7 a6))
   ·go_wp2_with fail
    go_meet
    case rel=>exact⟨_,ga,gc,rfl,rfl,U.out.trans ((zaa _ _).mono U.out.size),heap_alloc_new _ _,U.out.size,C3.out.at.below (zaa _ _)⟩
   ·go_wp2_with fail
    go_meet
    case rel=>exact⟨_,ga,gc,rfl,rfl,U.out.setCell (yj _) _,ziZ X3.out,yj _,C3.out _ (zaq.set _ _ (Nat.lt_succ_self _))⟩
  case rest =>
   obtain⟨b,ga,gc,rfl,rfl,HB,HX,e8,HC⟩:=hcut;have BW:Hid (Below V.heap.size V wc):=Z.out.trans (HB.out.mono Z.out.size);have I2:Hid _:=II.out.below BW.out;clear l0 l1 l2 l3 l4 k0 k1 k2 k3 D fm;by_cases hE:E1=0
   ·subst hE;rw[yb rfl] at HF;have eG:GG=zbf (rlm W me) T.toNat:=a8.out.symm.trans (MG.out rfl);have e7:Hid _:=eG;have DQ:Hid (∀ V2,Below wc.heap.size wc V2->Calls _ _ _ _ _):=fun V2 hV=>DP.out V2 ga gc GG eG rfl (BW.out.trans (hV.mono BW.out.size)) (HC.out.below hV);rw[<- eG] at HF EP;obtain⟨c7,g7,g8,g9,c8,h2,h3⟩:=zak I2.out.box;rw[HN.out] at c7;rw[c9.out] at c8;have x0:=zaJ HX.out;have e5:=zab y4 HB.out;have bl:b<wc.heap.size:=zaw HX.out;obtain⟨M,hM⟩:∃ M,zeM W.pt n xn me tn GG=M:=⟨_,rfl⟩;have HM:Hid _:=hM;rw[hM] at DQ EP;clear hM eG DP;generalize zhl W.pt n xn me tn GG=E2 at *;obtain rfl:=HF.out;generalize GG.length=gl at *
    go_wp2_with fail
    go_region_held3 (fun O=>O.cell? ⟨d,0,none⟩=some (.slice s.a0 n s.c0)/\O.cell? ⟨d,4,none⟩=some (.slice s.a4 nt s.c4)/\O.cell? ⟨V.heap.size,4,none⟩=some (.int .i64 xn)/\O.cell? ⟨b,0,none⟩=some (.slice ga gl gc)) (go_keep) (first|(go_at_call 145;refine ye (DQ.out wc.drew (yk _ _).drew) ?_;rintro e w5 ⟨va,vc,rfl,b6,b9,b8⟩;have B5:Hid (Below wc.heap.size wc w5):=(yk _ _).drew.trans b6;have j0:=zab c7 B5.out;have j4:=zab c8 B5.out;have jy:=zab e5 B5.out;have jx:=zab x0 B5.out;have d5:Hid _:=b9;have HP:Hid _:=b8;clear b6 b9 b8))
    have BY:Hid (Below V.heap.size V w5):=BW.out.trans (B5.out.mono BW.out.size)
    go_wp2
    exact yv (v:=.tuple #[.slice va M.length vc,.int .i64 E2]) (by simp[results,Tryz.results121,go_sem]) rfl (zkg.mk (II.out.below BY.out) BY.out EP.out HP.out d5.out)
   ·rw[ya hE] at HF;have hz:(E1 == 0)=false:=by simp[hE]
    go_wp2
    exact yv (v:=.tuple #[.slice none 0 0,.int .i64 E1]) (by simp[results,Tryz.results121,go_sem]) rfl (zkg.no I2.out BW.out HF.out.symm hE)
theorem zxs{a b:Int}:zao [a,b]=if a=0 then b else a:=by
 show (if a=0 then (if b=0 then 0 else b) else a)=_;by_cases h:b=0
 ·rw[yb h,h]
 ·rw[ya h]
theorem zrD(me:Nat)(W:Wl)(x:Ac)(hm:zaA W.fs x.a=0)(q:Ws)(QI:QIs q (zao [if isH x.b then 0 else 4,zaH (rlm W x.a.toNat).s (hd (rlm W x.a.toNat) x.b).1 (hd (rlm W x.a.toNat) x.b).2]) W W (nd (rlm W x.a.toNat).s (hd (rlm W x.a.toNat) x.b).1.toNat).m):zhv 115 #[] (fun _=>True) me W x q:=fun w0 d s V I _=>by
 rw[zxs] at QI;obtain⟨xk,xa,xb,xc,xn⟩:=x;have II:Hid (SW w0 d me W s V):=I;have b6:=I.lt;have c9:Hid _:=b6;obtain⟨l0,l1,l2,l3,l4,lf,ll⟩:=zak I.box;have d7:d<V.heap.size:=ll;have n8:W.fs.length<=8:=I.rt.fs.few;have c6:me<W.fs.length:=I.sf;clear b6;obtain⟨qa,b4,a6,_⟩:=zdt hm;dsimp only at b4 QI;subst b4;rw[yi] at QI;obtain⟨wf,hl,_,_⟩:=zaB (I.rt.rs qa a6);obtain⟨k0,k1,k2,k3,kf,kl⟩:=I.rcells a6;have hw:=I.rat a6;have HW:Hid (zcp V (s.R qa) (rlm W qa)):=hw;have D:Hid (∀ V2 P U,Below V.heap.size V V2->Calls _ _ _ _ _):=fun V2 P U hV=>zfK (rlm W qa).s P U (s.R qa).a0 (s.R qa).c0 V2 wf (hw.1.below hV)
 have HH:Hid (∀ p:Nat,p<16->∃ b o,(s.R qa).a1=some ⟨b,o,none⟩/\V.cell? ⟨b,o+p*2,none⟩=some (.int .i64 (hd (rlm W qa) p).1)/\V.cell? ⟨b,o+p*2+1,none⟩=some (.int .i64 (hd (rlm W qa) p).2)/\b<V.heap.size):=fun p hp=>by
  obtain⟨b,o,e,h1,h2⟩:=hw.2.1 p (by omega);have e2:hd (rlm W qa) (p:Int)=(rlm W qa).hs.getD p (0,0):=by unfold hd;rw[yi]
  rw[e2];exact⟨b,o,e,h1,h2,yd _ _ h1⟩
 have DW:Hid (∀ V2,Calls _ _ _ _ _):=fun V2=>zaQ xb 0 15 V2;rw[hl] at k1;clear hw hm wf hl;show Calls Tryz.prog _ #[.pointer (some ⟨d,0,none⟩),.int .i64 (me:Int),.agg #[.int .i64 xk,.int .i64 qa,.int .i64 xb,.int .i64 xc,.int .i64 xn]] V _;obtain⟨n,hn⟩:∃ n,W.fs.length=n:=⟨_,rfl⟩;have HN:Hid (W.fs.length=n):=hn;obtain⟨nt,b1⟩:∃ n,W.pt.length=n:=⟨_,rfl⟩;have c8:Hid (W.pt.length=nt):=b1;rw[b1] at l4;rw[hn] at l0 l1 l2 l3 n8 c6 a6;clear hn b1 I;have c7:(me:Int)<(n:Int):=by omega
 have e0:(qa:Int)<(n:Int):=by omega
 obtain⟨r0,b5⟩:∃ n,(rlm W qa).s.length=n:=⟨_,rfl⟩;rw[b5] at D k0;clear b5;generalize (rlm W qa).i.length=r2 at *;generalize (rlm W qa).t.length=r3 at *;obtain⟨qe,qw,qo⟩:=q;obtain⟨a7,Q0,Q1⟩:=QI;dsimp only at a7 Q0 Q1 |-;rw[<- a7] at Q0 Q1;have Q0:Hid _:=Q0;have Q1:Hid _:=Q1;have a9:Hid _:=a7;clear a7
 go_enter Tryz.func115,Tryz.ntmps115
 go_upto_region 1 with fail
 obtain⟨E,F⟩:∃ E,V.alloc (.cells #[.int .i64 xk,.int .i64 qa,.int .i64 xb,.int .i64 xc,.int .i64 xn] 36)=E:=⟨_,rfl⟩;have T:Hid (Below V.heap.size V E):=by rw[<- F];exact zaa _ _
 have y0:E.cell? ⟨V.heap.size,0,none⟩=some (.int .i64 xk):=by rw[<- F];exact zac _ _ _ 0 rfl
 have y1:E.cell? ⟨V.heap.size,1,none⟩=some (.int .i64 qa):=by rw[<- F];exact zac _ _ _ 1 rfl
 have y2:E.cell? ⟨V.heap.size,2,none⟩=some (.int .i64 xb):=by rw[<- F];exact zac _ _ _ 2 rfl
 have y3:E.cell? ⟨V.heap.size,3,none⟩=some (.int .i64 xc):=by rw[<- F];exact zac _ _ _ 3 rfl
 have y4:E.cell? ⟨V.heap.size,4,none⟩=some (.int .i64 xn):=by rw[<- F];exact zac _ _ _ 4 rfl
 have sV:V.heap.size<E.heap.size:=yd _ _ y0;rw[F];clear F;replace l0:=zab l0 T.out;replace l1:=zab l1 T.out;replace l2:=zab l2 T.out;replace l3:=zab l3 T.out;replace l4:=zab l4 T.out;replace k0:=zab k0 T.out;replace k1:=zab k1 T.out;replace k2:=zab k2 T.out;replace k3:=zab k3 T.out;have n0:¬ E.heap.size=d:=by omega
 have o0:¬ d=E.heap.size:=by omega
 have n1:¬ E.heap.size=s.g1:=by omega
 have o1:¬ s.g1=E.heap.size:=by omega
 have n2:¬ E.heap.size=V.heap.size:=by omega
 have o2:¬ V.heap.size=E.heap.size:=by omega
 have e3:d<E.heap.size:=by omega
 have e4:s.g1<E.heap.size:=by omega
 go_cut [8] (fun s8 wx=>∃ (b:Nat),s8=.pointer (some ⟨b,0,none⟩)/\Hid (Below E.heap.size E wx)/\Hid (wx.heap[b]?=some (.cells #[.slice (s.R qa).a0 r0 (s.R qa).c0,.slice (s.R qa).a1 16 (s.R qa).c1,.slice (s.R qa).a2 r2 (s.R qa).c2,.slice (s.R qa).a3 r3 (s.R qa).c3] 50 (0,0)))/\E.heap.size<=b)
 case first =>
  go_region
  go_wp2_with fail
  go_meet
  case rel=>exact⟨_,rfl,(zaa E _).drew,zcc _ _ _ _ _ _,yj _⟩
 case rest =>
  obtain⟨b,rfl,HB,HX,d5⟩:=hcut;have BW:Hid (Below V.heap.size V wc):=T.out.trans (HB.out.mono T.out.size);have I2:Hid _:=II.out.below BW.out;obtain⟨m0,m1,m2,m3,ml⟩:=zxW HX.out;have a8:=zab y2 HB.out;have e8:V.heap.size<wc.heap.size:=yd _ _ a8;clear l0 l1 l2 l3 l4 k0 k1 k2 k3 n0 o0 n1 o1 n2 o2;by_cases O:isH xb
  ·obtain⟨p,rfl,hp⟩:=zmt O;have hq:=a9.out;rw[show (if isH (p:Int) then (0:Int) else 4)=0 from yb O,yb rfl] at hq;rw[show decide (0<=(p:Int)/\(p:Int)<=15)=true from decide_eq_true O] at DW;clear a9;obtain⟨hb,ho,ea,u0,u1,ul⟩:=HH.out p hp;replace u0:=zab u0 BW.out;replace u1:=zab u1 BW.out;rw[ea] at m1;clear ea HH;generalize hd (rlm W qa) (p:Int)=hh at *;obtain⟨P,U⟩:=hh;dsimp only at u0 u1 hq Q0 Q1;have DD:Hid (∀ V2,Below wc.heap.size wc V2->Calls _ _ _ _ _):=fun V2 hV=>D.out V2 P U (BW.out.trans (hV.mono BW.out.size));clear D;rw[<- hq] at DD;have HQ:Hid _:=hq;clear hq O;have d8:(p:Int)<16:=by omega
   have e1:hb<wc.heap.size:=yd _ _ u0
   go_upto_region 4 with (go_at_call 66;refine(DW.out _).mono ?_;rintro e w3 ⟨rfl,b2⟩;subst b2)
   have n1:¬ w3.heap.size=b:=by omega
   have e5:¬ b=w3.heap.size:=by omega
   have n2:¬ w3.heap.size=hb:=by omega
   have e6:¬ hb=w3.heap.size:=by omega
   have n3:¬ w3.heap.size=V.heap.size:=by omega
   have e7:¬ V.heap.size=w3.heap.size:=by omega
   go_cut [9,10] (fun s9 s10 wx=>∃ (c:Nat) (mm pp:Int),s9=.pointer (some ⟨c,0,none⟩)/\s10=.int .i64 qe/\Hid (Below w3.heap.size w3 wx)/\wx.cell? ⟨c,3,none⟩=some (.int .i64 mm)/\wx.cell? ⟨c,4,none⟩=some (.int .i64 pp)/\w3.heap.size<=c/\Hid (qe=0->mm=(nd (rlm W qa).s P.toNat).m/\pp=(nd (rlm W qa).s P.toNat).p))
   case first =>
    go_region_held3 (fun a5=>a5.cell? ⟨b,0,none⟩=some (.slice (s.R qa).a0 r0 (s.R qa).c0)/\a5.cell? ⟨b,1,none⟩=some (.slice (some ⟨hb,ho,none⟩) 16 (s.R qa).c1)/\a5.cell? ⟨V.heap.size,2,none⟩=some (.int .i64 p)/\a5.cell? ⟨hb,ho+p*2,none⟩=some (.int .i64 P)/\a5.cell? ⟨hb,ho+p*2+1,none⟩=some (.int .i64 U)) (go_keep) (first|(go_at_call 14;refine ye (DD.out w3.drew (yk _ _).drew) ?_;rintro e w5 ⟨nx,ka,kl,kc,rfl,M,Z,b3⟩;have J:Hid (Below w3.heap.size w3 w5):=(yk _ _).drew.trans M;have b0:Hid _:=Z;have g0:=zab m0 J.out;have g1:=zab m1 J.out;have gy:=zab a8 J.out;have b8:=zab u0 J.out;have b9:=zab u1 J.out;clear M Z b3)|(go_at_call 14;refine ye (DD.out (w3.alloc (.cells #[.bool false,.int .i64 0,.int .i64 0,.int .i64 0,.int .i64 0,.slice none 0 0,.int .i64 0,.bool false] 57)).drew (zaa w3 _).drew) ?_;rintro e w5 ⟨nx,ka,kl,kc,rfl,M,Z,b3⟩;have J:Hid (Below w3.heap.size w3 w5):=(zaa w3 _).drew.trans (M.mono (by simp));have b0:Hid _:=Z;have g0:=zab m0 J.out;have g1:=zab m1 J.out;have gy:=zab a8 J.out;have b8:=zab u0 J.out;have b9:=zab u1 J.out;have X3:Hid (w5.heap[w3.heap.size]?=some (.cells #[.bool false,.int .i64 0,.int .i64 0,.int .i64 0,.int .i64 0,.slice none 0 0,.int .i64 0,.bool false] 57 (0,0))):=zaD (W:=(w3.alloc (.cells #[.bool false,.int .i64 0,.int .i64 0,.int .i64 0,.int .i64 0,.slice none 0 0,.int .i64 0,.bool false] 57)).drew) (heap_alloc_new w3 _) M;obtain⟨x0,x1,x2,x3,x4,x5,x6,x7,xf,xl⟩:=zdf X3.out;clear M Z b3))
    ·go_wp2_with fail
     go_meet
     case rel =>
      have r:=zuF nx (.slice ka kl kc) 57 (yk w3.heap.size w3) J.out;exact⟨_,_,_,rfl,rfl,r.1,r.2.1,r.2.2.1,r.2.2.2,fun h=>by rw[b0.out h];exact⟨rfl,rfl⟩⟩
    ·go_wp2_with fail
     go_meet
     case rel =>
      have r:=zuG nx (.slice ka kl kc) (yk w3.heap.size w3) J.out X3.out;exact⟨_,_,_,rfl,rfl,r.1,r.2.1,r.2.2.1,r.2.2.2,fun h=>by rw[b0.out h];exact⟨rfl,rfl⟩⟩
   case rest =>
    obtain⟨c,mm,pp,rfl,rfl,b7,hm,d9,d6,HM⟩:=hcut;have I4:Hid _:=I2.out.below b7.out;have d4:c<wc.heap.size:=yd _ _ hm;clear m0 m1 m2 m3 u0 u1 a8
    go_wp2
    refine yv (v:=.tuple #[.int .i64 mm,.int .i64 qe]) (by simp[results,Tryz.results115,go_sem]) rfl ?_;by_cases hE:qe=0
    ·obtain⟨h1,h2⟩:=Hid.out Q0 hE;subst hE;rw[(HM.out rfl).1,h1,h2];exact zdF.ok I4.out
    ·rw[Hid.out Q1 hE];exact zdF.no I4.out hE
  ·have hq:=a9.out;rw[show (if isH xb then (0:Int) else 4)=4 from ya O,ya (by decide)] at hq;rw[show decide (0<=xb/\xb<=15)=false from decide_eq_false O] at DW;subst hq;obtain rfl:=Hid.out Q1 (by decide);clear D HH
   go_wp2_with (go_at_call 66;refine(DW.out _).mono ?_;rintro e w3 ⟨rfl,b2⟩;subst b2)
   exact yv (v:=.tuple #[.int .i64 0,.int .i64 4]) (by simp[results,Tryz.results115,go_sem]) rfl (zdF.no I2.out (by decide))
end Go.Proofs.YtcbcpomacdngmaaGreat
