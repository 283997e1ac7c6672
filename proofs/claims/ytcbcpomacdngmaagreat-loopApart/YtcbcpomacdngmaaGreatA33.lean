/-
  x
-/
import Derived.Test.YtcbcpomacdngmaaGreatA32
namespace Go.Proofs.YtcbcpomacdngmaaGreat
set_option maxRecDepth 100000
set_option maxHeartbeats 4000000
set_option linter.unusedVariables false
open Go.RowKit Go.ChangeShapes Go.WideShapes Tryz
theorem Tz(F:Nat)(eg:∀ args w,(callFunc F args).run prog w=.ok (.enter F args) w)(O:Nat)(w:Wd)(hc:w.cell? ⟨O,0,none⟩=some (.func (.func F) #[] #[]))(R:Rl)(x:Ac)(wf:WF R.s)(hl:R.hs.length=16)(ha:isH x.a)(T n:Int)(e0:T≠0)
  (hF:∀ (a:OA) (c:Nat) (W:Wd),aO W a R.i->yO F #[.agg #[.slice a R.i.length c],.int .i64 x.n] W fun e w' => e=.returned (.tuple #[.int .i64 n,.int .i64 T])/\Below W.heap.size W w') :
  iK 187 #[.pointer (some ⟨O,0,none⟩)] w R x (bad T):=fun d h g A V I=>by
 rw[(JS T).2.2];have hz:(T == 0)=false:=by simp[e0]
 obtain⟨a0,a1,a2,a3,c0,c1,c2,c3⟩:=A;obtain rfl:a0=some ⟨g,0,none⟩:=I.a0;obtain rfl:a1=some ⟨h,0,none⟩:=I.a1;obtain⟨xk,xa,xb,xc,xn⟩:=x;obtain⟨p,hp,a8⟩:=iJ ha;dsimp only at hp;subst hp;obtain⟨u0,u1⟩:=I.hand (k:=p) oaa;have II:Hid (WI w R d h g _ V):=I;have D:Hid (∀ W,Bl V W->yO 14 #[.agg #[.slice (some ⟨g,0,none⟩) R.s.length c0],.agg #[.int .i64 (hd R (p:Int)).1,.int .i64 (hd R (p:Int)).2]] W fun e w' => ∃ (x:Nd) (ka:OA) (kl kc:Nat),e=.returned (.tuple #[.agg #[.bool x.u,.int .i64 x.n,.int .i64 x.t,.int .i64 x.m,.int .i64 x.p,.slice ka kl kc,.int .i64 x.h,.bool x.c],.int .i64 (aP R.s (hd R (p:Int)).1 (hd R (p:Int)).2)])/\Below W.heap.size W w' /\(aP R.s (hd R (p:Int)).1 (hd R (p:Int)).2=0->x=nd R.s (hd R (p:Int)).1.toNat)/\(aP R.s (hd R (p:Int)).1 (hd R (p:Int)).2≠0->x=oJ)):=fun W hW=>vK R.s _ _ _ c0 W wf (I.nds.below hW);have DF:Hid (∀ W,Bl V W->yO F #[.agg #[.slice a2 R.i.length c2],.int .i64 xn] W fun e w' => e=.returned (.tuple #[.int .i64 n,.int .i64 T])/\Below W.heap.size W w'):=fun W hW=>hF a2 c2 W (I.cls.at.below hW);clear hF;have k0:=(I.bel.cell (yi _ _ hc)).trans hc;obtain⟨l0,l1,l2,l3,fz,lt⟩:=aV I.box;dsimp only at l0 l1 l2 l3;rw[hl] at l1;have b5:d<V.heap.size:=lt;have b6:h<V.heap.size:=yi _ _ u0;have b4:O<V.heap.size:=yi _ _ k0;have b7:(p:Int)<16:=oaa
 show yO _ #[.pointer (some ⟨d,0,none⟩),.agg #[.int .i64 xk,.int .i64 p,.int .i64 xb,.int .i64 xc,.int .i64 xn],.pointer (some ⟨O,0,none⟩)] V _;obtain⟨ns,a7⟩:∃ n,R.s.length=n:=⟨_,rfl⟩;have b0:Hid (R.s.length=ns):=a7;clear ha hl;generalize hd R (p:Int)=hh at *;obtain⟨P,U⟩:=hh;dsimp only at u0 u1 D |-;obtain⟨ni,a6⟩:∃ n,R.i.length=n:=⟨_,rfl⟩;rw[a6] at DF l2;clear a6 hc;clear a7 I
 go_enter func187,ntmps187
 go_upto_region 1 with fail
 obtain⟨E,J⟩:∃ E,V.alloc (.cells #[.int .i64 xk,.int .i64 p,.int .i64 xb,.int .i64 xc,.int .i64 xn] 36)=E:=⟨_,rfl⟩;have M:Hid (Bl V E):=by rw[<- J];exact aB _ _
 have y0:E.cell? ⟨V.heap.size,0,none⟩=some (.int .i64 xk):=by rw[<- J];exact aK _ _ _ 0 rfl
 have y1:E.cell? ⟨V.heap.size,1,none⟩=some (.int .i64 p):=by rw[<- J];exact aK _ _ _ 1 rfl
 have y2:E.cell? ⟨V.heap.size,2,none⟩=some (.int .i64 xb):=by rw[<- J];exact aK _ _ _ 2 rfl
 have y3:E.cell? ⟨V.heap.size,3,none⟩=some (.int .i64 xc):=by rw[<- J];exact aK _ _ _ 3 rfl
 have y4:E.cell? ⟨V.heap.size,4,none⟩=some (.int .i64 xn):=by rw[<- J];exact aK _ _ _ 4 rfl
 have sV:V.heap.size<E.heap.size:=yi _ _ y0;rw[J];clear J;replace u0:=aA u0 M;replace u1:=aA u1 M;replace l0:=aA l0 M;replace l1:=aA l1 M;replace l2:=aA l2 M;replace l3:=aA l3 M;replace k0:=aA k0 M;have n0:¬ E.heap.size=d:=oaa
 have o0:¬ d=E.heap.size:=oaa
 have n1:¬ E.heap.size=h:=oaa
 have o1:¬ h=E.heap.size:=oaa
 have n2:¬ E.heap.size=O:=oaa
 have o2:¬ O=E.heap.size:=oaa
 have n3:¬ E.heap.size=V.heap.size:=oaa
 have o3:¬ V.heap.size=E.heap.size:=oaa
 have b8:d<E.heap.size:=oaa
 have b9:h<E.heap.size:=oaa
 have a9:O<E.heap.size:=oaa
 clear fz lt
 go_region_held3 (fun Z=>Z.cell? ⟨O,0,none⟩=some (.func (.func F) #[] #[])/\Z.cell? ⟨d,2,none⟩=some (.slice a2 ni c2)/\Z.cell? ⟨V.heap.size,4,none⟩=some (.int .i64 xn)) (go_keep) (first|(refine yj (DF E.drew M.drew) ?_;rintro e w2 ⟨rfl,a5⟩;have B2:Hid (Bl E w2):=(yv _ _).drew.trans a5;have b1:=aA k0 B2;have b2:=aA l2 B2;have b3:=aA y4 B2;clear a5))
 have I2:Hid _:=II.below (M.trans (B2.mono M.size))
 go_wp2
 exact yz (v:=.tuple #[.int .i64 0,.int .i64 T]) (by simp[results,results187,go_sem]) rfl ⟨0,rfl,I2.bel,fun hE=>absurd hE e0⟩
theorem YL(F:Nat)(eg:∀ args w,(callFunc F args).run prog w=.ok (.enter F args) w)(cb:Nat)(w:Wd)(hc:w.cell? ⟨cb,0,none⟩=some (.func (.func F) #[] #[]))(R:Rl)(x:Ac)(wf:WF R.s)(hl:R.hs.length=16)(ha:isH x.a)(n:Int)
  (hF:∀ (a:OA) (c:Nat) (W:Wd),aO W a R.i->yO F #[.agg #[.slice a R.i.length c],.int .i64 x.n] W fun e w' => e=.returned (.tuple #[.int .i64 n,.int .i64 0])/\Below W.heap.size W w') :
  iK 187 #[.pointer (some ⟨cb,0,none⟩)] w R x (qI R (hd R x.a) n):=fun d h g A V I=>by
 unfold qI;rw[pR];obtain⟨a0,a1,a2,a3,c0,c1,c2,c3⟩:=A;obtain rfl:a0=some ⟨g,0,none⟩:=I.a0;obtain rfl:a1=some ⟨h,0,none⟩:=I.a1;obtain⟨xk,xa,xb,xc,xn⟩:=x;obtain⟨p,hp,d8⟩:=iJ ha;dsimp only at hp;subst hp;obtain⟨u0,u1⟩:=I.hand (k:=p) oaa;have II:Hid (WI w R d h g _ V):=I;have D:Hid (∀ W,Bl V W->yO 14 #[.agg #[.slice (some ⟨g,0,none⟩) R.s.length c0],.agg #[.int .i64 (hd R (p:Int)).1,.int .i64 (hd R (p:Int)).2]] W fun e w' => ∃ (x:Nd) (ka:OA) (kl kc:Nat),e=.returned (.tuple #[.agg #[.bool x.u,.int .i64 x.n,.int .i64 x.t,.int .i64 x.m,.int .i64 x.p,.slice ka kl kc,.int .i64 x.h,.bool x.c],.int .i64 (aP R.s (hd R (p:Int)).1 (hd R (p:Int)).2)])/\Below W.heap.size W w' /\(aP R.s (hd R (p:Int)).1 (hd R (p:Int)).2=0->x=nd R.s (hd R (p:Int)).1.toNat)/\(aP R.s (hd R (p:Int)).1 (hd R (p:Int)).2≠0->x=oJ)):=fun W hW=>vK R.s _ _ _ c0 W wf (I.nds.below hW);have DF:Hid (∀ W,Bl V W->yO F #[.agg #[.slice a2 R.i.length c2],.int .i64 xn] W fun e w' => e=.returned (.tuple #[.int .i64 n,.int .i64 0])/\Below W.heap.size W w'):=fun W hW=>hF a2 c2 W (I.cls.at.below hW);clear hF;have k0:=(I.bel.cell (yi _ _ hc)).trans hc;obtain⟨l0,l1,l2,l3,fz,lt⟩:=aV I.box;dsimp only at l0 l1 l2 l3;rw[hl] at l1;have e7:d<V.heap.size:=lt;have e8:h<V.heap.size:=yi _ _ u0;have e6:cb<V.heap.size:=yi _ _ k0;have g0:(p:Int)<16:=oaa
 show yO _ #[.pointer (some ⟨d,0,none⟩),.agg #[.int .i64 xk,.int .i64 p,.int .i64 xb,.int .i64 xc,.int .i64 xn],.pointer (some ⟨cb,0,none⟩)] V _;obtain⟨ns,b0⟩:∃ n,R.s.length=n:=⟨_,rfl⟩;have b4:Hid (R.s.length=ns):=b0;clear ha hl;generalize hd R (p:Int)=hh at *;obtain⟨P,U⟩:=hh;dsimp only at u0 u1 D |-;obtain⟨ni,b5⟩:∃ n,R.i.length=n:=⟨_,rfl⟩;rw[b5] at DF l2;clear b5 hc;obtain⟨E,hE⟩:∃ E,aP R.s P U=E:=⟨_,rfl⟩;have HE:Hid (aP R.s P U=E):=hE;obtain⟨M,hM⟩:∃ M,qH R.s P U n=M:=⟨_,rfl⟩;have HM:Hid (qH R.s P U n=M):=hM;rw[hE] at D;rw[hM];clear hE hM;rw[b0] at D l0;clear b0 I;have DW:Hid (∀ W,Calls _ _ _ _ _):=fun W=>gU n (-1000000) 1000000 W
 go_enter func187,ntmps187
 go_upto_region 1 with fail
 obtain⟨T,a5⟩:∃ T,V.alloc (.cells #[.int .i64 xk,.int .i64 p,.int .i64 xb,.int .i64 xc,.int .i64 xn] 36)=T:=⟨_,rfl⟩;have BV:Hid (Bl V T):=by rw[<- a5];exact aB _ _
 have y0:T.cell? ⟨V.heap.size,0,none⟩=some (.int .i64 xk):=by rw[<- a5];exact aK _ _ _ 0 rfl
 have y1:T.cell? ⟨V.heap.size,1,none⟩=some (.int .i64 p):=by rw[<- a5];exact aK _ _ _ 1 rfl
 have y2:T.cell? ⟨V.heap.size,2,none⟩=some (.int .i64 xb):=by rw[<- a5];exact aK _ _ _ 2 rfl
 have y3:T.cell? ⟨V.heap.size,3,none⟩=some (.int .i64 xc):=by rw[<- a5];exact aK _ _ _ 3 rfl
 have y4:T.cell? ⟨V.heap.size,4,none⟩=some (.int .i64 xn):=by rw[<- a5];exact aK _ _ _ 4 rfl
 have sV:V.heap.size<T.heap.size:=yi _ _ y0;rw[a5];clear a5;replace u0:=aA u0 BV;replace u1:=aA u1 BV;replace l0:=aA l0 BV;replace l1:=aA l1 BV;replace l2:=aA l2 BV;replace l3:=aA l3 BV;replace k0:=aA k0 BV;have n0:¬ T.heap.size=d:=oaa
 have o0:¬ d=T.heap.size:=oaa
 have n1:¬ T.heap.size=h:=oaa
 have o1:¬ h=T.heap.size:=oaa
 have n2:¬ T.heap.size=cb:=oaa
 have o2:¬ cb=T.heap.size:=oaa
 have n3:¬ T.heap.size=V.heap.size:=oaa
 have o3:¬ V.heap.size=T.heap.size:=oaa
 have b7:d<T.heap.size:=oaa
 have d7:h<T.heap.size:=oaa
 have b6:cb<T.heap.size:=oaa
 clear fz lt
 go_region_held3 (fun O=>O.cell? ⟨cb,0,none⟩=some (.func (.func F) #[] #[])/\O.cell? ⟨d,2,none⟩=some (.slice a2 ni c2)/\O.cell? ⟨V.heap.size,4,none⟩=some (.int .i64 xn)) (go_keep) (first|(refine yj (DF T.drew BV.drew) ?_;rintro e w2 ⟨rfl,Z⟩;have B2:Hid (Bl T w2):=(yv _ _).drew.trans Z;have c7:=aA k0 B2;have c9:=aA l2 B2;have d4:=aA y4 B2;clear Z))
 replace u0:=aA u0 B2;replace u1:=aA u1 B2;replace l0:=aA l0 B2;replace l1:=aA l1 B2;replace y1:=aA y1 B2;have s3:=B2.size;have q0:d<w2.heap.size:=oaa
 have q1:h<w2.heap.size:=oaa
 have q2:V.heap.size<w2.heap.size:=oaa
 have e0:¬ w2.heap.size=d:=oaa
 have e1:¬ w2.heap.size=h:=oaa
 have e2:¬ w2.heap.size=V.heap.size:=oaa
 have e3:¬ d=w2.heap.size:=oaa
 have e4:¬ h=w2.heap.size:=oaa
 have e5:¬ V.heap.size=w2.heap.size:=oaa
 have b3:Hid (Bl V w2):=BV.trans (B2.mono BV.size);clear c7 c9 d4 k0 l2 l3 y0 y2 y3 y4 n0 n1 n2 n3 o0 o1 o2 o3 b7 d7 b6 DF B2 BV
 go_wp2_with fail
 go_region_held3 (fun O=>O.cell? ⟨d,1,none⟩=some (.slice (some ⟨h,0,none⟩) 16 c1)/\O.cell? ⟨h,p*2,none⟩=some (.int .i64 P)/\O.cell? ⟨h,p*2+1,none⟩=some (.int .i64 U)/\O.cell? ⟨V.heap.size,1,none⟩=some (.int .i64 p)) (go_keep) (fail)
 go_upto_region 5 with fail
 obtain⟨J,a9⟩:∃ J,(w2.alloc (.cells #[.int .i64 P,.int .i64 U] 61)).drew=J:=⟨_,rfl⟩;have B4:Hid (Bl w2 J):=by rw[<- a9];exact(aB _ _).drew
 have a6:Hid (Bl V J):=b3.trans (B4.mono b3.size);have X4:Hid (J.heap[w2.heap.size]?=some (.cells #[.int .i64 P,.int .i64 U] 61 (0,0))):=by rw[<- a9];exact yN w2 _
 rw[a9];clear a9;obtain⟨j0,j1,jl⟩:=lN X4.out;replace l0:=aA l0 B4;have s4:=B4.size;have b7:d<J.heap.size:=oaa
 have n0:¬ J.heap.size=d:=oaa
 have o0:¬ d=J.heap.size:=oaa
 have n1:¬ J.heap.size=w2.heap.size:=oaa
 have o1:¬ w2.heap.size=J.heap.size:=oaa
 clear u0 u1 l1 y1 e0 e1 e2 e3 e4 e5
 go_cut [10,11] (fun s10 s11 wx=>∃ (b:Nat) (m pp:Int),s10=.pointer (some ⟨b,0,none⟩)/\s11=.int .i64 E/\Hid (Bl J wx)/\wx.cell? ⟨b,3,none⟩=some (.int .i64 m)/\wx.cell? ⟨b,4,none⟩=some (.int .i64 pp)/\J.heap.size<=b/\Hid (E=0->m=(nd R.s P.toNat).m/\pp=(nd R.s P.toNat).p))
 case first =>
  go_region_held3 (fun O=>O.cell? ⟨d,0,none⟩=some (.slice (some ⟨g,0,none⟩) ns c0)/\O.cell? ⟨w2.heap.size,0,none⟩=some (.int .i64 P)/\O.cell? ⟨w2.heap.size,1,none⟩=some (.int .i64 U)) (go_keep) (first|(go_at_call 14;refine yj (D J.drew a6.drew) ?_;rintro e w5 ⟨nx,ka,kl,kc,rfl,Z,a8,b2⟩;have B5:Hid (Bl J w5):=(yv _ _).drew.trans Z;have HX:Hid _:=a8;have c8:=aA l0 B5;have b9:=aA j0 B5;have c6:=aA j1 B5;clear Z a8 b2)|(go_at_call 14;refine yj (D (J.alloc (.cells #[.bool false,.int .i64 0,.int .i64 0,.int .i64 0,.int .i64 0,.slice none 0 0,.int .i64 0,.bool false] 57)).drew (a6.trans ((aB J _).mono a6.size)).drew) ?_;rintro e w5 ⟨nx,ka,kl,kc,rfl,Z,a8,b2⟩;have B5:Hid (Bl J w5):=(aB J _).drew.trans (Z.mono oac);have HX:Hid _:=a8;have c8:=aA l0 B5;have b9:=aA j0 B5;have c6:=aA j1 B5;have X3:Hid (w5.heap[J.heap.size]?=some (.cells #[.bool false,.int .i64 0,.int .i64 0,.int .i64 0,.int .i64 0,.slice none 0 0,.int .i64 0,.bool false] 57 (0,0))):=aH (W:=(J.alloc (.cells #[.bool false,.int .i64 0,.int .i64 0,.int .i64 0,.int .i64 0,.slice none 0 0,.int .i64 0,.bool false] 57)).drew) (yN J _) Z;obtain⟨z0,z1,z2,z3,z4,z5,z6,z7,zf,zl⟩:=vW X3.out;clear Z a8 b2))
  ·go_wp2_with fail
   go_meet
   case rel =>
    have r:=zP nx (.slice ka kl kc) 57 (yv J.heap.size J) B5.out;exact⟨_,_,_,rfl,rfl,r.1,r.2.1,r.2.2.1,r.2.2.2,fun h=>by rw[HX.out h];exact⟨rfl,rfl⟩⟩
  ·go_wp2_with fail
   go_meet
   case rel =>
    have r:=zQ nx (.slice ka kl kc) (yv J.heap.size J) B5.out X3.out;exact⟨_,_,_,rfl,rfl,r.1,r.2.1,r.2.2.1,r.2.2.2,fun h=>by rw[HX.out h];exact⟨rfl,rfl⟩⟩
 case rest =>
  obtain⟨b,m,pp,rfl,rfl,HB,hm,d6,d9,b8⟩:=hcut;have I2:Hid _:=II.below (a6.trans (HB.mono a6.size));replace j0:=aA j0 HB;obtain⟨m0,m1,m2,m3,mf,ml⟩:=aV I2.box;dsimp only at m0;rw[b4.out] at m0;clear j1 l0 II D hm d6 b8 m1 m2 m3;by_cases hE:E=0
  ·subst hE;by_cases hr:-1000000<=n/\n<=1000000
   ·obtain rfl:0=M:=by rw[<- HM.out];unfold qH;rw[HE.out,ye rfl,ye hr]
    rw[yI hr] at DW;obtain⟨_,k,ek,hk,_⟩:=lC HE.out;subst ek;have d5:=hk;rw[b4.out] at hk;have e9:(k:Int)<(ns:Int):=oaa
    obtain⟨r0,r1⟩:(∃ v,wc.cell? ⟨g,k*8+3,none⟩=some v)/\∀ o,wc.frozen? ⟨g,o,none⟩=false:=by
     obtain⟨_,F,hF,_⟩:=I2.own;exact⟨⟨_,hF.cell oaa⟩,hF.frozen⟩
    obtain⟨rv,r0⟩:=r0;have HS:Hid _:=I2.setMark d5 n rfl
    go_wp2_with fail
    refine yj (DW _) ?_;rintro e w6 ⟨rfl,a7⟩;have b1:=a7.symm;clear a7;subst b1
    go_wp2_with fail
    go_region
    go_wp2
    refine yz (v:=.tuple #[.int .i64 0,.int .i64 0]) (by simp[results,results187,go_sem]) rfl ⟨0,rfl,HS.out.1.drew,?_⟩;have e2:uO R.s (k:Int) n=R.s.set k { nd R.s k with m:=n }:=(by unfold uO;rw[yk]);rw[pU rfl,e2];exact⟨rfl,_,HS.out.2.1,HS.out.2.2.below (yv _ _).drew⟩
   ·obtain rfl:2=M:=by rw[<- HM.out];unfold qH;rw[HE.out,ye rfl,yd hr]
    rw[yH hr] at DW
    go_wp2_with fail
    refine yj (DW _) ?_;rintro e w6 ⟨rfl,a7⟩;have b1:=a7.symm;clear a7;subst b1
    go_wp2
    exact yz (v:=.tuple #[.int .i64 0,.int .i64 2]) (by simp[results,results187,go_sem]) rfl ⟨0,rfl,I2.bel,fun hE=>absurd hE oae⟩
  ·obtain rfl:E=M:=by rw[<- HM.out];unfold qH;rw[HE.out,yd hE]
   have hz:(E == 0)=false:=by simp[hE]
   go_wp2
   exact yz (v:=.tuple #[.int .i64 0,.int .i64 E]) (by simp[results,results187,go_sem]) rfl ⟨0,rfl,I2.bel,fun h=>absurd h hE⟩
theorem Ua(a:OA)(l c:Nat)(n:Int)(W:Wd):yO 171 #[.agg #[.slice a l c],.int .i64 n] W fun e w' => e=.returned (.tuple #[.int .i64 n,.int .i64 0])/\Below W.heap.size W w' := by
 go_enter func171,ntmps171
 go_wp2
 exact yz (v:=.tuple #[.int .i64 n,.int .i64 0]) (by simp[results,results171,go_sem]) rfl ⟨rfl,aB _ _⟩
theorem Ub(a:OA)(c:Nat)(G:List Cl)(k:Nat)(W:Wd)(F:aO W a G)(J:k<G.length)(hl:G.length<=24):yO 172 #[.agg #[.slice a G.length c],.int .i64 (k:Int)] W fun e w' => e=.returned (.tuple #[.int .i64 (cl G k).n,.int .i64 0])/\Below W.heap.size W w' := by
 obtain⟨b,o,rfl,c0,_⟩:=F k J;obtain⟨l,E⟩:∃ l,G.length=l:=⟨_,rfl⟩;rw[E] at J hl |-;clear E F;obtain⟨Q,I⟩:∃ Q:Int,(l:Int)-1=Q:=⟨_,rfl⟩;have T:IntKind.i64.wrap ((l:Int)-1)=Q:=by rw[yK,<- I];omega
 have D:Hid (∀ W,Calls _ _ _ _ _):=fun W=>wH (k:Int) 0 Q W oaa oaa;have O:(k:Int)<(l:Int):=oaa
 have M:=yi _ _ c0;clear I
 go_enter func172,ntmps172
 go_wp2_with fail
 refine yj (D _) ?_;rintro e w1 ⟨rfl,hw⟩;subst hw
 go_wp2
 exact yz (v:=.tuple #[.int .i64 (cl G k).n,.int .i64 0]) (by simp[results,results172,go_sem]) rfl ⟨rfl,aB _ _⟩
theorem Uc(a:OA)(l c:Nat)(n:Int)(W:Wd)(hn:¬ (0<=n/\n<l))(hl:l<=24):yO 172 #[.agg #[.slice a l c],.int .i64 n] W fun e w' => e=.returned (.tuple #[.int .i64 0,.int .i64 4])/\Below W.heap.size W w' := by
 obtain⟨Q,E⟩:∃ Q:Int,(l:Int)-1=Q:=⟨_,rfl⟩;have F:IntKind.i64.wrap ((l:Int)-1)=Q:=by rw[yK,<- E];omega
 have D:Hid (∀ W,Calls _ _ _ _ _):=fun W=>zX n 0 Q W oaa;clear E hn
 go_enter func172,ntmps172
 go_wp2_with fail
 refine yj (D _) ?_;rintro e w1 ⟨rfl,hw⟩;subst hw
 go_wp2
 exact yz (v:=.tuple #[.int .i64 0,.int .i64 4]) (by simp[results,results172,go_sem]) rfl ⟨rfl,aB _ _⟩
theorem NJ(F:Nat)(eg:∀ args w,(callFunc F args).run prog w=.ok (.enter F args) w)(O:Nat)(w:Wd)(hc:w.cell? ⟨O,0,none⟩=some (.func (.func F) #[] #[]))(R:Rl)(x:Ac)(hl:R.hs.length=16)(hb:¬ isH x.b):iK 191 #[.pointer (some ⟨O,0,none⟩)] w R x (bad 4):=fun d h g A V I=>by
 rw[(JS 4).2.2];obtain⟨a0,a1,a2,a3,c0,c1,c2,c3⟩:=A;obtain⟨xk,xa,Z,xc,xn⟩:=x;have k0:=(I.bel.cell (yi _ _ hc)).trans hc;obtain⟨l0,l1,l2,l3,fz,lt⟩:=aV I.box;dsimp only at l0 l1 l2 l3;have b2:d<V.heap.size:=lt;have b1:O<V.heap.size:=yi _ _ k0;have II:Hid (WI w R d h g _ V):=I;have DH:Hid (∀ W,Calls _ _ _ _ _):=fun W=>sP ⟨a0,a1,a2,a3,c0,c1,c2,c3⟩ R Z W hl;dsimp only[rlV] at DH;show yO _ #[.pointer (some ⟨d,0,none⟩),.agg #[.int .i64 xk,.int .i64 xa,.int .i64 Z,.int .i64 xc,.int .i64 xn],.pointer (some ⟨O,0,none⟩)] V _;rw[yH hb] at DH;clear hl I hc hb;generalize R.s.length=ns at *;generalize R.hs.length=nh at *;generalize R.i.length=ni at *;generalize R.t.length=nt at *
 go_enter func191,ntmps191
 go_upto_region 1 with fail
 obtain⟨D,E⟩:∃ D,V.alloc (.cells #[.int .i64 xk,.int .i64 xa,.int .i64 Z,.int .i64 xc,.int .i64 xn] 36)=D:=⟨_,rfl⟩;have M:Hid (Bl V D):=by rw[<- E];exact aB _ _
 have y0:D.cell? ⟨V.heap.size,0,none⟩=some (.int .i64 xk):=by rw[<- E];exact aK _ _ _ 0 rfl
 have y1:D.cell? ⟨V.heap.size,1,none⟩=some (.int .i64 xa):=by rw[<- E];exact aK _ _ _ 1 rfl
 have y2:D.cell? ⟨V.heap.size,2,none⟩=some (.int .i64 Z):=by rw[<- E];exact aK _ _ _ 2 rfl
 have y3:D.cell? ⟨V.heap.size,3,none⟩=some (.int .i64 xc):=by rw[<- E];exact aK _ _ _ 3 rfl
 have y4:D.cell? ⟨V.heap.size,4,none⟩=some (.int .i64 xn):=by rw[<- E];exact aK _ _ _ 4 rfl
 have sV:V.heap.size<D.heap.size:=yi _ _ y0;rw[E];clear E;replace l0:=aA l0 M;replace l1:=aA l1 M;replace l2:=aA l2 M;replace l3:=aA l3 M;replace k0:=aA k0 M;have n0:¬ D.heap.size=d:=oaa
 have o0:¬ d=D.heap.size:=oaa
 have n2:¬ D.heap.size=O:=oaa
 have o2:¬ O=D.heap.size:=oaa
 have n3:¬ D.heap.size=V.heap.size:=oaa
 have o3:¬ V.heap.size=D.heap.size:=oaa
 have b3:d<D.heap.size:=oaa
 have a5:O<D.heap.size:=oaa
 clear fz lt
 go_region_held3 (fun J=>J.cell? ⟨d,0,none⟩=some (.slice a0 ns c0)/\J.cell? ⟨d,1,none⟩=some (.slice a1 nh c1)/\J.cell? ⟨d,2,none⟩=some (.slice a2 ni c2)/\J.cell? ⟨d,3,none⟩=some (.slice a3 nt c3)/\J.cell? ⟨V.heap.size,2,none⟩=some (.int .i64 Z)) (go_keep) (first|(go_at_call 161;refine yj (DH D.drew) ?_;rintro e w3 ⟨rfl,U⟩;have T:Hid (Bl D w3):=(yv _ _).drew.trans U;have a6:=aA l0 T;have a7:=aA l1 T;have a8:=aA l2 T;have a9:=aA l3 T;have b0:=aA y2 T;clear U))
 have I2:Hid _:=II.below (M.trans (T.mono M.size))
 go_wp2
 exact yz (v:=.tuple #[.int .i64 0,.int .i64 4]) (by simp[results,results191,go_sem]) rfl ⟨0,rfl,I2.bel,fun hE=>absurd hE oae⟩
theorem NK(F:Nat)(eg:∀ args w,(callFunc F args).run prog w=.ok (.enter F args) w)(Z:Nat)(w:Wd)(hc:w.cell? ⟨Z,0,none⟩=some (.func (.func F) #[] #[]))(R:Rl)(x:Ac)(hl:R.hs.length=16)(hb:isH x.b)(q:Rs)(hF:iK F #[] w R x q):iK 191 #[.pointer (some ⟨Z,0,none⟩)] w R x q:=fun d h g A V I=>by
 have D:Hid (∀ T,WI w R d h g A T->yO F #[.pointer (some ⟨d,0,none⟩),acV x] T fun e T=>∃ o:Int,e=.returned (.tuple #[.int .i64 o,.int .i64 q.e])/\Below w.heap.size w T/\(q.e=0->o=q.o/\∃ B:RA,T.heap[d]?=some (bxR B q.r)/\RlF w.heap.size d T B q.r)):=fun T I' => hF d h g A T I';clear hF;dsimp only[acV] at D;obtain⟨a0,a1,a2,a3,c0,c1,c2,c3⟩:=A;obtain⟨xk,xa,xb,xc,xn⟩:=x;have k0:=(I.bel.cell (yi _ _ hc)).trans hc;obtain⟨l0,l1,l2,l3,fz,lt⟩:=aV I.box;dsimp only at l0 l1 l2 l3;have b7:d<V.heap.size:=lt;have b6:Z<V.heap.size:=yi _ _ k0;have II:Hid (WI w R d h g _ V):=I;have DH:Hid (∀ W,Calls _ _ _ _ _):=fun W=>sP ⟨a0,a1,a2,a3,c0,c1,c2,c3⟩ R xb W hl;dsimp only[rlV] at DH;show yO _ #[.pointer (some ⟨d,0,none⟩),.agg #[.int .i64 xk,.int .i64 xa,.int .i64 xb,.int .i64 xc,.int .i64 xn],.pointer (some ⟨Z,0,none⟩)] V _;rw[yI hb] at DH;clear hl I hc hb;generalize R.s.length=ns at *;generalize R.hs.length=nh at *;generalize R.i.length=ni at *;generalize R.t.length=nt at *
 go_enter func191,ntmps191
 go_upto_region 1 with fail
 obtain⟨E,J⟩:∃ E,V.alloc (.cells #[.int .i64 xk,.int .i64 xa,.int .i64 xb,.int .i64 xc,.int .i64 xn] 36)=E:=⟨_,rfl⟩;have U:Hid (Bl V E):=by rw[<- J];exact aB _ _
 have y0:E.cell? ⟨V.heap.size,0,none⟩=some (.int .i64 xk):=by rw[<- J];exact aK _ _ _ 0 rfl
 have y1:E.cell? ⟨V.heap.size,1,none⟩=some (.int .i64 xa):=by rw[<- J];exact aK _ _ _ 1 rfl
 have y2:E.cell? ⟨V.heap.size,2,none⟩=some (.int .i64 xb):=by rw[<- J];exact aK _ _ _ 2 rfl
 have y3:E.cell? ⟨V.heap.size,3,none⟩=some (.int .i64 xc):=by rw[<- J];exact aK _ _ _ 3 rfl
 have y4:E.cell? ⟨V.heap.size,4,none⟩=some (.int .i64 xn):=by rw[<- J];exact aK _ _ _ 4 rfl
 have sV:V.heap.size<E.heap.size:=yi _ _ y0;rw[J];clear J;replace l0:=aA l0 U;replace l1:=aA l1 U;replace l2:=aA l2 U;replace l3:=aA l3 U;replace k0:=aA k0 U;have n0:¬ E.heap.size=d:=oaa
 have o0:¬ d=E.heap.size:=oaa
 have n2:¬ E.heap.size=Z:=oaa
 have o2:¬ Z=E.heap.size:=oaa
 have n3:¬ E.heap.size=V.heap.size:=oaa
 have o3:¬ V.heap.size=E.heap.size:=oaa
 have b8:d<E.heap.size:=oaa
 have b5:Z<E.heap.size:=oaa
 clear fz lt
 go_region_held3 (fun O=>O.cell? ⟨d,0,none⟩=some (.slice a0 ns c0)/\O.cell? ⟨d,1,none⟩=some (.slice a1 nh c1)/\O.cell? ⟨d,2,none⟩=some (.slice a2 ni c2)/\O.cell? ⟨d,3,none⟩=some (.slice a3 nt c3)/\O.cell? ⟨V.heap.size,2,none⟩=some (.int .i64 xb)) (go_keep) (first|(go_at_call 161;refine yj (DH E.drew) ?_;rintro e w3 ⟨rfl,a5⟩;have M:Hid (Bl E w3):=(yv _ _).drew.trans a5;have b0:=aA l0 M;have b1:=aA l1 M;have b2:=aA l2 M;have b3:=aA l3 M;have b4:=aA y2 M;clear a5))
 have I2:Hid _:=II.below (U.trans (M.mono U.size));replace k0:=aA k0 M;replace y0:=aA y0 M;replace y1:=aA y1 M;replace y2:=aA y2 M;replace y3:=aA y3 M;replace y4:=aA y4 M;clear b0 b1 b2 b3 b4 l0 l1 l2 l3
 go_wp2_with fail
 refine yj (D _ I2.out) ?_;rintro e V5 ⟨o,rfl,a6,a7⟩;have a8:Hid _:=a6;have a9:Hid _:=a7;clear a6 a7 D II I2
 go_wp2
 exact yz (v:=.tuple #[.int .i64 o,.int .i64 q.e]) (by simp[results,results191,go_sem]) rfl ⟨o,rfl,a8.out,a9.out⟩
theorem YM(F:Nat)(W:Wd):yO 166 #[.func (.func F) #[] #[]] W fun e w' => e=.returned (.func (.func 183) #[] #[.pointer (some ⟨W.heap.size,0,none⟩)])/\Below W.heap.size W w' /\ w'.cell? ⟨W.heap.size,0,none⟩=some (.func (.func F) #[] #[]):=by
 go_enter func166,ntmps166
 go_wp2
 go_ret;exact⟨rfl,aB _ _,aK _ _ _ 0 rfl⟩
theorem YN(F:Nat)(W:Wd):yO 170 #[.func (.func F) #[] #[]] W fun e w' => e=.returned (.func (.func 187) #[] #[.pointer (some ⟨W.heap.size,0,none⟩)])/\Below W.heap.size W w' /\ w'.cell? ⟨W.heap.size,0,none⟩=some (.func (.func F) #[] #[]):=by
 go_enter func170,ntmps170
 go_wp2
 go_ret;exact⟨rfl,aB _ _,aK _ _ _ 0 rfl⟩
theorem YO(F:Nat)(W:Wd):yO 173 #[.func (.func F) #[] #[]] W fun e w' => e=.returned (.func (.func 188) #[] #[.pointer (some ⟨W.heap.size,0,none⟩)])/\Below W.heap.size W w' /\ w'.cell? ⟨W.heap.size,0,none⟩=some (.func (.func F) #[] #[]):=by
 go_enter func173,ntmps173
 go_wp2
 go_ret;exact⟨rfl,aB _ _,aK _ _ _ 0 rfl⟩
theorem NL(F:Nat)(W:Wd):yO 176 #[.func (.func F) #[] #[]] W fun e w' => e=.returned (.func (.func 191) #[] #[.pointer (some ⟨W.heap.size,0,none⟩)])/\Below W.heap.size W w' /\ w'.cell? ⟨W.heap.size,0,none⟩=some (.func (.func F) #[] #[]):=by
 go_enter func176,ntmps176
 go_wp2
 go_ret;exact⟨rfl,aB _ _,aK _ _ _ 0 rfl⟩
theorem ZI(w:Wd):(zeroValue 199).run prog w=.ok (.agg #[.bool false,.int .i64 0,.bool false]) w:=oad
theorem Wz(a:OA)(c:Nat)(L:List Fr)(f t x:Int)(w:Wd)(hN:L.length<=9223372036854775807)(hL:aS w a L)(hE:mY L [f,t]≠0) :
  yO 137 #[.slice a L.length c,.int .i64 f,.int .i64 t,.int .i64 x] w fun e w' => e=.returned (.int .i64 (bG L f t x))/\Below w.heap.size w w' := by
 have a6:∀ w:World,(Instr.index 197 (.agg #[.int .i64 f,.int .i64 t]) (.int .i64 0)).run prog w=.ok (.int .i64 f) w:=fun _=>oad
 have a7:∀ w:World,(Instr.index 197 (.agg #[.int .i64 f,.int .i64 t]) (.int .i64 1)).run prog w=.ok (.int .i64 t) w:=fun _=>oad
 have D:Hid _:=xY a c L w hN hL;have D1:Hid (∀ W,aS W a L->_):=fun W hW=>sF a c L f W hN hW;have D2:Hid (∀ W,aS W a L->_):=fun W hW=>sF a c L t W hN hW;have HL:Hid (aS w a L):=hL;clear hL;by_cases h1:bS L=0
 ·by_cases T:bC L f=0
  ·have U:bC L t≠0:=fun U=>hE (UZ h1 T U);rw[Kv h1 T U];rw[h1] at D;rw[T] at D1;clear h1 T hE;generalize bC L t=F at *;have Z:(F == 0)=false:=(by simp[U]);have a5:decide (F=0)=false:=yH U;generalize L.length=n at *
   go_enter func137,ntmps137
   go_wp2_with fail
   refine yj D.out ?_;rintro e w1 ⟨rfl,I⟩;have E:Hid (Bl w w1):=I;clear I
   go_wp2_with fail
   go_loopg [23] 2 (fun g s23 wr=>∃ k:Nat,k<=1/\2-k<=g/\s23=.int .i64 k/\wr=w1)
   case atStart=>exact⟨0,oaa,oaa,rfl,rfl⟩
   case round =>
    obtain⟨k,hk,hg,rfl,M⟩:=hrel;have O:=M.symm;clear M;subst O;obtain rfl|rfl:k=0\/k=1:=oaa
    ·go_wp2_with fail
     refine yj (D1 _ (HL.below E)) ?_;rintro e w2 ⟨rfl,J⟩;subst J
     go_wp2_with fail
     go_roundg 1
     case measure=>omega
     case rel=>exact⟨1,oaa,oaa,by go_num,rfl⟩
    ·go_wp2_with fail
     refine yj (D2 _ (HL.below E)) ?_;rintro e w2 ⟨rfl,J⟩;subst J
     go_wp2_with fail
     go_ret;exact⟨rfl,E.out⟩
  ·rw[Ku h1 T];rw[h1] at D;clear h1 hE;generalize bC L f=F at *;have Z:(F == 0)=false:=(by simp[T]);have a5:decide (F=0)=false:=yH T;generalize L.length=n at *
   go_enter func137,ntmps137
   go_wp2_with fail
   refine yj D.out ?_;rintro e w1 ⟨rfl,I⟩;have E:Hid (Bl w w1):=I;clear I
   go_wp2_with fail
   go_loopg [23] 2 (fun g s23 wr=>∃ k:Nat,k<=0/\2-k<=g/\s23=.int .i64 k/\wr=w1)
   case atStart=>exact⟨0,oaa,oaa,rfl,rfl⟩
   case round =>
    obtain⟨k,hk,hg,rfl,M⟩:=hrel;have O:=M.symm;clear M;subst O;obtain rfl:k=0:=oaa
    go_wp2_with fail
    refine yj (D1 _ (HL.below E)) ?_;rintro e w2 ⟨rfl,J⟩;subst J
    go_wp2_with fail
    go_ret;exact⟨rfl,E.out⟩
 ·rw[Kt h1];clear hE;generalize bS L=F at *;have Z:(F == 0)=false:=by simp[h1]
  have a5:decide (F=0)=false:=yH h1;generalize L.length=n at *
  go_enter func137,ntmps137
  go_wp2_with fail
  refine yj D.out ?_;rintro e w1 ⟨rfl,I⟩;have E:Hid (Bl w w1):=I;clear I
  go_wp2_with fail
  go_ret;exact⟨rfl,E.out⟩
theorem Xa(a:OA)(c:Nat)(L:List Fr)(f t x:Int)(w:Wd)(hx:(Lit.int .i64 x).wf=true)(hN:L.length<=9223372036854775807)(hL:aS w a L)(hE:mY L [f,t]=0) :
  yO 137 #[.slice a L.length c,.int .i64 f,.int .i64 t,.int .i64 x] w fun e w' => e=.returned (.int .i64 (bG L f t x))/\Below w.heap.size w w' := by
 obtain⟨h1,h2,h3⟩:=UY hE;have R:=xW.1 h1;rw[Kw h1 h2 h3];obtain⟨p,rfl,hp,_⟩:=DU h2;obtain⟨q,rfl,hq,_⟩:=DU h3;have b1:∀ w:World,(Instr.index 197 (.agg #[.int .i64 (p:Int),.int .i64 (q:Int)]) (.int .i64 0)).run prog w=.ok (.int .i64 (p:Int)) w:=fun _=>oad
 have b2:∀ w:World,(Instr.index 197 (.agg #[.int .i64 (p:Int),.int .i64 (q:Int)]) (.int .i64 1)).run prog w=.ok (.int .i64 (q:Int)) w:=fun _=>oad
 have D:Hid _:=xY a c L w hN hL;have D1:Hid (∀ W,aS W a L->_):=fun W hW=>sF a c L p W hN hW;have D2:Hid (∀ W,aS W a L->_):=fun W hW=>sF a c L q W hN hW;have D4:Hid (∀ M nd O W,aS W a L->_):=fun M nd O W hW=>Wx a c L p q M nd O W (by have:=R.few;omega) hW hp hq;have HL:Hid (aS w a L):=hL;rw[h1] at D;rw[h2] at D1;rw[h3] at D2;have LA:Hid (∀ M nd O,pG x=some (M,nd,O)->yP L p q M nd O=mI L p q x):=fun M nd O h=>Kr R hp h;clear hL h1 h2 h3 hE;have a9:=R.few;generalize mI L p q x=A at *;obtain⟨n,hn⟩:∃ n,L.length=n:=⟨_,rfl⟩;rw[hn] at D D1 D2 D4 hp hq hN a9 |-;clear hn;by_cases hr:1<=x/\x<=5
 ·rw[yd (yL hr)]
  obtain⟨⟨M,nd,O⟩,a7⟩:∃ r,pG x=some r:=by
   cases h:pG x with
   | none=>exact absurd hr (KT.1 h)
   | some r=>exact⟨r,rfl⟩
  have D5:Hid (∀ W,aS W a L->_):=fun W hW=>D4.out M nd O W hW;rw[LA.out M nd O a7] at D5;have HR:Hid (iM 5 (.int .i64 x)=some (rv (M,nd,O))):=(by rw[ZG,ye hr.2,a7];rfl:iM 5 (.int .i64 x)=some (rv (M,nd,O)));clear D4 LA a7 hr;cases A
  all_goals
   simp only[if_true,if_false,Bool.false_eq_true]
   go_enter func137,ntmps137
   go_wp2_with fail
   refine yj D.out ?_;rintro e w1 ⟨rfl,T⟩;have F:Hid (Bl w w1):=T;clear T
   go_wp2_with fail
   go_loopg [23] 2 (fun g s23 wr=>∃ k:Nat,k<=2/\2-k<=g/\s23=.int .i64 k/\wr=w1)
   case atStart=>exact⟨0,oaa,oaa,rfl,rfl⟩
   case round =>
    obtain⟨k,hk,hg,rfl,Z⟩:=hrel;have a5:=Z.symm;clear Z;subst a5;obtain rfl|rfl|rfl:k=0\/k=1\/k=2:=oaa
    ·go_wp2_with fail
     refine yj (D1 _ (HL.below F)) ?_;rintro e w2 ⟨rfl,I⟩;subst I
     go_wp2_with fail
     go_roundg 1
     case measure=>omega
     case rel=>exact⟨1,oaa,oaa,by go_num,rfl⟩
    ·go_wp2_with fail
     refine yj (D2 _ (HL.below F)) ?_;rintro e w2 ⟨rfl,I⟩;subst I
     go_wp2_with fail
     go_roundg 0
     case measure=>omega
     case rel=>exact⟨2,oaa,oaa,by go_num,rfl⟩
    ·go_wp2_with fail
     refine yj (ZH _) ?_;rintro e w2 ⟨b,rfl,hm,U⟩;have E:=hm.look_ok (Maps.int_keyed underlying3) (t:=201) underlying201 (ZI w2) (tC hx) trivial;rw[HR.out] at E;dsimp only[Option.getD,Option.isSome,rv] at E;have J:Hid (Bl w w2):=F.trans (U.mono F.size);clear hm U
     go_wp2_with fail
     have a6:∀ o:Obj,Bl w (w2.alloc o):=fun o=>J.alloc J.size o;refine yj (D5 _ (HL.below (a6 _))) ?_;rintro e w3 ⟨rfl,a8⟩;have b0:Hid (Bl w w3):=(a6 _).trans (a8.mono (a6 _).size);clear a6 a8
     go_wp2_with fail
     go_ret;exact⟨rfl,b0.out⟩
 ·rw[ye hr];have HR:Hid (iM 5 (.int .i64 x)=none):=(by rw[ZG,KT.2 hr];split <;> rfl:iM 5 (.int .i64 x)=none);clear D4 LA hr
  go_enter func137,ntmps137
  go_wp2_with fail
  refine yj D.out ?_;rintro e w1 ⟨rfl,T⟩;have F:Hid (Bl w w1):=T;clear T
  go_wp2_with fail
  go_loopg [23] 2 (fun g s23 wr=>∃ k:Nat,k<=2/\2-k<=g/\s23=.int .i64 k/\wr=w1)
  case atStart=>exact⟨0,oaa,oaa,rfl,rfl⟩
  case round =>
   obtain⟨k,hk,hg,rfl,Z⟩:=hrel;have a5:=Z.symm;clear Z;subst a5;obtain rfl|rfl|rfl:k=0\/k=1\/k=2:=oaa
   ·go_wp2_with fail
    refine yj (D1 _ (HL.below F)) ?_;rintro e w2 ⟨rfl,I⟩;subst I
    go_wp2_with fail
    go_roundg 1
    case measure=>omega
    case rel=>exact⟨1,oaa,oaa,by go_num,rfl⟩
   ·go_wp2_with fail
    refine yj (D2 _ (HL.below F)) ?_;rintro e w2 ⟨rfl,I⟩;subst I
    go_wp2_with fail
    go_roundg 0
    case measure=>omega
    case rel=>exact⟨2,oaa,oaa,by go_num,rfl⟩
   ·go_wp2_with fail
    refine yj (ZH _) ?_;rintro e w2 ⟨b,rfl,hm,U⟩;have E:=hm.look_ok (Maps.int_keyed underlying3) (t:=201) underlying201 (ZI w2) (tC hx) trivial;rw[HR.out] at E;dsimp only[Option.getD,Option.isSome] at E;have J:Hid (Bl w w2):=F.trans (U.mono F.size);clear hm U
    go_wp2_with fail
    go_ret;exact⟨rfl,J.alloc J.size _⟩
theorem Xb(a:OA)(c:Nat)(L:List Fr)(f t x:Int)(w:Wd)(F:(Lit.int .i64 x).wf=true)(E:L.length<=9223372036854775807)(D:aS w a L) :
  yO 137 #[.slice a L.length c,.int .i64 f,.int .i64 t,.int .i64 x] w fun e w' => e=.returned (.int .i64 (bG L f t x))/\Below w.heap.size w w' := by
 by_cases h:mY L [f,t]=0
 ·exact Xa a c L f t x w F E D h
 ·exact Wz a c L f t x w E D h
