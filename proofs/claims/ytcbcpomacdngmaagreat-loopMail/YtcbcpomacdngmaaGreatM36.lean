/-
  x
-/
import Derived.Test.YtcbcpomacdngmaaGreatM34
import Derived.Test.YtcbcpomacdngmaaGreatM35
namespace Go.Proofs.YtcbcpomacdngmaaGreat
set_option maxRecDepth 100000
set_option maxHeartbeats 4000000
set_option linter.unusedVariables false
open Go.RowKit Go.ChangeShapes Go.WideShapes
theorem zyr(F:Nat)(eg:∀ args w,(callFunc F args).run Tryz.prog w=.ok (.enter F args) w)(O:Nat)(w:World)(hc:w.cell? ⟨O,0,none⟩=some (.func (.func F) #[] #[]))(R:Rl)(x:Ac)(wf:WF R.s)(hl:R.hs.length=16)(ha:isH x.a)(T n:Int)(e0:T≠0)
  (hF:∀ (a:Option Addr) (c:Nat) (W:World),zaF W a R.i->yL F #[.agg #[.slice a R.i.length c],.int .i64 x.n] W fun e w' => e=.returned (.tuple #[.int .i64 n,.int .i64 T])/\Below W.heap.size W w') :
  zme 187 #[.pointer (some ⟨O,0,none⟩)] w R x (bad T):=fun d h g A V I=>by
 rw[(znL T).2.2];have hz:(T == 0)=false:=by simp[e0]
 obtain⟨a0,a1,a2,a3,c0,c1,c2,c3⟩:=A;obtain rfl:a0=some ⟨g,0,none⟩:=I.a0;obtain rfl:a1=some ⟨h,0,none⟩:=I.a1;obtain⟨xk,xa,xb,xc,xn⟩:=x;obtain⟨p,hp,a8⟩:=zmh ha;dsimp only at hp;subst hp;obtain⟨u0,u1⟩:=I.hand (k:=p) (by omega);have II:Hid (WI w R d h g _ V):=I;have D:Hid (∀ W,Below V.heap.size V W->yL 14 #[.agg #[.slice (some ⟨g,0,none⟩) R.s.length c0],.agg #[.int .i64 (hd R (p:Int)).1,.int .i64 (hd R (p:Int)).2]] W fun e w' => ∃ (x:Nd) (ka:Option Addr) (kl kc:Nat),e=.returned (.tuple #[.agg #[.bool x.u,.int .i64 x.n,.int .i64 x.t,.int .i64 x.m,.int .i64 x.p,.slice ka kl kc,.int .i64 x.h,.bool x.c],.int .i64 (zaC R.s (hd R (p:Int)).1 (hd R (p:Int)).2)])/\Below W.heap.size W w' /\(zaC R.s (hd R (p:Int)).1 (hd R (p:Int)).2=0->x=nd R.s (hd R (p:Int)).1.toNat)/\(zaC R.s (hd R (p:Int)).1 (hd R (p:Int)).2≠0->x=zhj)):=fun W hW=>zeC R.s _ _ _ c0 W wf (I.nds.below hW);have DF:Hid (∀ W,Below V.heap.size V W->yL F #[.agg #[.slice a2 R.i.length c2],.int .i64 xn] W fun e w' => e=.returned (.tuple #[.int .i64 n,.int .i64 T])/\Below W.heap.size W w'):=fun W hW=>hF a2 c2 W (I.cls.at.below hW);clear hF;have k0:=(I.bel.cell (yd _ _ hc)).trans hc;obtain⟨l0,l1,l2,l3,fz,lt⟩:=zai I.box;dsimp only at l0 l1 l2 l3;rw[hl] at l1;have b5:d<V.heap.size:=lt;have b6:h<V.heap.size:=yd _ _ u0;have b4:O<V.heap.size:=yd _ _ k0;have b7:(p:Int)<16:=by omega
 show yL _ #[.pointer (some ⟨d,0,none⟩),.agg #[.int .i64 xk,.int .i64 p,.int .i64 xb,.int .i64 xc,.int .i64 xn],.pointer (some ⟨O,0,none⟩)] V _;obtain⟨ns,a7⟩:∃ n,R.s.length=n:=⟨_,rfl⟩;have b0:Hid (R.s.length=ns):=a7;clear ha hl;generalize hd R (p:Int)=hh at *;obtain⟨P,U⟩:=hh;dsimp only at u0 u1 D |-;obtain⟨ni,a6⟩:∃ n,R.i.length=n:=⟨_,rfl⟩;rw[a6] at DF l2;clear a6 hc;clear a7 I
 go_enter Tryz.func187,Tryz.ntmps187
 go_upto_region 1 with fail
 obtain⟨E,J⟩:∃ E,V.alloc (.cells #[.int .i64 xk,.int .i64 p,.int .i64 xb,.int .i64 xc,.int .i64 xn] 36)=E:=⟨_,rfl⟩;have M:Hid (Below V.heap.size V E):=by rw[<- J];exact zaa _ _
 have y0:E.cell? ⟨V.heap.size,0,none⟩=some (.int .i64 xk):=by rw[<- J];exact zad _ _ _ 0 rfl
 have y1:E.cell? ⟨V.heap.size,1,none⟩=some (.int .i64 p):=by rw[<- J];exact zad _ _ _ 1 rfl
 have y2:E.cell? ⟨V.heap.size,2,none⟩=some (.int .i64 xb):=by rw[<- J];exact zad _ _ _ 2 rfl
 have y3:E.cell? ⟨V.heap.size,3,none⟩=some (.int .i64 xc):=by rw[<- J];exact zad _ _ _ 3 rfl
 have y4:E.cell? ⟨V.heap.size,4,none⟩=some (.int .i64 xn):=by rw[<- J];exact zad _ _ _ 4 rfl
 have sV:V.heap.size<E.heap.size:=yd _ _ y0;rw[J];clear J;replace u0:=zab u0 M.out;replace u1:=zab u1 M.out;replace l0:=zab l0 M.out;replace l1:=zab l1 M.out;replace l2:=zab l2 M.out;replace l3:=zab l3 M.out;replace k0:=zab k0 M.out;have n0:¬ E.heap.size=d:=by omega
 have o0:¬ d=E.heap.size:=by omega
 have n1:¬ E.heap.size=h:=by omega
 have o1:¬ h=E.heap.size:=by omega
 have n2:¬ E.heap.size=O:=by omega
 have o2:¬ O=E.heap.size:=by omega
 have n3:¬ E.heap.size=V.heap.size:=by omega
 have o3:¬ V.heap.size=E.heap.size:=by omega
 have b8:d<E.heap.size:=by omega
 have b9:h<E.heap.size:=by omega
 have a9:O<E.heap.size:=by omega
 clear fz lt
 go_region_held3 (fun Z=>Z.cell? ⟨O,0,none⟩=some (.func (.func F) #[] #[])/\Z.cell? ⟨d,2,none⟩=some (.slice a2 ni c2)/\Z.cell? ⟨V.heap.size,4,none⟩=some (.int .i64 xn)) (go_keep) (first|(refine ye (DF.out E.drew M.out.drew) ?_;rintro e w2 ⟨rfl,a5⟩;have B2:Hid (Below E.heap.size E w2):=(yk _ _).drew.trans a5;have b1:=zab k0 B2.out;have b2:=zab l2 B2.out;have b3:=zab y4 B2.out;clear a5))
 have I2:Hid _:=II.out.below (M.out.trans (B2.out.mono M.out.size))
 go_wp2
 exact yv (v:=.tuple #[.int .i64 0,.int .i64 T]) (by simp[results,Tryz.results187,go_sem]) rfl ⟨0,rfl,I2.out.bel,fun hE=>absurd hE e0⟩
theorem zpu(F:Nat)(eg:∀ args w,(callFunc F args).run Tryz.prog w=.ok (.enter F args) w)(cb:Nat)(w:World)(hc:w.cell? ⟨cb,0,none⟩=some (.func (.func F) #[] #[]))(R:Rl)(x:Ac)(wf:WF R.s)(hl:R.hs.length=16)(ha:isH x.a)(n:Int)
  (hF:∀ (a:Option Addr) (c:Nat) (W:World),zaF W a R.i->yL F #[.agg #[.slice a R.i.length c],.int .i64 x.n] W fun e w' => e=.returned (.tuple #[.int .i64 n,.int .i64 0])/\Below W.heap.size W w') :
  zme 187 #[.pointer (some ⟨cb,0,none⟩)] w R x (zxg R (hd R x.a) n):=fun d h g A V I=>by
 unfold zxg;rw[zlg];obtain⟨a0,a1,a2,a3,c0,c1,c2,c3⟩:=A;obtain rfl:a0=some ⟨g,0,none⟩:=I.a0;obtain rfl:a1=some ⟨h,0,none⟩:=I.a1;obtain⟨xk,xa,xb,xc,xn⟩:=x;obtain⟨p,hp,d9⟩:=zmh ha;dsimp only at hp;subst hp;obtain⟨u0,u1⟩:=I.hand (k:=p) (by omega);have II:Hid (WI w R d h g _ V):=I;have D:Hid (∀ W,Below V.heap.size V W->yL 14 #[.agg #[.slice (some ⟨g,0,none⟩) R.s.length c0],.agg #[.int .i64 (hd R (p:Int)).1,.int .i64 (hd R (p:Int)).2]] W fun e w' => ∃ (x:Nd) (ka:Option Addr) (kl kc:Nat),e=.returned (.tuple #[.agg #[.bool x.u,.int .i64 x.n,.int .i64 x.t,.int .i64 x.m,.int .i64 x.p,.slice ka kl kc,.int .i64 x.h,.bool x.c],.int .i64 (zaC R.s (hd R (p:Int)).1 (hd R (p:Int)).2)])/\Below W.heap.size W w' /\(zaC R.s (hd R (p:Int)).1 (hd R (p:Int)).2=0->x=nd R.s (hd R (p:Int)).1.toNat)/\(zaC R.s (hd R (p:Int)).1 (hd R (p:Int)).2≠0->x=zhj)):=fun W hW=>zeC R.s _ _ _ c0 W wf (I.nds.below hW);have DF:Hid (∀ W,Below V.heap.size V W->yL F #[.agg #[.slice a2 R.i.length c2],.int .i64 xn] W fun e w' => e=.returned (.tuple #[.int .i64 n,.int .i64 0])/\Below W.heap.size W w'):=fun W hW=>hF a2 c2 W (I.cls.at.below hW);clear hF;have k0:=(I.bel.cell (yd _ _ hc)).trans hc;obtain⟨l0,l1,l2,l3,fz,lt⟩:=zai I.box;dsimp only at l0 l1 l2 l3;rw[hl] at l1;have e8:d<V.heap.size:=lt;have e9:h<V.heap.size:=yd _ _ u0;have e7:cb<V.heap.size:=yd _ _ k0;have g4:(p:Int)<16:=by omega
 show yL _ #[.pointer (some ⟨d,0,none⟩),.agg #[.int .i64 xk,.int .i64 p,.int .i64 xb,.int .i64 xc,.int .i64 xn],.pointer (some ⟨cb,0,none⟩)] V _;obtain⟨ns,b1⟩:∃ n,R.s.length=n:=⟨_,rfl⟩;have b5:Hid (R.s.length=ns):=b1;clear ha hl;generalize hd R (p:Int)=hh at *;obtain⟨P,U⟩:=hh;dsimp only at u0 u1 D |-;obtain⟨ni,b6⟩:∃ n,R.i.length=n:=⟨_,rfl⟩;rw[b6] at DF l2;clear b6 hc;obtain⟨E,hE⟩:∃ E,zaC R.s P U=E:=⟨_,rfl⟩;have HE:Hid (zaC R.s P U=E):=hE;obtain⟨M,hM⟩:∃ M,zxr R.s P U n=M:=⟨_,rfl⟩;have HM:Hid (zxr R.s P U n=M):=hM;rw[hE] at D;rw[hM];clear hE hM;rw[b1] at D l0;clear b1 I;have DW:Hid (∀ W,Calls _ _ _ _ _):=fun W=>zaR n (-1000000) 1000000 W
 go_enter Tryz.func187,Tryz.ntmps187
 go_upto_region 1 with fail
 obtain⟨T,a6⟩:∃ T,V.alloc (.cells #[.int .i64 xk,.int .i64 p,.int .i64 xb,.int .i64 xc,.int .i64 xn] 36)=T:=⟨_,rfl⟩;have BV:Hid (Below V.heap.size V T):=by rw[<- a6];exact zaa _ _
 have y0:T.cell? ⟨V.heap.size,0,none⟩=some (.int .i64 xk):=by rw[<- a6];exact zad _ _ _ 0 rfl
 have y1:T.cell? ⟨V.heap.size,1,none⟩=some (.int .i64 p):=by rw[<- a6];exact zad _ _ _ 1 rfl
 have y2:T.cell? ⟨V.heap.size,2,none⟩=some (.int .i64 xb):=by rw[<- a6];exact zad _ _ _ 2 rfl
 have y3:T.cell? ⟨V.heap.size,3,none⟩=some (.int .i64 xc):=by rw[<- a6];exact zad _ _ _ 3 rfl
 have y4:T.cell? ⟨V.heap.size,4,none⟩=some (.int .i64 xn):=by rw[<- a6];exact zad _ _ _ 4 rfl
 have sV:V.heap.size<T.heap.size:=yd _ _ y0;rw[a6];clear a6;replace u0:=zab u0 BV.out;replace u1:=zab u1 BV.out;replace l0:=zab l0 BV.out;replace l1:=zab l1 BV.out;replace l2:=zab l2 BV.out;replace l3:=zab l3 BV.out;replace k0:=zab k0 BV.out;have n0:¬ T.heap.size=d:=by omega
 have o0:¬ d=T.heap.size:=by omega
 have n1:¬ T.heap.size=h:=by omega
 have o1:¬ h=T.heap.size:=by omega
 have n2:¬ T.heap.size=cb:=by omega
 have o2:¬ cb=T.heap.size:=by omega
 have n3:¬ T.heap.size=V.heap.size:=by omega
 have o3:¬ V.heap.size=T.heap.size:=by omega
 have b8:d<T.heap.size:=by omega
 have d8:h<T.heap.size:=by omega
 have b7:cb<T.heap.size:=by omega
 clear fz lt
 go_region_held3 (fun O=>O.cell? ⟨cb,0,none⟩=some (.func (.func F) #[] #[])/\O.cell? ⟨d,2,none⟩=some (.slice a2 ni c2)/\O.cell? ⟨V.heap.size,4,none⟩=some (.int .i64 xn)) (go_keep) (first|(refine ye (DF.out T.drew BV.out.drew) ?_;rintro e Z ⟨rfl,a5⟩;have B2:Hid (Below T.heap.size T Z):=(yk _ _).drew.trans a5;have c8:=zab k0 B2.out;have d4:=zab l2 B2.out;have d5:=zab y4 B2.out;clear a5))
 replace u0:=zab u0 B2.out;replace u1:=zab u1 B2.out;replace l0:=zab l0 B2.out;replace l1:=zab l1 B2.out;replace y1:=zab y1 B2.out;have s3:=B2.out.size;have q0:d<Z.heap.size:=by omega
 have q1:h<Z.heap.size:=by omega
 have q2:V.heap.size<Z.heap.size:=by omega
 have e0:¬ Z.heap.size=d:=by omega
 have e1:¬ Z.heap.size=h:=by omega
 have e2:¬ Z.heap.size=V.heap.size:=by omega
 have e3:¬ d=Z.heap.size:=by omega
 have e4:¬ h=Z.heap.size:=by omega
 have e5:¬ V.heap.size=Z.heap.size:=by omega
 have b4:Hid (Below V.heap.size V Z):=BV.out.trans (B2.out.mono BV.out.size);clear c8 d4 d5 k0 l2 l3 y0 y2 y3 y4 n0 n1 n2 n3 o0 o1 o2 o3 b8 d8 b7 DF B2 BV
 go_wp2_with fail
 go_region_held3 (fun O=>O.cell? ⟨d,1,none⟩=some (.slice (some ⟨h,0,none⟩) 16 c1)/\O.cell? ⟨h,p*2,none⟩=some (.int .i64 P)/\O.cell? ⟨h,p*2+1,none⟩=some (.int .i64 U)/\O.cell? ⟨V.heap.size,1,none⟩=some (.int .i64 p)) (go_keep) (fail)
 go_upto_region 5 with fail
 obtain⟨J,b0⟩:∃ J,(Z.alloc (.cells #[.int .i64 P,.int .i64 U] 61)).drew=J:=⟨_,rfl⟩;have B4:Hid (Below Z.heap.size Z J):=by rw[<- b0];exact(zaa _ _).drew
 have a7:Hid (Below V.heap.size V J):=b4.out.trans (B4.out.mono b4.out.size);have X4:Hid (J.heap[Z.heap.size]?=some (.cells #[.int .i64 P,.int .i64 U] 61 (0,0))):=by rw[<- b0];exact yK Z _
 rw[b0];clear b0;obtain⟨j0,j1,jl⟩:=zbg X4.out;replace l0:=zab l0 B4.out;have s4:=B4.out.size;have b8:d<J.heap.size:=by omega
 have n0:¬ J.heap.size=d:=by omega
 have o0:¬ d=J.heap.size:=by omega
 have n1:¬ J.heap.size=Z.heap.size:=by omega
 have o1:¬ Z.heap.size=J.heap.size:=by omega
 clear u0 u1 l1 y1 e0 e1 e2 e3 e4 e5
 go_cut [10,11] (fun s10 s11 wx=>∃ (b:Nat) (m pp:Int),s10=.pointer (some ⟨b,0,none⟩)/\s11=.int .i64 E/\Hid (Below J.heap.size J wx)/\wx.cell? ⟨b,3,none⟩=some (.int .i64 m)/\wx.cell? ⟨b,4,none⟩=some (.int .i64 pp)/\J.heap.size<=b/\Hid (E=0->m=(nd R.s P.toNat).m/\pp=(nd R.s P.toNat).p))
 case first =>
  go_region_held3 (fun O=>O.cell? ⟨d,0,none⟩=some (.slice (some ⟨g,0,none⟩) ns c0)/\O.cell? ⟨Z.heap.size,0,none⟩=some (.int .i64 P)/\O.cell? ⟨Z.heap.size,1,none⟩=some (.int .i64 U)) (go_keep) (first|(go_at_call 14;refine ye (D.out J.drew a7.out.drew) ?_;rintro e w5 ⟨nx,ka,kl,kc,rfl,a5,a9,b3⟩;have B5:Hid (Below J.heap.size J w5):=(yk _ _).drew.trans a5;have HX:Hid _:=a9;have c9:=zab l0 B5.out;have c6:=zab j0 B5.out;have c7:=zab j1 B5.out;clear a5 a9 b3)|(go_at_call 14;refine ye (D.out (J.alloc (.cells #[.bool false,.int .i64 0,.int .i64 0,.int .i64 0,.int .i64 0,.slice none 0 0,.int .i64 0,.bool false] 57)).drew (a7.out.trans ((zaa J _).mono a7.out.size)).drew) ?_;rintro e w5 ⟨nx,ka,kl,kc,rfl,a5,a9,b3⟩;have B5:Hid (Below J.heap.size J w5):=(zaa J _).drew.trans (a5.mono (by simp));have HX:Hid _:=a9;have c9:=zab l0 B5.out;have c6:=zab j0 B5.out;have c7:=zab j1 B5.out;have X3:Hid (w5.heap[J.heap.size]?=some (.cells #[.bool false,.int .i64 0,.int .i64 0,.int .i64 0,.int .i64 0,.slice none 0 0,.int .i64 0,.bool false] 57 (0,0))):=zav (W:=(J.alloc (.cells #[.bool false,.int .i64 0,.int .i64 0,.int .i64 0,.int .i64 0,.slice none 0 0,.int .i64 0,.bool false] 57)).drew) (yK J _) a5;obtain⟨z0,z1,z2,z3,z4,z5,z6,z7,zf,zl⟩:=zdk X3.out;clear a5 a9 b3))
  ·go_wp2_with fail
   go_meet
   case rel =>
    have r:=zuo nx (.slice ka kl kc) 57 (yk J.heap.size J) B5.out;exact⟨_,_,_,rfl,rfl,r.1,r.2.1,r.2.2.1,r.2.2.2,fun h=>by rw[HX.out h];exact⟨rfl,rfl⟩⟩
  ·go_wp2_with fail
   go_meet
   case rel =>
    have r:=zup nx (.slice ka kl kc) (yk J.heap.size J) B5.out X3.out;exact⟨_,_,_,rfl,rfl,r.1,r.2.1,r.2.2.1,r.2.2.2,fun h=>by rw[HX.out h];exact⟨rfl,rfl⟩⟩
 case rest =>
  obtain⟨b,m,pp,rfl,rfl,HB,hm,d7,e6,b9⟩:=hcut;have I2:Hid _:=II.out.below (a7.out.trans (HB.out.mono a7.out.size));replace j0:=zab j0 HB.out;obtain⟨m0,m1,m2,m3,mf,ml⟩:=zai I2.out.box;dsimp only at m0;rw[b5.out] at m0;clear j1 l0 II D hm d7 b9 m1 m2 m3;by_cases hE:E=0
  ·subst hE;by_cases hr:-1000000<=n/\n<=1000000
   ·obtain rfl:0=M:=by rw[<- HM.out];unfold zxr;rw[HE.out,yb rfl,yb hr]
    rw[yF hr] at DW;obtain⟨_,k,ek,hk,_⟩:=zcC HE.out;subst ek;have d6:=hk;rw[b5.out] at hk;have g0:(k:Int)<(ns:Int):=by omega
    obtain⟨r0,r1⟩:(∃ v,wc.cell? ⟨g,k*8+3,none⟩=some v)/\∀ o,wc.frozen? ⟨g,o,none⟩=false:=by
     obtain⟨_,F,hF,_⟩:=I2.out.own;exact⟨⟨_,hF.cell (by omega)⟩,hF.frozen⟩
    obtain⟨rv,r0⟩:=r0;have HS:Hid _:=I2.out.setMark d6 n rfl
    go_wp2_with fail
    refine ye (DW.out _) ?_;rintro e w6 ⟨rfl,a8⟩;have b2:=a8.symm;clear a8;subst b2
    go_wp2_with fail
    go_region
    go_wp2
    refine yv (v:=.tuple #[.int .i64 0,.int .i64 0]) (by simp[results,Tryz.results187,go_sem]) rfl ⟨0,rfl,HS.out.1.drew,?_⟩;have e2:zzb R.s (k:Int) n=R.s.set k { nd R.s k with m:=n }:=(by unfold zzb;rw[yi]);rw[zlf rfl,e2];exact⟨rfl,_,HS.out.2.1,HS.out.2.2.below (yk _ _).drew⟩
   ·obtain rfl:2=M:=by rw[<- HM.out];unfold zxr;rw[HE.out,yb rfl,ya hr]
    rw[yE hr] at DW
    go_wp2_with fail
    refine ye (DW.out _) ?_;rintro e w6 ⟨rfl,a8⟩;have b2:=a8.symm;clear a8;subst b2
    go_wp2
    exact yv (v:=.tuple #[.int .i64 0,.int .i64 2]) (by simp[results,Tryz.results187,go_sem]) rfl ⟨0,rfl,I2.out.bel,fun hE=>absurd hE (by decide)⟩
  ·obtain rfl:E=M:=by rw[<- HM.out];unfold zxr;rw[HE.out,ya hE]
   have hz:(E == 0)=false:=by simp[hE]
   go_wp2
   exact yv (v:=.tuple #[.int .i64 0,.int .i64 E]) (by simp[results,Tryz.results187,go_sem]) rfl ⟨0,rfl,I2.out.bel,fun h=>absurd h hE⟩
theorem zlM(a:Option Addr)(l c:Nat)(n:Int)(W:World):yL 171 #[.agg #[.slice a l c],.int .i64 n] W fun e w' => e=.returned (.tuple #[.int .i64 n,.int .i64 0])/\Below W.heap.size W w' := by
 go_enter Tryz.func171,Tryz.ntmps171
 go_wp2
 exact yv (v:=.tuple #[.int .i64 n,.int .i64 0]) (by simp[results,Tryz.results171,go_sem]) rfl ⟨rfl,zaa _ _⟩
theorem zjY(a:Option Addr)(c:Nat)(G:List Cl)(k:Nat)(W:World)(F:zaF W a G)(J:k<G.length)(hl:G.length<=24):yL 172 #[.agg #[.slice a G.length c],.int .i64 (k:Int)] W fun e w' => e=.returned (.tuple #[.int .i64 (cl G k).n,.int .i64 0])/\Below W.heap.size W w' := by
 obtain⟨b,o,rfl,c0,_⟩:=F k J;obtain⟨l,E⟩:∃ l,G.length=l:=⟨_,rfl⟩;rw[E] at J hl |-;clear E F;obtain⟨Q,I⟩:∃ Q:Int,(l:Int)-1=Q:=⟨_,rfl⟩;have U:IntKind.i64.wrap ((l:Int)-1)=Q:=by rw[yH,<- I];omega
 have D:Hid (∀ W,Calls _ _ _ _ _):=fun W=>zet (k:Int) 0 Q W (by omega) (by omega);have O:(k:Int)<(l:Int):=by omega
 have M:=yd _ _ c0;clear I
 go_enter Tryz.func172,Tryz.ntmps172
 go_wp2_with fail
 refine ye (D.out _) ?_;rintro e w1 ⟨rfl,T⟩;subst T
 go_wp2
 exact yv (v:=.tuple #[.int .i64 (cl G k).n,.int .i64 0]) (by simp[results,Tryz.results172,go_sem]) rfl ⟨rfl,zaa _ _⟩
theorem zli(a:Option Addr)(l c:Nat)(n:Int)(W:World)(hn:¬ (0<=n/\n<l))(hl:l<=24):yL 172 #[.agg #[.slice a l c],.int .i64 n] W fun e w' => e=.returned (.tuple #[.int .i64 0,.int .i64 4])/\Below W.heap.size W w' := by
 obtain⟨Q,E⟩:∃ Q:Int,(l:Int)-1=Q:=⟨_,rfl⟩;have I:IntKind.i64.wrap ((l:Int)-1)=Q:=by rw[yH,<- E];omega
 have D:Hid (∀ W,Calls _ _ _ _ _):=fun W=>zhi n 0 Q W (by omega);clear E hn
 go_enter Tryz.func172,Tryz.ntmps172
 go_wp2_with fail
 refine ye (D.out _) ?_;rintro e w1 ⟨rfl,F⟩;subst F
 go_wp2
 exact yv (v:=.tuple #[.int .i64 0,.int .i64 4]) (by simp[results,Tryz.results172,go_sem]) rfl ⟨rfl,zaa _ _⟩
theorem zlv(S:List Nd)(h:Int × Int)(x:Ac)(wf:WF S)(a:Option Addr)(c:Nat)(W:World)(O:zah W a S):yL 175 #[.agg #[.slice a S.length c],hdV h,acV x] W fun e w' => ∃ F I n,e=.returned (.tuple #[.slice F n I,.int .i64 (zaC S h.1 h.2)])/\Below W.heap.size W w' /\(zaC S h.1 h.2=0->n=(ziV S h.1.toNat).length):=by
 have D:Hid (∀ Z o2 o3:Obj,_):=fun Z o2 o3=>zvB S h wf a c (((W.alloc Z).alloc o2).alloc o3) (O.below (zas _ _ _ _));clear O;obtain⟨P,U⟩:=h;dsimp only[hdV,acV] at D |-;obtain⟨E,J⟩:∃ E,zaC S P U=E:=⟨_,rfl⟩;rw[J] at D |-;obtain⟨N,M⟩:∃ N,(ziV S P.toNat).length=N:=⟨_,rfl⟩;rw[M] at D |-;generalize S.length=ns at *;clear J M
 go_enter Tryz.func175,Tryz.ntmps175
 go_wp2_with fail
 refine ye (D.out _ _ _) ?_;rintro e V ⟨F,I,n,rfl,T,hn⟩;have HB:Hid (Below W.heap.size W V):=(zas W _ _ _).trans (T.mono (by simp;omega));have HN:Hid (E=0->n=N):=fun h=>by rw[hn,yb h]
 clear T hn D
 go_wp2
 exact yv (v:=.tuple #[.slice F n I,.int .i64 E]) (by simp[results,Tryz.results175,go_sem]) rfl ⟨F,I,n,rfl,HB.out,HN.out⟩
theorem zke(S:List Nd)(h:Int × Int)(x:Ac)(wf:WF S)(a:Option Addr)(c:Nat)(W:World)(Z:zah W a S):yL 174 #[.agg #[.slice a S.length c],hdV h,acV x] W fun e w' => ∃ F I n,e=.returned (.tuple #[.slice F n I,.int .i64 (zxP S h.1 h.2 [⟨x.b,x.n,false⟩])])/\Below W.heap.size W w' /\(zxP S h.1 h.2 [⟨x.b,x.n,false⟩]=0->n=(zgR S h.1.toNat [⟨x.b,x.n,false⟩]).length):=by
 have D:Hid (∀ J M o3:Obj,_):=fun J M o3=>zsz S h x.b x.n (some ⟨W.heap.size+1+1+1,0,none⟩) 1 wf a c ((((W.alloc J).alloc M).alloc o3).alloc (.cells #[.int .i64 x.b,.int .i64 x.n,.bool false] 231)) ((Z.below (zas _ _ _ _)).below (zaa _ _)) (fun i hi=>by
  obtain rfl:i=0:=by simpa using hi
  have e:(((W.alloc J).alloc M).alloc o3).heap.size=W.heap.size+1+1+1:=by simp
  refine⟨W.heap.size+1+1+1,0,rfl,?_,?_,?_⟩
  all_goals rw[<- e]
  ·exact zad _ _ _ 0 rfl
  ·exact zad _ _ _ 1 rfl
  ·exact zad _ _ _ 2 rfl)
 clear Z;obtain⟨P,U⟩:=h;obtain⟨xk,xa,xb,xc,xn⟩:=x;dsimp only[hdV,acV] at D |-;obtain⟨E,O⟩:∃ E,zxP S P U [⟨xb,xn,false⟩]=E:=⟨_,rfl⟩;rw[O] at D |-;obtain⟨N,T⟩:∃ N,(zgR S P.toNat [⟨xb,xn,false⟩]).length=N:=⟨_,rfl⟩;rw[T] at D |-;generalize S.length=ns at *;clear O T
 go_enter Tryz.func174,Tryz.ntmps174
 go_wp2_with fail
 refine ye (D.out _ _ _) ?_;rintro e V ⟨F,I,n,rfl,hb,hn⟩;have HB:Hid (Below W.heap.size W V):=(zas W _ _ _).trans (((zaa _ _).trans (hb.mono (by simp))).mono (by simp;omega));have HN:Hid (E=0->n=N):=fun h=>by rw[hn,yb h]
 clear hb hn D
 go_wp2
 exact yv (v:=.tuple #[.slice F n I,.int .i64 E]) (by simp[results,Tryz.results174,go_sem]) rfl ⟨F,I,n,rfl,HB.out,HN.out⟩
theorem zvn(W:World):yL 162 #[.int .i64 2] W fun e w' => ∃ E,e=.returned (.func (.func 183) #[] #[.pointer (some ⟨E,0,none⟩)])/\Below W.heap.size W w' /\ w'.cell? ⟨E,0,none⟩=some (.func (.func 167) #[] #[]):=by
 have D:Hid (∀ W,Calls _ _ _ _ _):=fun W=>zhY 167 W
 go_enter Tryz.func162,Tryz.ntmps162
 go_wp2_with fail
 refine ye (D.out _) ?_;rintro e V ⟨rfl,F,hc⟩;have I:Hid _:=F;have J:Hid _:=hc;clear F hc D
 go_wp2
 go_ret;exact⟨_,rfl,I.out,J.out⟩
theorem zvo(W:World):yL 162 #[.int .i64 4] W fun e w' => ∃ E,e=.returned (.func (.func 183) #[] #[.pointer (some ⟨E,0,none⟩)])/\Below W.heap.size W w' /\ w'.cell? ⟨E,0,none⟩=some (.func (.func 168) #[] #[]):=by
 have D:Hid (∀ W,Calls _ _ _ _ _):=fun W=>zhY 168 W
 go_enter Tryz.func162,Tryz.ntmps162
 go_wp2_with fail
 refine ye (D.out _) ?_;rintro e V ⟨rfl,F,hc⟩;have I:Hid _:=F;have J:Hid _:=hc;clear F hc D
 go_wp2
 go_ret;exact⟨_,rfl,I.out,J.out⟩
theorem zvp(W:World):yL 162 #[.int .i64 5] W fun e w' => ∃ E,e=.returned (.func (.func 187) #[] #[.pointer (some ⟨E,0,none⟩)])/\Below W.heap.size W w' /\ w'.cell? ⟨E,0,none⟩=some (.func (.func 171) #[] #[]):=by
 have D:Hid (∀ W,Calls _ _ _ _ _):=fun W=>zkM 171 W
 go_enter Tryz.func162,Tryz.ntmps162
 go_wp2_with fail
 refine ye (D.out _) ?_;rintro e V ⟨rfl,F,hc⟩;have I:Hid _:=F;have J:Hid _:=hc;clear F hc D
 go_wp2
 go_ret;exact⟨_,rfl,I.out,J.out⟩
theorem zmz(W:World):yL 162 #[.int .i64 11] W fun e w' => ∃ E,e=.returned (.func (.func 187) #[] #[.pointer (some ⟨E,0,none⟩)])/\Below W.heap.size W w' /\ w'.cell? ⟨E,0,none⟩=some (.func (.func 172) #[] #[]):=by
 have D:Hid (∀ W,Calls _ _ _ _ _):=fun W=>zkM 172 W
 go_enter Tryz.func162,Tryz.ntmps162
 go_wp2_with fail
 refine ye (D.out _) ?_;rintro e V ⟨rfl,F,hc⟩;have I:Hid _:=F;have J:Hid _:=hc;clear F hc D
 go_wp2
 go_ret;exact⟨_,rfl,I.out,J.out⟩
theorem zsB(W:World):yL 162 #[.int .i64 14] W fun e w' => ∃ E,e=.returned (.func (.func 188) #[] #[.pointer (some ⟨E,0,none⟩)])/\Below W.heap.size W w' /\ w'.cell? ⟨E,0,none⟩=some (.func (.func 174) #[] #[]):=by
 have D:Hid (∀ W,Calls _ _ _ _ _):=fun W=>zep 174 W
 go_enter Tryz.func162,Tryz.ntmps162
 go_wp2_with fail
 refine ye (D.out _) ?_;rintro e V ⟨rfl,F,hc⟩;have I:Hid _:=F;have J:Hid _:=hc;clear F hc D
 go_wp2
 go_ret;exact⟨_,rfl,I.out,J.out⟩
theorem zsC(W:World):yL 162 #[.int .i64 15] W fun e w' => ∃ E,e=.returned (.func (.func 188) #[] #[.pointer (some ⟨E,0,none⟩)])/\Below W.heap.size W w' /\ w'.cell? ⟨E,0,none⟩=some (.func (.func 175) #[] #[]):=by
 have D:Hid (∀ W,Calls _ _ _ _ _):=fun W=>zep 175 W
 go_enter Tryz.func162,Tryz.ntmps162
 go_wp2_with fail
 refine ye (D.out _) ?_;rintro e V ⟨rfl,F,hc⟩;have I:Hid _:=F;have J:Hid _:=hc;clear F hc D
 go_wp2
 go_ret;exact⟨_,rfl,I.out,J.out⟩
theorem zpa(W:World):yL 162 #[.int .i64 3] W fun e w' => ∃ E,e=.returned (.func (.func 191) #[] #[.pointer (some ⟨E,0,none⟩)])/\Below W.heap.size W w' /\ w'.cell? ⟨E,0,none⟩=some (.func (.func 177) #[] #[]):=by
 have D:Hid (∀ W,Calls _ _ _ _ _):=fun W=>zdE 177 W
 go_enter Tryz.func162,Tryz.ntmps162
 go_wp2_with fail
 refine ye (D.out _) ?_;rintro e V ⟨rfl,F,hc⟩;have I:Hid _:=F;have J:Hid _:=hc;clear F hc D
 go_wp2
 go_ret;exact⟨_,rfl,I.out,J.out⟩
theorem zpb(W:World):yL 162 #[.int .i64 7] W fun e w' => ∃ E,e=.returned (.func (.func 191) #[] #[.pointer (some ⟨E,0,none⟩)])/\Below W.heap.size W w' /\ w'.cell? ⟨E,0,none⟩=some (.func (.func 178) #[] #[]):=by
 have D:Hid (∀ W,Calls _ _ _ _ _):=fun W=>zdE 178 W
 go_enter Tryz.func162,Tryz.ntmps162
 go_wp2_with fail
 refine ye (D.out _) ?_;rintro e V ⟨rfl,F,hc⟩;have I:Hid _:=F;have J:Hid _:=hc;clear F hc D
 go_wp2
 go_ret;exact⟨_,rfl,I.out,J.out⟩
theorem zpc(W:World):yL 162 #[.int .i64 8] W fun e w' => ∃ E,e=.returned (.func (.func 191) #[] #[.pointer (some ⟨E,0,none⟩)])/\Below W.heap.size W w' /\ w'.cell? ⟨E,0,none⟩=some (.func (.func 179) #[] #[]):=by
 have D:Hid (∀ W,Calls _ _ _ _ _):=fun W=>zdE 179 W
 go_enter Tryz.func162,Tryz.ntmps162
 go_wp2_with fail
 refine ye (D.out _) ?_;rintro e V ⟨rfl,F,hc⟩;have I:Hid _:=F;have J:Hid _:=hc;clear F hc D
 go_wp2
 go_ret;exact⟨_,rfl,I.out,J.out⟩
theorem zvm(W:World):yL 162 #[.int .i64 1] W fun e w' => e=.returned (.func (.func 165) #[] #[])/\w' = W:=by
 go_enter Tryz.func162,Tryz.ntmps162
 go_wp2
 go_ret;exact⟨rfl,rfl⟩
theorem zvq(W:World):yL 162 #[.int .i64 6] W fun e w' => e=.returned (.func (.func 169) #[] #[])/\w' = W:=by
 go_enter Tryz.func162,Tryz.ntmps162
 go_wp2
 go_ret;exact⟨rfl,rfl⟩
theorem zsD(k:Int)(W:World)(h:k≠1/\k≠2/\k≠4/\k≠6/\k≠5/\k≠11/\k≠14/\k≠15/\k≠3/\k≠7/\k≠8):yL 162 #[.int .i64 k] W fun e w' => e=.returned .nilFunc/\w' = W:=by
 obtain⟨h1,I,M,O,h5,D,E,F,J,T,U⟩:=h;have b1:(k == 1)=false:=by simp[h1]
 have b2:(k == 2)=false:=by simp[I]
 have b4:(k == 4)=false:=by simp[M]
 have b6:(k == 6)=false:=by simp[O]
 have b5:(k == 5)=false:=by simp[h5]
 have Z:(k == 11)=false:=by simp[D]
 have a5:(k == 14)=false:=by simp[E]
 have a6:(k == 15)=false:=by simp[F]
 have b3:(k == 3)=false:=by simp[J]
 have b7:(k == 7)=false:=by simp[T]
 have b8:(k == 8)=false:=by simp[U]
 clear h1 I M O h5 D E F J T U
 go_enter Tryz.func162,Tryz.ntmps162
 go_wp2
 go_ret;exact⟨rfl,rfl⟩
theorem zpX(w:World):(zeroValue 199).run Tryz.prog w=.ok (.agg #[.bool false,.int .i64 0,.bool false]) w:=by kernel_rfl
theorem zyt(a:Option Addr)(c:Nat)(L:List Fr)(f t x:Int)(w:World)(hN:L.length<=9223372036854775807)(hL:zaS w a L)(hE:zfh L [f,t]≠0) :
  yL 137 #[.slice a L.length c,.int .i64 f,.int .i64 t,.int .i64 x] w fun e w' => e=.returned (.int .i64 (zdF L f t x))/\Below w.heap.size w w' := by
 have a6:∀ w:World,(Instr.index 197 (.agg #[.int .i64 f,.int .i64 t]) (.int .i64 0)).run Tryz.prog w=.ok (.int .i64 f) w:=fun _=>by kernel_rfl
 have a7:∀ w:World,(Instr.index 197 (.agg #[.int .i64 f,.int .i64 t]) (.int .i64 1)).run Tryz.prog w=.ok (.int .i64 t) w:=fun _=>by kernel_rfl
 have D:Hid _:=zdZ a c L w hN hL;have D1:Hid (∀ W,zaS W a L->_):=fun W hW=>zcz a c L f W hN hW;have D2:Hid (∀ W,zaS W a L->_):=fun W hW=>zcz a c L t W hN hW;have HL:Hid (zaS w a L):=hL;clear hL;by_cases h1:zaO L=0
 ·by_cases T:zax L f=0
  ·have U:zax L t≠0:=fun U=>hE (zic h1 T U);rw[ztz h1 T U];rw[h1] at D;rw[T] at D1;clear h1 T hE;generalize zax L t=F at *;have Z:(F == 0)=false:=(by simp[U]);have a5:decide (F=0)=false:=yE U;generalize L.length=n at *
   go_enter Tryz.func137,Tryz.ntmps137
   go_wp2_with fail
   refine ye D.out ?_;rintro e w1 ⟨rfl,I⟩;have E:Hid (Below w.heap.size w w1):=I;clear I
   go_wp2_with fail
   go_loopg [23] 2 (fun g s23 wr=>∃ k:Nat,k<=1/\2-k<=g/\s23=.int .i64 k/\wr=w1)
   case atStart=>exact⟨0,by omega,by omega,rfl,rfl⟩
   case round =>
    obtain⟨k,hk,hg,rfl,M⟩:=hrel;have O:=M.symm;clear M;subst O;obtain rfl|rfl:k=0\/k=1:=by omega
    ·go_wp2_with fail
     refine ye (D1.out _ (HL.out.below E.out)) ?_;rintro e w2 ⟨rfl,J⟩;subst J
     go_wp2_with fail
     go_roundg 1
     case measure=>omega
     case rel=>exact⟨1,by omega,by omega,by go_num,rfl⟩
    ·go_wp2_with fail
     refine ye (D2.out _ (HL.out.below E.out)) ?_;rintro e w2 ⟨rfl,J⟩;subst J
     go_wp2_with fail
     go_ret;exact⟨rfl,E.out⟩
  ·rw[zyv h1 T];rw[h1] at D;clear h1 hE;generalize zax L f=F at *;have Z:(F == 0)=false:=(by simp[T]);have a5:decide (F=0)=false:=yE T;generalize L.length=n at *
   go_enter Tryz.func137,Tryz.ntmps137
   go_wp2_with fail
   refine ye D.out ?_;rintro e w1 ⟨rfl,I⟩;have E:Hid (Below w.heap.size w w1):=I;clear I
   go_wp2_with fail
   go_loopg [23] 2 (fun g s23 wr=>∃ k:Nat,k<=0/\2-k<=g/\s23=.int .i64 k/\wr=w1)
   case atStart=>exact⟨0,by omega,by omega,rfl,rfl⟩
   case round =>
    obtain⟨k,hk,hg,rfl,M⟩:=hrel;have O:=M.symm;clear M;subst O;obtain rfl:k=0:=by omega
    go_wp2_with fail
    refine ye (D1.out _ (HL.out.below E.out)) ?_;rintro e w2 ⟨rfl,J⟩;subst J
    go_wp2_with fail
    go_ret;exact⟨rfl,E.out⟩
 ·rw[zyu h1];clear hE;generalize zaO L=F at *;have Z:(F == 0)=false:=by simp[h1]
  have a5:decide (F=0)=false:=yE h1;generalize L.length=n at *
  go_enter Tryz.func137,Tryz.ntmps137
  go_wp2_with fail
  refine ye D.out ?_;rintro e w1 ⟨rfl,I⟩;have E:Hid (Below w.heap.size w w1):=I;clear I
  go_wp2_with fail
  go_ret;exact⟨rfl,E.out⟩
theorem zzR(a:Option Addr)(c:Nat)(L:List Fr)(f t x:Int)(w:World)(hx:(Lit.int .i64 x).wf=true)(hN:L.length<=9223372036854775807)(hL:zaS w a L)(hE:zfh L [f,t]=0) :
  yL 137 #[.slice a L.length c,.int .i64 f,.int .i64 t,.int .i64 x] w fun e w' => e=.returned (.int .i64 (zdF L f t x))/\Below w.heap.size w w' := by
 obtain⟨h1,h2,h3⟩:=zfU hE;have R:=zdv.1 h1;rw[zwr h1 h2 h3];obtain⟨p,rfl,hp,_⟩:=zfD h2;obtain⟨q,rfl,hq,_⟩:=zfD h3;have b1:∀ w:World,(Instr.index 197 (.agg #[.int .i64 (p:Int),.int .i64 (q:Int)]) (.int .i64 0)).run Tryz.prog w=.ok (.int .i64 (p:Int)) w:=fun _=>by kernel_rfl
 have b2:∀ w:World,(Instr.index 197 (.agg #[.int .i64 (p:Int),.int .i64 (q:Int)]) (.int .i64 1)).run Tryz.prog w=.ok (.int .i64 (q:Int)) w:=fun _=>by kernel_rfl
 have D:Hid _:=zdZ a c L w hN hL;have D1:Hid (∀ W,zaS W a L->_):=fun W hW=>zcz a c L p W hN hW;have D2:Hid (∀ W,zaS W a L->_):=fun W hW=>zcz a c L q W hN hW;have D4:Hid (∀ M nd O W,zaS W a L->_):=fun M nd O W hW=>zwf a c L p q M nd O W (by have:=R.few;omega) hW hp hq;have HL:Hid (zaS w a L):=hL;rw[h1] at D;rw[h2] at D1;rw[h3] at D2;have LA:Hid (∀ M nd O,zhe x=some (M,nd,O)->zto L p q M nd O=zsa L p q x):=fun M nd O h=>zwg R hp h;clear hL h1 h2 h3 hE;have a9:=R.few;generalize zsa L p q x=A at *;obtain⟨n,hn⟩:∃ n,L.length=n:=⟨_,rfl⟩;rw[hn] at D D1 D2 D4 hp hq hN a9 |-;clear hn;by_cases hr:1<=x/\x<=5
 ·rw[ya (yI hr)]
  obtain⟨⟨M,nd,O⟩,a7⟩:∃ r,zhe x=some r:=by
   cases h:zhe x with
   | none=>exact absurd hr (zjy.1 h)
   | some r=>exact⟨r,rfl⟩
  have D5:Hid (∀ W,zaS W a L->_):=fun W hW=>D4.out M nd O W hW;rw[LA.out M nd O a7] at D5;have HR:Hid (zeZ 5 (.int .i64 x)=some (rv (M,nd,O))):=(by rw[znj,yb hr.2,a7];rfl:zeZ 5 (.int .i64 x)=some (rv (M,nd,O)));clear D4 LA a7 hr;cases A
  all_goals
   simp only[if_true,if_false,Bool.false_eq_true]
   go_enter Tryz.func137,Tryz.ntmps137
   go_wp2_with fail
   refine ye D.out ?_;rintro e w1 ⟨rfl,T⟩;have F:Hid (Below w.heap.size w w1):=T;clear T
   go_wp2_with fail
   go_loopg [23] 2 (fun g s23 wr=>∃ k:Nat,k<=2/\2-k<=g/\s23=.int .i64 k/\wr=w1)
   case atStart=>exact⟨0,by omega,by omega,rfl,rfl⟩
   case round =>
    obtain⟨k,hk,hg,rfl,Z⟩:=hrel;have a5:=Z.symm;clear Z;subst a5;obtain rfl|rfl|rfl:k=0\/k=1\/k=2:=by omega
    ·go_wp2_with fail
     refine ye (D1.out _ (HL.out.below F.out)) ?_;rintro e w2 ⟨rfl,I⟩;subst I
     go_wp2_with fail
     go_roundg 1
     case measure=>omega
     case rel=>exact⟨1,by omega,by omega,by go_num,rfl⟩
    ·go_wp2_with fail
     refine ye (D2.out _ (HL.out.below F.out)) ?_;rintro e w2 ⟨rfl,I⟩;subst I
     go_wp2_with fail
     go_roundg 0
     case measure=>omega
     case rel=>exact⟨2,by omega,by omega,by go_num,rfl⟩
    ·go_wp2_with fail
     refine ye (znk _) ?_;rintro e w2 ⟨b,rfl,hm,U⟩;have E:=hm.look_ok (Maps.int_keyed Tryz.underlying3) (t:=201) Tryz.underlying201 (zpX w2) (zgo hx) trivial;rw[HR.out] at E;dsimp only[Option.getD,Option.isSome,rv] at E;have J:Hid (Below w.heap.size w w2):=F.out.trans (U.mono F.out.size);clear hm U
     go_wp2_with fail
     have a6:∀ o:Obj,Below w.heap.size w (w2.alloc o):=fun o=>J.out.alloc J.out.size o;refine ye (D5.out _ (HL.out.below (a6 _))) ?_;rintro e w3 ⟨rfl,a8⟩;have b0:Hid (Below w.heap.size w w3):=(a6 _).trans (a8.mono (a6 _).size);clear a6 a8
     go_wp2_with fail
     go_ret;exact⟨rfl,b0.out⟩
 ·rw[yb hr];have HR:Hid (zeZ 5 (.int .i64 x)=none):=(by rw[znj,zjy.2 hr];split <;> rfl:zeZ 5 (.int .i64 x)=none);clear D4 LA hr
  go_enter Tryz.func137,Tryz.ntmps137
  go_wp2_with fail
  refine ye D.out ?_;rintro e w1 ⟨rfl,T⟩;have F:Hid (Below w.heap.size w w1):=T;clear T
  go_wp2_with fail
  go_loopg [23] 2 (fun g s23 wr=>∃ k:Nat,k<=2/\2-k<=g/\s23=.int .i64 k/\wr=w1)
  case atStart=>exact⟨0,by omega,by omega,rfl,rfl⟩
  case round =>
   obtain⟨k,hk,hg,rfl,Z⟩:=hrel;have a5:=Z.symm;clear Z;subst a5;obtain rfl|rfl|rfl:k=0\/k=1\/k=2:=by omega
   ·go_wp2_with fail
    refine ye (D1.out _ (HL.out.below F.out)) ?_;rintro e w2 ⟨rfl,I⟩;subst I
    go_wp2_with fail
    go_roundg 1
    case measure=>omega
    case rel=>exact⟨1,by omega,by omega,by go_num,rfl⟩
   ·go_wp2_with fail
    refine ye (D2.out _ (HL.out.below F.out)) ?_;rintro e w2 ⟨rfl,I⟩;subst I
    go_wp2_with fail
    go_roundg 0
    case measure=>omega
    case rel=>exact⟨2,by omega,by omega,by go_num,rfl⟩
   ·go_wp2_with fail
    refine ye (znk _) ?_;rintro e w2 ⟨b,rfl,hm,U⟩;have E:=hm.look_ok (Maps.int_keyed Tryz.underlying3) (t:=201) Tryz.underlying201 (zpX w2) (zgo hx) trivial;rw[HR.out] at E;dsimp only[Option.getD,Option.isSome] at E;have J:Hid (Below w.heap.size w w2):=F.out.trans (U.mono F.out.size);clear hm U
    go_wp2_with fail
    go_ret;exact⟨rfl,J.out.alloc J.out.size _⟩
theorem zys(a:Option Addr)(c:Nat)(L:List Fr)(f t x:Int)(w:World)(F:(Lit.int .i64 x).wf=true)(E:L.length<=9223372036854775807)(D:zaS w a L) :
  yL 137 #[.slice a L.length c,.int .i64 f,.int .i64 t,.int .i64 x] w fun e w' => e=.returned (.int .i64 (zdF L f t x))/\Below w.heap.size w w' := by
 by_cases h:zfh L [f,t]=0
 ·exact zzR a c L f t x w F E D h
 ·exact zyt a c L f t x w E D h
end Go.Proofs.YtcbcpomacdngmaaGreat
