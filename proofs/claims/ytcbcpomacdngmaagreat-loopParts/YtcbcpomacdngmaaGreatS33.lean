/-
  x
-/
import Derived.Test.YtcbcpomacdngmaaGreatS31
namespace Go.Proofs.YtcbcpomacdngmaaGreat
set_option maxRecDepth 100000
set_option maxHeartbeats 4000000
set_option linter.unusedVariables false
open Go.RowKit Go.ChangeShapes Go.WideShapes
theorem zyH(F:Nat)(eg:∀ args w,(callFunc F args).run Tryz.prog w=.ok (.enter F args) w)(O:Nat)(w:World)(hc:w.cell? ⟨O,0,none⟩=some (.func (.func F) #[] #[]))(R:Rl)(x:Ac)(wf:WF R.s)(hl:R.hs.length=16)(ha:isH x.a)(T n:Int)(e0:T≠0)
  (hF:∀ (a:Option Addr) (c:Nat) (W:World),zaI W a R.i->yM F #[.agg #[.slice a R.i.length c],.int .i64 x.n] W fun e w' => e=.returned (.tuple #[.int .i64 n,.int .i64 T])/\Below W.heap.size W w') :
  zmh 187 #[.pointer (some ⟨O,0,none⟩)] w R x (bad T):=fun d h g A V I=>by
 rw[(znV T).2.2];have hz:(T == 0)=false:=by simp[e0]
 obtain⟨a0,a1,a2,a3,c0,c1,c2,c3⟩:=A;obtain rfl:a0=some ⟨g,0,none⟩:=I.a0;obtain rfl:a1=some ⟨h,0,none⟩:=I.a1;obtain⟨xk,xa,xb,xc,xn⟩:=x;obtain⟨p,hp,a8⟩:=zmk ha;dsimp only at hp;subst hp;obtain⟨u0,u1⟩:=I.hand (k:=p) (by omega);have II:Hid (WI w R d h g _ V):=I;have D:Hid (∀ W,Below V.heap.size V W->yM 14 #[.agg #[.slice (some ⟨g,0,none⟩) R.s.length c0],.agg #[.int .i64 (hd R (p:Int)).1,.int .i64 (hd R (p:Int)).2]] W fun e w' => ∃ (x:Nd) (ka:Option Addr) (kl kc:Nat),e=.returned (.tuple #[.agg #[.bool x.u,.int .i64 x.n,.int .i64 x.t,.int .i64 x.m,.int .i64 x.p,.slice ka kl kc,.int .i64 x.h,.bool x.c],.int .i64 (zaG R.s (hd R (p:Int)).1 (hd R (p:Int)).2)])/\Below W.heap.size W w' /\(zaG R.s (hd R (p:Int)).1 (hd R (p:Int)).2=0->x=nd R.s (hd R (p:Int)).1.toNat)/\(zaG R.s (hd R (p:Int)).1 (hd R (p:Int)).2≠0->x=zhl)):=fun W hW=>zfJ R.s _ _ _ c0 W wf (I.nds.below hW);have DF:Hid (∀ W,Below V.heap.size V W->yM F #[.agg #[.slice a2 R.i.length c2],.int .i64 xn] W fun e w' => e=.returned (.tuple #[.int .i64 n,.int .i64 T])/\Below W.heap.size W w'):=fun W hW=>hF a2 c2 W (I.cls.at.below hW);clear hF;have k0:=(I.bel.cell (yd _ _ hc)).trans hc;obtain⟨l0,l1,l2,l3,fz,lt⟩:=zak I.box;dsimp only at l0 l1 l2 l3;rw[hl] at l1;have b5:d<V.heap.size:=lt;have b6:h<V.heap.size:=yd _ _ u0;have b4:O<V.heap.size:=yd _ _ k0;have b7:(p:Int)<16:=by omega
 show yM _ #[.pointer (some ⟨d,0,none⟩),.agg #[.int .i64 xk,.int .i64 p,.int .i64 xb,.int .i64 xc,.int .i64 xn],.pointer (some ⟨O,0,none⟩)] V _;obtain⟨ns,a7⟩:∃ n,R.s.length=n:=⟨_,rfl⟩;have b0:Hid (R.s.length=ns):=a7;clear ha hl;generalize hd R (p:Int)=hh at *;obtain⟨P,U⟩:=hh;dsimp only at u0 u1 D |-;obtain⟨ni,a6⟩:∃ n,R.i.length=n:=⟨_,rfl⟩;rw[a6] at DF l2;clear a6 hc;clear a7 I
 go_enter Tryz.func187,Tryz.ntmps187
 go_upto_region 1 with fail
 obtain⟨E,J⟩:∃ E,V.alloc (.cells #[.int .i64 xk,.int .i64 p,.int .i64 xb,.int .i64 xc,.int .i64 xn] 36)=E:=⟨_,rfl⟩;have M:Hid (Below V.heap.size V E):=by rw[<- J];exact zaa _ _
 have y0:E.cell? ⟨V.heap.size,0,none⟩=some (.int .i64 xk):=by rw[<- J];exact zad _ _ _ 0 rfl
 have y1:E.cell? ⟨V.heap.size,1,none⟩=some (.int .i64 p):=by rw[<- J];exact zad _ _ _ 1 rfl
 have y2:E.cell? ⟨V.heap.size,2,none⟩=some (.int .i64 xb):=by rw[<- J];exact zad _ _ _ 2 rfl
 have y3:E.cell? ⟨V.heap.size,3,none⟩=some (.int .i64 xc):=by rw[<- J];exact zad _ _ _ 3 rfl
 have y4:E.cell? ⟨V.heap.size,4,none⟩=some (.int .i64 xn):=by rw[<- J];exact zad _ _ _ 4 rfl
 have sV:V.heap.size<E.heap.size:=yd _ _ y0;rw[J];clear J;replace u0:=zab u0 M.out;replace u1:=zab u1 M.out;replace l0:=zab l0 M.out;replace l1:=zab l1 M.out;replace l2:=zab l2 M.out;replace l3:=zab l3 M.out;replace k0:=zab k0 M.out;have n0:¬ E.heap.size=d:=by omega
 have o0:¬ d=E.heap.size:=by omega
 have n1:¬ E.heap.size=h:=by omega
 have o1:¬ h=E.heap.size:=by omega
 have n2:¬ E.heap.size=O:=by omega
 have o2:¬ O=E.heap.size:=by omega
 have n3:¬ E.heap.size=V.heap.size:=by omega
 have o3:¬ V.heap.size=E.heap.size:=by omega
 have b8:d<E.heap.size:=by omega
 have b9:h<E.heap.size:=by omega
 have a9:O<E.heap.size:=by omega
 clear fz lt
 go_region_held3 (fun Z=>Z.cell? ⟨O,0,none⟩=some (.func (.func F) #[] #[])/\Z.cell? ⟨d,2,none⟩=some (.slice a2 ni c2)/\Z.cell? ⟨V.heap.size,4,none⟩=some (.int .i64 xn)) (go_keep) (first|(refine ye (DF.out E.drew M.out.drew) ?_;rintro e w2 ⟨rfl,a5⟩;have B2:Hid (Below E.heap.size E w2):=(yk _ _).drew.trans a5;have b1:=zab k0 B2.out;have b2:=zab l2 B2.out;have b3:=zab y4 B2.out;clear a5))
 have I2:Hid _:=II.out.below (M.out.trans (B2.out.mono M.out.size))
 go_wp2
 exact yw (v:=.tuple #[.int .i64 0,.int .i64 T]) (by simp[results,Tryz.results187,go_sem]) rfl ⟨0,rfl,I2.out.bel,fun hE=>absurd hE e0⟩
theorem zpL(F:Nat)(eg:∀ args w,(callFunc F args).run Tryz.prog w=.ok (.enter F args) w)(cb:Nat)(w:World)(hc:w.cell? ⟨cb,0,none⟩=some (.func (.func F) #[] #[]))(R:Rl)(x:Ac)(wf:WF R.s)(hl:R.hs.length=16)(ha:isH x.a)(n:Int)
  (hF:∀ (a:Option Addr) (c:Nat) (W:World),zaI W a R.i->yM F #[.agg #[.slice a R.i.length c],.int .i64 x.n] W fun e w' => e=.returned (.tuple #[.int .i64 n,.int .i64 0])/\Below W.heap.size W w') :
  zmh 187 #[.pointer (some ⟨cb,0,none⟩)] w R x (zxw R (hd R x.a) n):=fun d h g A V I=>by
 unfold zxw;rw[zlk];obtain⟨a0,a1,a2,a3,c0,c1,c2,c3⟩:=A;obtain rfl:a0=some ⟨g,0,none⟩:=I.a0;obtain rfl:a1=some ⟨h,0,none⟩:=I.a1;obtain⟨xk,xa,xb,xc,xn⟩:=x;obtain⟨p,hp,d9⟩:=zmk ha;dsimp only at hp;subst hp;obtain⟨u0,u1⟩:=I.hand (k:=p) (by omega);have II:Hid (WI w R d h g _ V):=I;have D:Hid (∀ W,Below V.heap.size V W->yM 14 #[.agg #[.slice (some ⟨g,0,none⟩) R.s.length c0],.agg #[.int .i64 (hd R (p:Int)).1,.int .i64 (hd R (p:Int)).2]] W fun e w' => ∃ (x:Nd) (ka:Option Addr) (kl kc:Nat),e=.returned (.tuple #[.agg #[.bool x.u,.int .i64 x.n,.int .i64 x.t,.int .i64 x.m,.int .i64 x.p,.slice ka kl kc,.int .i64 x.h,.bool x.c],.int .i64 (zaG R.s (hd R (p:Int)).1 (hd R (p:Int)).2)])/\Below W.heap.size W w' /\(zaG R.s (hd R (p:Int)).1 (hd R (p:Int)).2=0->x=nd R.s (hd R (p:Int)).1.toNat)/\(zaG R.s (hd R (p:Int)).1 (hd R (p:Int)).2≠0->x=zhl)):=fun W hW=>zfJ R.s _ _ _ c0 W wf (I.nds.below hW);have DF:Hid (∀ W,Below V.heap.size V W->yM F #[.agg #[.slice a2 R.i.length c2],.int .i64 xn] W fun e w' => e=.returned (.tuple #[.int .i64 n,.int .i64 0])/\Below W.heap.size W w'):=fun W hW=>hF a2 c2 W (I.cls.at.below hW);clear hF;have k0:=(I.bel.cell (yd _ _ hc)).trans hc;obtain⟨l0,l1,l2,l3,fz,lt⟩:=zak I.box;dsimp only at l0 l1 l2 l3;rw[hl] at l1;have e8:d<V.heap.size:=lt;have e9:h<V.heap.size:=yd _ _ u0;have e7:cb<V.heap.size:=yd _ _ k0;have g4:(p:Int)<16:=by omega
 show yM _ #[.pointer (some ⟨d,0,none⟩),.agg #[.int .i64 xk,.int .i64 p,.int .i64 xb,.int .i64 xc,.int .i64 xn],.pointer (some ⟨cb,0,none⟩)] V _;obtain⟨ns,b1⟩:∃ n,R.s.length=n:=⟨_,rfl⟩;have b5:Hid (R.s.length=ns):=b1;clear ha hl;generalize hd R (p:Int)=hh at *;obtain⟨P,U⟩:=hh;dsimp only at u0 u1 D |-;obtain⟨ni,b6⟩:∃ n,R.i.length=n:=⟨_,rfl⟩;rw[b6] at DF l2;clear b6 hc;obtain⟨E,hE⟩:∃ E,zaG R.s P U=E:=⟨_,rfl⟩;have HE:Hid (zaG R.s P U=E):=hE;obtain⟨M,hM⟩:∃ M,zxG R.s P U n=M:=⟨_,rfl⟩;have HM:Hid (zxG R.s P U n=M):=hM;rw[hE] at D;rw[hM];clear hE hM;rw[b1] at D l0;clear b1 I;have DW:Hid (∀ W,Calls _ _ _ _ _):=fun W=>zaR n (-1000000) 1000000 W
 go_enter Tryz.func187,Tryz.ntmps187
 go_upto_region 1 with fail
 obtain⟨T,a6⟩:∃ T,V.alloc (.cells #[.int .i64 xk,.int .i64 p,.int .i64 xb,.int .i64 xc,.int .i64 xn] 36)=T:=⟨_,rfl⟩;have BV:Hid (Below V.heap.size V T):=by rw[<- a6];exact zaa _ _
 have y0:T.cell? ⟨V.heap.size,0,none⟩=some (.int .i64 xk):=by rw[<- a6];exact zad _ _ _ 0 rfl
 have y1:T.cell? ⟨V.heap.size,1,none⟩=some (.int .i64 p):=by rw[<- a6];exact zad _ _ _ 1 rfl
 have y2:T.cell? ⟨V.heap.size,2,none⟩=some (.int .i64 xb):=by rw[<- a6];exact zad _ _ _ 2 rfl
 have y3:T.cell? ⟨V.heap.size,3,none⟩=some (.int .i64 xc):=by rw[<- a6];exact zad _ _ _ 3 rfl
 have y4:T.cell? ⟨V.heap.size,4,none⟩=some (.int .i64 xn):=by rw[<- a6];exact zad _ _ _ 4 rfl
 have sV:V.heap.size<T.heap.size:=yd _ _ y0;rw[a6];clear a6;replace u0:=zab u0 BV.out;replace u1:=zab u1 BV.out;replace l0:=zab l0 BV.out;replace l1:=zab l1 BV.out;replace l2:=zab l2 BV.out;replace l3:=zab l3 BV.out;replace k0:=zab k0 BV.out;have n0:¬ T.heap.size=d:=by omega
 have o0:¬ d=T.heap.size:=by omega
 have n1:¬ T.heap.size=h:=by omega
 have o1:¬ h=T.heap.size:=by omega
 have n2:¬ T.heap.size=cb:=by omega
 have o2:¬ cb=T.heap.size:=by omega
 have n3:¬ T.heap.size=V.heap.size:=by omega
 have o3:¬ V.heap.size=T.heap.size:=by omega
 have b8:d<T.heap.size:=by omega
 have d8:h<T.heap.size:=by omega
 have b7:cb<T.heap.size:=by omega
 clear fz lt
 go_region_held3 (fun O=>O.cell? ⟨cb,0,none⟩=some (.func (.func F) #[] #[])/\O.cell? ⟨d,2,none⟩=some (.slice a2 ni c2)/\O.cell? ⟨V.heap.size,4,none⟩=some (.int .i64 xn)) (go_keep) (first|(refine ye (DF.out T.drew BV.out.drew) ?_;rintro e Z ⟨rfl,a5⟩;have B2:Hid (Below T.heap.size T Z):=(yk _ _).drew.trans a5;have c8:=zab k0 B2.out;have d4:=zab l2 B2.out;have d5:=zab y4 B2.out;clear a5))
 replace u0:=zab u0 B2.out;replace u1:=zab u1 B2.out;replace l0:=zab l0 B2.out;replace l1:=zab l1 B2.out;replace y1:=zab y1 B2.out;have s3:=B2.out.size;have q0:d<Z.heap.size:=by omega
 have q1:h<Z.heap.size:=by omega
 have q2:V.heap.size<Z.heap.size:=by omega
 have e0:¬ Z.heap.size=d:=by omega
 have e1:¬ Z.heap.size=h:=by omega
 have e2:¬ Z.heap.size=V.heap.size:=by omega
 have e3:¬ d=Z.heap.size:=by omega
 have e4:¬ h=Z.heap.size:=by omega
 have e5:¬ V.heap.size=Z.heap.size:=by omega
 have b4:Hid (Below V.heap.size V Z):=BV.out.trans (B2.out.mono BV.out.size);clear c8 d4 d5 k0 l2 l3 y0 y2 y3 y4 n0 n1 n2 n3 o0 o1 o2 o3 b8 d8 b7 DF B2 BV
 go_wp2_with fail
 go_region_held3 (fun O=>O.cell? ⟨d,1,none⟩=some (.slice (some ⟨h,0,none⟩) 16 c1)/\O.cell? ⟨h,p*2,none⟩=some (.int .i64 P)/\O.cell? ⟨h,p*2+1,none⟩=some (.int .i64 U)/\O.cell? ⟨V.heap.size,1,none⟩=some (.int .i64 p)) (go_keep) (fail)
 go_upto_region 5 with fail
 obtain⟨J,b0⟩:∃ J,(Z.alloc (.cells #[.int .i64 P,.int .i64 U] 61)).drew=J:=⟨_,rfl⟩;have B4:Hid (Below Z.heap.size Z J):=by rw[<- b0];exact(zaa _ _).drew
 have a7:Hid (Below V.heap.size V J):=b4.out.trans (B4.out.mono b4.out.size);have X4:Hid (J.heap[Z.heap.size]?=some (.cells #[.int .i64 P,.int .i64 U] 61 (0,0))):=by rw[<- b0];exact yL Z _
 rw[b0];clear b0;obtain⟨j0,j1,jl⟩:=zbi X4.out;replace l0:=zab l0 B4.out;have s4:=B4.out.size;have b8:d<J.heap.size:=by omega
 have n0:¬ J.heap.size=d:=by omega
 have o0:¬ d=J.heap.size:=by omega
 have n1:¬ J.heap.size=Z.heap.size:=by omega
 have o1:¬ Z.heap.size=J.heap.size:=by omega
 clear u0 u1 l1 y1 e0 e1 e2 e3 e4 e5
 go_cut [10,11] (fun s10 s11 wx=>∃ (b:Nat) (m pp:Int),s10=.pointer (some ⟨b,0,none⟩)/\s11=.int .i64 E/\Hid (Below J.heap.size J wx)/\wx.cell? ⟨b,3,none⟩=some (.int .i64 m)/\wx.cell? ⟨b,4,none⟩=some (.int .i64 pp)/\J.heap.size<=b/\Hid (E=0->m=(nd R.s P.toNat).m/\pp=(nd R.s P.toNat).p))
 case first =>
  go_region_held3 (fun O=>O.cell? ⟨d,0,none⟩=some (.slice (some ⟨g,0,none⟩) ns c0)/\O.cell? ⟨Z.heap.size,0,none⟩=some (.int .i64 P)/\O.cell? ⟨Z.heap.size,1,none⟩=some (.int .i64 U)) (go_keep) (first|(go_at_call 14;refine ye (D.out J.drew a7.out.drew) ?_;rintro e w5 ⟨nx,ka,kl,kc,rfl,a5,a9,b3⟩;have B5:Hid (Below J.heap.size J w5):=(yk _ _).drew.trans a5;have HX:Hid _:=a9;have c9:=zab l0 B5.out;have c6:=zab j0 B5.out;have c7:=zab j1 B5.out;clear a5 a9 b3)|(go_at_call 14;refine ye (D.out (J.alloc (.cells #[.bool false,.int .i64 0,.int .i64 0,.int .i64 0,.int .i64 0,.slice none 0 0,.int .i64 0,.bool false] 57)).drew (a7.out.trans ((zaa J _).mono a7.out.size)).drew) ?_;rintro e w5 ⟨nx,ka,kl,kc,rfl,a5,a9,b3⟩;have B5:Hid (Below J.heap.size J w5):=(zaa J _).drew.trans (a5.mono (by simp));have HX:Hid _:=a9;have c9:=zab l0 B5.out;have c6:=zab j0 B5.out;have c7:=zab j1 B5.out;have X3:Hid (w5.heap[J.heap.size]?=some (.cells #[.bool false,.int .i64 0,.int .i64 0,.int .i64 0,.int .i64 0,.slice none 0 0,.int .i64 0,.bool false] 57 (0,0))):=zaA (W:=(J.alloc (.cells #[.bool false,.int .i64 0,.int .i64 0,.int .i64 0,.int .i64 0,.slice none 0 0,.int .i64 0,.bool false] 57)).drew) (yL J _) a5;obtain⟨z0,z1,z2,z3,z4,z5,z6,z7,zf,zl⟩:=zdi X3.out;clear a5 a9 b3))
  ·go_wp2_with fail
   go_meet
   case rel =>
    have r:=zuC nx (.slice ka kl kc) 57 (yk J.heap.size J) B5.out;exact⟨_,_,_,rfl,rfl,r.1,r.2.1,r.2.2.1,r.2.2.2,fun h=>by rw[HX.out h];exact⟨rfl,rfl⟩⟩
  ·go_wp2_with fail
   go_meet
   case rel =>
    have r:=zuD nx (.slice ka kl kc) (yk J.heap.size J) B5.out X3.out;exact⟨_,_,_,rfl,rfl,r.1,r.2.1,r.2.2.1,r.2.2.2,fun h=>by rw[HX.out h];exact⟨rfl,rfl⟩⟩
 case rest =>
  obtain⟨b,m,pp,rfl,rfl,HB,hm,d7,e6,b9⟩:=hcut;have I2:Hid _:=II.out.below (a7.out.trans (HB.out.mono a7.out.size));replace j0:=zab j0 HB.out;obtain⟨m0,m1,m2,m3,mf,ml⟩:=zak I2.out.box;dsimp only at m0;rw[b5.out] at m0;clear j1 l0 II D hm d7 b9 m1 m2 m3;by_cases hE:E=0
  ·subst hE;by_cases hr:-1000000<=n/\n<=1000000
   ·obtain rfl:0=M:=by rw[<- HM.out];unfold zxG;rw[HE.out,yb rfl,yb hr]
    rw[yG hr] at DW;obtain⟨_,k,ek,hk,_⟩:=zcD HE.out;subst ek;have d6:=hk;rw[b5.out] at hk;have g0:(k:Int)<(ns:Int):=by omega
    obtain⟨r0,r1⟩:(∃ v,wc.cell? ⟨g,k*8+3,none⟩=some v)/\∀ o,wc.frozen? ⟨g,o,none⟩=false:=by
     obtain⟨_,F,hF,_⟩:=I2.out.own;exact⟨⟨_,hF.cell (by omega)⟩,hF.frozen⟩
    obtain⟨rv,r0⟩:=r0;have HS:Hid _:=I2.out.setMark d6 n rfl
    go_wp2_with fail
    refine ye (DW.out _) ?_;rintro e w6 ⟨rfl,a8⟩;have b2:=a8.symm;clear a8;subst b2
    go_wp2_with fail
    go_region
    go_wp2
    refine yw (v:=.tuple #[.int .i64 0,.int .i64 0]) (by simp[results,Tryz.results187,go_sem]) rfl ⟨0,rfl,HS.out.1.drew,?_⟩;have e2:zzr R.s (k:Int) n=R.s.set k { nd R.s k with m:=n }:=(by unfold zzr;rw[yi]);rw[zlj rfl,e2];exact⟨rfl,_,HS.out.2.1,HS.out.2.2.below (yk _ _).drew⟩
   ·obtain rfl:2=M:=by rw[<- HM.out];unfold zxG;rw[HE.out,yb rfl,ya hr]
    rw[yF hr] at DW
    go_wp2_with fail
    refine ye (DW.out _) ?_;rintro e w6 ⟨rfl,a8⟩;have b2:=a8.symm;clear a8;subst b2
    go_wp2
    exact yw (v:=.tuple #[.int .i64 0,.int .i64 2]) (by simp[results,Tryz.results187,go_sem]) rfl ⟨0,rfl,I2.out.bel,fun hE=>absurd hE (by decide)⟩
  ·obtain rfl:E=M:=by rw[<- HM.out];unfold zxG;rw[HE.out,ya hE]
   have hz:(E == 0)=false:=by simp[hE]
   go_wp2
   exact yw (v:=.tuple #[.int .i64 0,.int .i64 E]) (by simp[results,Tryz.results187,go_sem]) rfl ⟨0,rfl,I2.out.bel,fun h=>absurd h hE⟩
theorem zlQ(a:Option Addr)(l c:Nat)(n:Int)(W:World):yM 171 #[.agg #[.slice a l c],.int .i64 n] W fun e w' => e=.returned (.tuple #[.int .i64 n,.int .i64 0])/\Below W.heap.size W w' := by
 go_enter Tryz.func171,Tryz.ntmps171
 go_wp2
 exact yw (v:=.tuple #[.int .i64 n,.int .i64 0]) (by simp[results,Tryz.results171,go_sem]) rfl ⟨rfl,zaa _ _⟩
theorem zkb(a:Option Addr)(c:Nat)(G:List Cl)(k:Nat)(W:World)(F:zaI W a G)(J:k<G.length)(hl:G.length<=24):yM 172 #[.agg #[.slice a G.length c],.int .i64 (k:Int)] W fun e w' => e=.returned (.tuple #[.int .i64 (cl G k).n,.int .i64 0])/\Below W.heap.size W w' := by
 obtain⟨b,o,rfl,c0,_⟩:=F k J;obtain⟨l,E⟩:∃ l,G.length=l:=⟨_,rfl⟩;rw[E] at J hl |-;clear E F;obtain⟨Q,I⟩:∃ Q:Int,(l:Int)-1=Q:=⟨_,rfl⟩;have U:IntKind.i64.wrap ((l:Int)-1)=Q:=by rw[yI,<- I];omega
 have D:Hid (∀ W,Calls _ _ _ _ _):=fun W=>zew (k:Int) 0 Q W (by omega) (by omega);have O:(k:Int)<(l:Int):=by omega
 have M:=yd _ _ c0;clear I
 go_enter Tryz.func172,Tryz.ntmps172
 go_wp2_with fail
 refine ye (D.out _) ?_;rintro e Z ⟨rfl,T⟩;subst T
 go_wp2
 exact yw (v:=.tuple #[.int .i64 (cl G k).n,.int .i64 0]) (by simp[results,Tryz.results172,go_sem]) rfl ⟨rfl,zaa _ _⟩
theorem zlm(a:Option Addr)(l c:Nat)(n:Int)(W:World)(hn:¬ (0<=n/\n<l))(hl:l<=24):yM 172 #[.agg #[.slice a l c],.int .i64 n] W fun e w' => e=.returned (.tuple #[.int .i64 0,.int .i64 4])/\Below W.heap.size W w' := by
 obtain⟨Q,E⟩:∃ Q:Int,(l:Int)-1=Q:=⟨_,rfl⟩;have I:IntKind.i64.wrap ((l:Int)-1)=Q:=by rw[yI,<- E];omega
 have D:Hid (∀ W,Calls _ _ _ _ _):=fun W=>zhj n 0 Q W (by omega);clear E hn
 go_enter Tryz.func172,Tryz.ntmps172
 go_wp2_with fail
 refine ye (D.out _) ?_;rintro e J ⟨rfl,F⟩;subst F
 go_wp2
 exact yw (v:=.tuple #[.int .i64 0,.int .i64 4]) (by simp[results,Tryz.results172,go_sem]) rfl ⟨rfl,zaa _ _⟩
theorem zAz(w:World)(R:Rl)(x:Ac)(wf:WF R.s)(hl:R.hs.length=16)(ha:isH x.a)(b3:isH x.b):zmh 179 #[] w R x (aUp R x.b (hd R x.a)):=fun d h g A V I=>by
 unfold aUp;rw[zlk];obtain⟨a0,a1,a2,a3,c0,c1,c2,c3⟩:=A;obtain rfl:a0=some ⟨g,0,none⟩:=I.a0;obtain rfl:a1=some ⟨h,0,none⟩:=I.a1;obtain⟨xk,xa,xb,xc,xn⟩:=x;obtain⟨p,hp,c9⟩:=zmk ha;dsimp only at hp;subst hp;obtain⟨u0,u1⟩:=I.hand (k:=p) (by omega);obtain⟨r,hr,d4⟩:=zmk b3;dsimp only at hr;subst hr;obtain⟨v0,v1⟩:=I.hand (k:=r) (by omega);have II:Hid (WI w R d h g _ V):=I;have D:Hid (∀ W,Below V.heap.size V W->yM 14 #[.agg #[.slice (some ⟨g,0,none⟩) R.s.length c0],.agg #[.int .i64 (hd R (p:Int)).1,.int .i64 (hd R (p:Int)).2]] W fun e w' => ∃ (x:Nd) (ka:Option Addr) (kl kc:Nat),e=.returned (.tuple #[.agg #[.bool x.u,.int .i64 x.n,.int .i64 x.t,.int .i64 x.m,.int .i64 x.p,.slice ka kl kc,.int .i64 x.h,.bool x.c],.int .i64 (zaG R.s (hd R (p:Int)).1 (hd R (p:Int)).2)])/\Below W.heap.size W w' /\(zaG R.s (hd R (p:Int)).1 (hd R (p:Int)).2=0->x=nd R.s (hd R (p:Int)).1.toNat)/\(zaG R.s (hd R (p:Int)).1 (hd R (p:Int)).2≠0->x=zhl)):=fun W hW=>zfJ R.s _ _ _ c0 W wf (I.nds.below hW);obtain⟨l0,l1,l2,l3,fz,lt⟩:=zak I.box;dsimp only at l0 l1 l2 l3;rw[hl] at l1;have d6:d<V.heap.size:=lt;have e1:h<V.heap.size:=yd _ _ u0;have e2:(p:Int)<16:=by omega
 have e4:(r:Int)<16:=by omega
 show yM _ #[.pointer (some ⟨d,0,none⟩),.agg #[.int .i64 xk,.int .i64 p,.int .i64 r,.int .i64 xc,.int .i64 xn]] V _;obtain⟨ns,a7⟩:∃ n,R.s.length=n:=⟨_,rfl⟩;have b0:Hid (R.s.length=ns):=a7;have HL:Hid (R.hs.length=16):=hl;clear v0 v1 b3;clear ha hl;generalize hd R (p:Int)=hh at *;obtain⟨P,U⟩:=hh;dsimp only at u0 u1 D |-;obtain⟨E,hE⟩:∃ E,zaG R.s P U=E:=⟨_,rfl⟩;have HE:Hid (zaG R.s P U=E):=hE;obtain⟨M,hM⟩:∃ M,upE R.s P U=M:=⟨_,rfl⟩;have HM:Hid (upE R.s P U=M):=hM;rw[hE] at D;rw[hM];clear hE hM;rw[a7] at D l0;clear a7 I
 go_enter Tryz.func179,Tryz.ntmps179
 go_upto_region 1 with fail
 obtain⟨F,J⟩:∃ F,V.alloc (.cells #[.int .i64 xk,.int .i64 p,.int .i64 r,.int .i64 xc,.int .i64 xn] 36)=F:=⟨_,rfl⟩;have Z:Hid (Below V.heap.size V F):=by rw[<- J];exact zaa _ _
 have y0:F.cell? ⟨V.heap.size,0,none⟩=some (.int .i64 xk):=by rw[<- J];exact zad _ _ _ 0 rfl
 have y1:F.cell? ⟨V.heap.size,1,none⟩=some (.int .i64 p):=by rw[<- J];exact zad _ _ _ 1 rfl
 have y2:F.cell? ⟨V.heap.size,2,none⟩=some (.int .i64 r):=by rw[<- J];exact zad _ _ _ 2 rfl
 have y3:F.cell? ⟨V.heap.size,3,none⟩=some (.int .i64 xc):=by rw[<- J];exact zad _ _ _ 3 rfl
 have y4:F.cell? ⟨V.heap.size,4,none⟩=some (.int .i64 xn):=by rw[<- J];exact zad _ _ _ 4 rfl
 have sV:V.heap.size<F.heap.size:=yd _ _ y0;rw[J];clear J;replace u0:=zab u0 Z.out;replace u1:=zab u1 Z.out;replace l0:=zab l0 Z.out;replace l1:=zab l1 Z.out;replace l2:=zab l2 Z.out;replace l3:=zab l3 Z.out;have n0:¬ F.heap.size=d:=by omega
 have o0:¬ d=F.heap.size:=by omega
 have n1:¬ F.heap.size=h:=by omega
 have o1:¬ h=F.heap.size:=by omega
 have n2:¬ F.heap.size=V.heap.size:=by omega
 have o2:¬ V.heap.size=F.heap.size:=by omega
 have e5:d<F.heap.size:=by omega
 have e6:h<F.heap.size:=by omega
 clear fz lt
 go_cut [6,7] (fun s6 s7 wx=>∃ (b:Nat) (m pp:Int),s6=.pointer (some ⟨b,0,none⟩)/\s7=.int .i64 E/\Hid (Below F.heap.size F wx)/\wx.cell? ⟨b,3,none⟩=some (.int .i64 m)/\wx.cell? ⟨b,4,none⟩=some (.int .i64 pp)/\F.heap.size<=b/\Hid (E=0->m=(nd R.s P.toNat).m/\pp=(nd R.s P.toNat).p))
 case first =>
  go_region_held3 (fun a6=>a6.cell? ⟨d,0,none⟩=some (.slice (some ⟨g,0,none⟩) ns c0)/\a6.cell? ⟨d,1,none⟩=some (.slice (some ⟨h,0,none⟩) 16 c1)/\a6.cell? ⟨h,p*2,none⟩=some (.int .i64 P)/\a6.cell? ⟨h,p*2+1,none⟩=some (.int .i64 U)/\a6.cell? ⟨V.heap.size,1,none⟩=some (.int .i64 p)) (go_keep) (first|(go_at_call 14;refine ye (D.out F.drew Z.out.drew) ?_;rintro e w5 ⟨nx,ka,kl,kc,rfl,T,a5,a8⟩;have O:Hid (Below F.heap.size F w5):=(yk _ _).drew.trans T;have HX:Hid _:=a5;have b5:=zab l0 O.out;have b6:=zab l1 O.out;have b7:=zab u0 O.out;have b8:=zab u1 O.out;have b9:=zab y1 O.out;clear T a5 a8)|(go_at_call 14;refine ye (D.out (F.alloc (.cells #[.bool false,.int .i64 0,.int .i64 0,.int .i64 0,.int .i64 0,.slice none 0 0,.int .i64 0,.bool false] 57)).drew (Z.out.trans ((zaa F _).mono Z.out.size)).drew) ?_;rintro e w5 ⟨nx,ka,kl,kc,rfl,T,a5,a8⟩;have O:Hid (Below F.heap.size F w5):=(zaa F _).drew.trans (T.mono (by simp));have HX:Hid _:=a5;have b5:=zab l0 O.out;have b6:=zab l1 O.out;have b7:=zab u0 O.out;have b8:=zab u1 O.out;have b9:=zab y1 O.out;have X3:Hid (w5.heap[F.heap.size]?=some (.cells #[.bool false,.int .i64 0,.int .i64 0,.int .i64 0,.int .i64 0,.slice none 0 0,.int .i64 0,.bool false] 57 (0,0))):=zaA (W:=(F.alloc (.cells #[.bool false,.int .i64 0,.int .i64 0,.int .i64 0,.int .i64 0,.slice none 0 0,.int .i64 0,.bool false] 57)).drew) (yL F _) T;obtain⟨z0,z1,z2,z3,z4,z5,z6,z7,zf,zl⟩:=zdi X3.out;clear T a5 a8))
  ·go_wp2_with fail
   go_meet
   case rel =>
    have r:=zuC nx (.slice ka kl kc) 57 (yk F.heap.size F) O.out;exact⟨_,_,_,rfl,rfl,r.1,r.2.1,r.2.2.1,r.2.2.2,fun h=>by rw[HX.out h];exact⟨rfl,rfl⟩⟩
  ·go_wp2_with fail
   go_meet
   case rel =>
    have r:=zuD nx (.slice ka kl kc) (yk F.heap.size F) O.out X3.out;exact⟨_,_,_,rfl,rfl,r.1,r.2.1,r.2.2.1,r.2.2.2,fun h=>by rw[HX.out h];exact⟨rfl,rfl⟩⟩
 case rest =>
  obtain⟨b,m,pp,rfl,rfl,HB,hm,e3,d5,a9⟩:=hcut;have I2:Hid _:=II.out.below (Z.out.trans (HB.out.mono Z.out.size));by_cases hE:E=0
  ·subst hE;obtain⟨_,k,ek,hk,c6,_⟩:=zcD HE.out;subst ek;have hp:=(a9.out rfl).2;rw[yi] at hp;have HU:Hid (0=0->M=if (nd R.s k).p = -1 then 6 else 0):=fun _=>by rw[<- HM.out];unfold upE;rw[HE.out,yb rfl,yi]
   by_cases hn:(nd R.s k).p = -1
   ·obtain rfl:M=6:=by have h:=HU.out rfl;rw[yb hn] at h;exact h
    obtain rfl:pp = -1:=hp.trans hn;clear II D u0 u1 l0 l1 l2 l3 y0 y1 y2 y3 y4 hp hn
    go_wp2
    refine yw (v:=.tuple #[.int .i64 0,.int .i64 6]) (by simp[results,Tryz.results179,go_sem]) rfl ?_
    first|exact⟨⟨0,rfl⟩,I2.out.bel⟩|exact⟨0,rfl,I2.out.bel,fun hE=>absurd hE (by decide)⟩
   ·obtain rfl:M=0:=by have h:=HU.out rfl;rw[ya hn] at h;exact h
    obtain⟨f,ef,hf,_⟩:=wf.parent_place hk hn;obtain rfl:pp=(f:Int):=hp.trans ef;have b1:Hid (upH R.s (k:Int)=((f:Int),(nd R.s f).n)):=by show _=_;unfold upH;rw[yi,ef,yi]
    have b4:wc.cell? ⟨g,f*8+1,none⟩=some (.int .i64 (nd R.s f).n):=by
     obtain⟨b', o', e,c0,c1,_⟩:=I2.out.nds f hf;cases e;rw[yB] at c1;exact c1
    have d9:g<wc.heap.size:=yd _ _ b4;obtain⟨m0,m1,m2,m3,mf,ml⟩:=zak I2.out.box;dsimp only at m0 m1;rw[HL.out] at m1;rw[b0.out] at m0;have d7:f<ns:=(by rw[<- b0.out];exact hf);have d8:(f:Int)<(ns:Int):=(by omega);have c7:¬ ((f:Int) = -1):=(by omega);have c8:((f:Int) == -1)=false:=(by simp[c7]);obtain⟨r0,r1⟩:=I2.out.hand (k:=r) (by rw[HL.out];omega);have rf:=I2.out.row.frozen;have e0:h<wc.heap.size:=yd _ _ r0;replace y2:=zab y2 HB.out;have HS:Hid _:=I2.out.setHand (k:=r) (by rw[HL.out];omega) ((f:Int),(nd R.s f).n) rfl;obtain⟨N1,b2⟩:∃ N1,(nd R.s f).n=N1:=⟨_,rfl⟩;rw[b2] at b4 HS b1;clear II D u0 u1 l0 l1 l2 l3 y0 y1 y3 y4 hp hn ef b2 hm a9 hk c6 hf HU
    go_wp2_with fail
    go_region
    go_wp2
    refine yw (v:=.tuple #[.int .i64 0,.int .i64 0]) (by simp[results,Tryz.results179,go_sem]) rfl ⟨0,rfl,HS.out.1.drew,?_⟩;rw[zlj rfl,b1.out];exact⟨rfl,_,HS.out.2.1,HS.out.2.2.below (yk _ _).drew⟩
  ·obtain rfl:M=E:=by rw[<- HM.out];unfold upE;rw[HE.out,ya hE]
   have hz:(M == 0)=false:=(by simp[hE]);clear II D u0 u1 l0 l1 l2 l3 y0 y1 y2 y3 y4
   go_wp2
   exact yw (v:=.tuple #[.int .i64 0,.int .i64 M]) (by simp[results,Tryz.results179,go_sem]) rfl ⟨0,rfl,I2.out.bel,fun h=>absurd h hE⟩
theorem zmf(F:Nat)(eg:∀ args w,(callFunc F args).run Tryz.prog w=.ok (.enter F args) w)(O:Nat)(w:World)(hc:w.cell? ⟨O,0,none⟩=some (.func (.func F) #[] #[]))(R:Rl)(x:Ac)(hl:R.hs.length=16)(hb:¬ isH x.b):zmh 191 #[.pointer (some ⟨O,0,none⟩)] w R x (bad 4):=fun d h g A V I=>by
 rw[(znV 4).2.2];obtain⟨a0,a1,a2,a3,c0,c1,c2,c3⟩:=A;obtain⟨xk,xa,Z,xc,xn⟩:=x;have k0:=(I.bel.cell (yd _ _ hc)).trans hc;obtain⟨l0,l1,l2,l3,fz,lt⟩:=zak I.box;dsimp only at l0 l1 l2 l3;have b2:d<V.heap.size:=lt;have b1:O<V.heap.size:=yd _ _ k0;have II:Hid (WI w R d h g _ V):=I;have DH:Hid (∀ W,Calls _ _ _ _ _):=fun W=>zcF ⟨a0,a1,a2,a3,c0,c1,c2,c3⟩ R Z W hl;dsimp only[rlV] at DH;show yM _ #[.pointer (some ⟨d,0,none⟩),.agg #[.int .i64 xk,.int .i64 xa,.int .i64 Z,.int .i64 xc,.int .i64 xn],.pointer (some ⟨O,0,none⟩)] V _;rw[yF hb] at DH;clear hl I hc hb;generalize R.s.length=ns at *;generalize R.hs.length=nh at *;generalize R.i.length=ni at *;generalize R.t.length=nt at *
 go_enter Tryz.func191,Tryz.ntmps191
 go_upto_region 1 with fail
 obtain⟨D,E⟩:∃ D,V.alloc (.cells #[.int .i64 xk,.int .i64 xa,.int .i64 Z,.int .i64 xc,.int .i64 xn] 36)=D:=⟨_,rfl⟩;have M:Hid (Below V.heap.size V D):=by rw[<- E];exact zaa _ _
 have y0:D.cell? ⟨V.heap.size,0,none⟩=some (.int .i64 xk):=by rw[<- E];exact zad _ _ _ 0 rfl
 have y1:D.cell? ⟨V.heap.size,1,none⟩=some (.int .i64 xa):=by rw[<- E];exact zad _ _ _ 1 rfl
 have y2:D.cell? ⟨V.heap.size,2,none⟩=some (.int .i64 Z):=by rw[<- E];exact zad _ _ _ 2 rfl
 have y3:D.cell? ⟨V.heap.size,3,none⟩=some (.int .i64 xc):=by rw[<- E];exact zad _ _ _ 3 rfl
 have y4:D.cell? ⟨V.heap.size,4,none⟩=some (.int .i64 xn):=by rw[<- E];exact zad _ _ _ 4 rfl
 have sV:V.heap.size<D.heap.size:=yd _ _ y0;rw[E];clear E;replace l0:=zab l0 M.out;replace l1:=zab l1 M.out;replace l2:=zab l2 M.out;replace l3:=zab l3 M.out;replace k0:=zab k0 M.out;have n0:¬ D.heap.size=d:=by omega
 have o0:¬ d=D.heap.size:=by omega
 have n2:¬ D.heap.size=O:=by omega
 have o2:¬ O=D.heap.size:=by omega
 have n3:¬ D.heap.size=V.heap.size:=by omega
 have o3:¬ V.heap.size=D.heap.size:=by omega
 have b3:d<D.heap.size:=by omega
 have a5:O<D.heap.size:=by omega
 clear fz lt
 go_region_held3 (fun J=>J.cell? ⟨d,0,none⟩=some (.slice a0 ns c0)/\J.cell? ⟨d,1,none⟩=some (.slice a1 nh c1)/\J.cell? ⟨d,2,none⟩=some (.slice a2 ni c2)/\J.cell? ⟨d,3,none⟩=some (.slice a3 nt c3)/\J.cell? ⟨V.heap.size,2,none⟩=some (.int .i64 Z)) (go_keep) (first|(go_at_call 161;refine ye (DH.out D.drew) ?_;rintro e w3 ⟨rfl,U⟩;have T:Hid (Below D.heap.size D w3):=(yk _ _).drew.trans U;have a6:=zab l0 T.out;have a7:=zab l1 T.out;have a8:=zab l2 T.out;have a9:=zab l3 T.out;have b0:=zab y2 T.out;clear U))
 have I2:Hid _:=II.out.below (M.out.trans (T.out.mono M.out.size))
 go_wp2
 exact yw (v:=.tuple #[.int .i64 0,.int .i64 4]) (by simp[results,Tryz.results191,go_sem]) rfl ⟨0,rfl,I2.out.bel,fun hE=>absurd hE (by decide)⟩
theorem zjS(F:Nat)(eg:∀ args w,(callFunc F args).run Tryz.prog w=.ok (.enter F args) w)(Z:Nat)(w:World)(hc:w.cell? ⟨Z,0,none⟩=some (.func (.func F) #[] #[]))(R:Rl)(x:Ac)(hl:R.hs.length=16)(hb:isH x.b)(q:Rs)(hF:zmh F #[] w R x q):zmh 191 #[.pointer (some ⟨Z,0,none⟩)] w R x q:=fun d h g A V I=>by
 have D:Hid (∀ T,WI w R d h g A T->yM F #[.pointer (some ⟨d,0,none⟩),acV x] T fun e T=>∃ o:Int,e=.returned (.tuple #[.int .i64 o,.int .i64 q.e])/\Below w.heap.size w T/\(q.e=0->o=q.o/\∃ B:RA,T.heap[d]?=some (bxR B q.r)/\RlF w.heap.size d T B q.r)):=fun T I' => hF d h g A T I';clear hF;dsimp only[acV] at D;obtain⟨a0,a1,a2,a3,c0,c1,c2,c3⟩:=A;obtain⟨xk,xa,xb,xc,xn⟩:=x;have k0:=(I.bel.cell (yd _ _ hc)).trans hc;obtain⟨l0,l1,l2,l3,fz,lt⟩:=zak I.box;dsimp only at l0 l1 l2 l3;have b7:d<V.heap.size:=lt;have b6:Z<V.heap.size:=yd _ _ k0;have II:Hid (WI w R d h g _ V):=I;have DH:Hid (∀ W,Calls _ _ _ _ _):=fun W=>zcF ⟨a0,a1,a2,a3,c0,c1,c2,c3⟩ R xb W hl;dsimp only[rlV] at DH;show yM _ #[.pointer (some ⟨d,0,none⟩),.agg #[.int .i64 xk,.int .i64 xa,.int .i64 xb,.int .i64 xc,.int .i64 xn],.pointer (some ⟨Z,0,none⟩)] V _;rw[yG hb] at DH;clear hl I hc hb;generalize R.s.length=ns at *;generalize R.hs.length=nh at *;generalize R.i.length=ni at *;generalize R.t.length=nt at *
 go_enter Tryz.func191,Tryz.ntmps191
 go_upto_region 1 with fail
 obtain⟨E,J⟩:∃ E,V.alloc (.cells #[.int .i64 xk,.int .i64 xa,.int .i64 xb,.int .i64 xc,.int .i64 xn] 36)=E:=⟨_,rfl⟩;have U:Hid (Below V.heap.size V E):=by rw[<- J];exact zaa _ _
 have y0:E.cell? ⟨V.heap.size,0,none⟩=some (.int .i64 xk):=by rw[<- J];exact zad _ _ _ 0 rfl
 have y1:E.cell? ⟨V.heap.size,1,none⟩=some (.int .i64 xa):=by rw[<- J];exact zad _ _ _ 1 rfl
 have y2:E.cell? ⟨V.heap.size,2,none⟩=some (.int .i64 xb):=by rw[<- J];exact zad _ _ _ 2 rfl
 have y3:E.cell? ⟨V.heap.size,3,none⟩=some (.int .i64 xc):=by rw[<- J];exact zad _ _ _ 3 rfl
 have y4:E.cell? ⟨V.heap.size,4,none⟩=some (.int .i64 xn):=by rw[<- J];exact zad _ _ _ 4 rfl
 have sV:V.heap.size<E.heap.size:=yd _ _ y0;rw[J];clear J;replace l0:=zab l0 U.out;replace l1:=zab l1 U.out;replace l2:=zab l2 U.out;replace l3:=zab l3 U.out;replace k0:=zab k0 U.out;have n0:¬ E.heap.size=d:=by omega
 have o0:¬ d=E.heap.size:=by omega
 have n2:¬ E.heap.size=Z:=by omega
 have o2:¬ Z=E.heap.size:=by omega
 have n3:¬ E.heap.size=V.heap.size:=by omega
 have o3:¬ V.heap.size=E.heap.size:=by omega
 have b8:d<E.heap.size:=by omega
 have b5:Z<E.heap.size:=by omega
 clear fz lt
 go_region_held3 (fun O=>O.cell? ⟨d,0,none⟩=some (.slice a0 ns c0)/\O.cell? ⟨d,1,none⟩=some (.slice a1 nh c1)/\O.cell? ⟨d,2,none⟩=some (.slice a2 ni c2)/\O.cell? ⟨d,3,none⟩=some (.slice a3 nt c3)/\O.cell? ⟨V.heap.size,2,none⟩=some (.int .i64 xb)) (go_keep) (first|(go_at_call 161;refine ye (DH.out E.drew) ?_;rintro e w3 ⟨rfl,a5⟩;have M:Hid (Below E.heap.size E w3):=(yk _ _).drew.trans a5;have b0:=zab l0 M.out;have b1:=zab l1 M.out;have b2:=zab l2 M.out;have b3:=zab l3 M.out;have b4:=zab y2 M.out;clear a5))
 have I2:Hid _:=II.out.below (U.out.trans (M.out.mono U.out.size));replace k0:=zab k0 M.out;replace y0:=zab y0 M.out;replace y1:=zab y1 M.out;replace y2:=zab y2 M.out;replace y3:=zab y3 M.out;replace y4:=zab y4 M.out;clear b0 b1 b2 b3 b4 l0 l1 l2 l3
 go_wp2_with fail
 refine ye (D.out _ I2.out) ?_;rintro e V5 ⟨o,rfl,a6,a7⟩;have a8:Hid _:=a6;have a9:Hid _:=a7;clear a6 a7 D II I2
 go_wp2
 exact yw (v:=.tuple #[.int .i64 o,.int .i64 q.e]) (by simp[results,Tryz.results191,go_sem]) rfl ⟨o,rfl,a8.out,a9.out⟩
theorem zic(F:Nat)(W:World):yM 166 #[.func (.func F) #[] #[]] W fun e w' => e=.returned (.func (.func 183) #[] #[.pointer (some ⟨W.heap.size,0,none⟩)])/\Below W.heap.size W w' /\ w'.cell? ⟨W.heap.size,0,none⟩=some (.func (.func F) #[] #[]):=by
 go_enter Tryz.func166,Tryz.ntmps166
 go_wp2
 go_ret;exact⟨rfl,zaa _ _,zad _ _ _ 0 rfl⟩
theorem zkQ(F:Nat)(W:World):yM 170 #[.func (.func F) #[] #[]] W fun e w' => e=.returned (.func (.func 187) #[] #[.pointer (some ⟨W.heap.size,0,none⟩)])/\Below W.heap.size W w' /\ w'.cell? ⟨W.heap.size,0,none⟩=some (.func (.func F) #[] #[]):=by
 go_enter Tryz.func170,Tryz.ntmps170
 go_wp2
 go_ret;exact⟨rfl,zaa _ _,zad _ _ _ 0 rfl⟩
theorem zes(F:Nat)(W:World):yM 173 #[.func (.func F) #[] #[]] W fun e w' => e=.returned (.func (.func 188) #[] #[.pointer (some ⟨W.heap.size,0,none⟩)])/\Below W.heap.size W w' /\ w'.cell? ⟨W.heap.size,0,none⟩=some (.func (.func F) #[] #[]):=by
 go_enter Tryz.func173,Tryz.ntmps173
 go_wp2
 go_ret;exact⟨rfl,zaa _ _,zad _ _ _ 0 rfl⟩
theorem zdB(F:Nat)(W:World):yM 176 #[.func (.func F) #[] #[]] W fun e w' => e=.returned (.func (.func 191) #[] #[.pointer (some ⟨W.heap.size,0,none⟩)])/\Below W.heap.size W w' /\ w'.cell? ⟨W.heap.size,0,none⟩=some (.func (.func F) #[] #[]):=by
 go_enter Tryz.func176,Tryz.ntmps176
 go_wp2
 go_ret;exact⟨rfl,zaa _ _,zad _ _ _ 0 rfl⟩
end Go.Proofs.YtcbcpomacdngmaaGreat
