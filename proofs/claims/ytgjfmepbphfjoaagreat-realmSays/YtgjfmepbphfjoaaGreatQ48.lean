/-
  x
-/
import Derived.Test.YtgjfmepbphfjoaaGreatQ47
namespace Go.Proofs.YtgjfmepbphfjoaaGreat
set_option maxRecDepth 100000
set_option maxHeartbeats 4000000
set_option linter.unusedVariables false
open Go.RowKit Go.ChangeShapes Go.WideShapes
theorem zrI(F:Nat)(eg:∀ args w,(callFunc F args).run Tryz.prog w=.ok (.enter F args) w)(T:Nat)(w:World)(hc:w.cell? ⟨T,0,none⟩=some (.func (.func F) #[] #[]))(R:Rl)(x:Ac)(wf:WF R.s)(hl:R.hs.length=16)(ha:isH x.a)(Z n:Int)(e0:Z≠0)
  (hF:∀ (a:Option Addr) (c:Nat) (W:World),zaY W a R.i->Calls Tryz.prog F #[.agg #[.slice a R.i.length c],.int .i64 x.n] W fun e w' => e=.returned (.tuple #[.int .i64 n,.int .i64 Z])/\Below W.heap.size W w') :
  zit 107 #[.pointer (some ⟨T,0,none⟩)] w R x (bad Z):=fun d h g A V I=>by
 rw[(zjP Z).2.2];have hz:(Z == 0)=false:=by simp[e0]
 obtain⟨a0,a1,a2,a3,c0,c1,c2,c3⟩:=A;obtain rfl:a0=some ⟨g,0,none⟩:=I.a0;obtain rfl:a1=some ⟨h,0,none⟩:=I.a1;obtain⟨xk,xa,xb,xc,xn⟩:=x;obtain⟨p,hp,a8⟩:=zjc ha;dsimp only at hp;subst hp;obtain⟨u0,u1⟩:=I.hand (k:=p) (by omega);have II:Hid (WI w R d h g _ V):=I;have D:Hid (∀ W,Below V.heap.size V W->Calls Tryz.prog 10 #[.agg #[.slice (some ⟨g,0,none⟩) R.s.length c0],.agg #[.int .i64 (hd R (p:Int)).1,.int .i64 (hd R (p:Int)).2]] W fun e w' => ∃ (x:Nd) (ka:Option Addr) (kl kc:Nat),e=.returned (.tuple #[.agg #[.bool x.u,.int .i64 x.n,.int .i64 x.t,.int .i64 x.m,.int .i64 x.p,.slice ka kl kc,.int .i64 x.h,.bool x.c],.int .i64 (zas R.s (hd R (p:Int)).1 (hd R (p:Int)).2)])/\Below W.heap.size W w' /\(zas R.s (hd R (p:Int)).1 (hd R (p:Int)).2=0->x=nd R.s (hd R (p:Int)).1.toNat)/\(zas R.s (hd R (p:Int)).1 (hd R (p:Int)).2≠0->x=zdd)):=fun W hW=>zgd R.s _ _ _ c0 W wf (I.nds.below hW);have DF:Hid (∀ W,Below V.heap.size V W->Calls Tryz.prog F #[.agg #[.slice a2 R.i.length c2],.int .i64 xn] W fun e w' => e=.returned (.tuple #[.int .i64 n,.int .i64 Z])/\Below W.heap.size W w'):=fun W hW=>hF a2 c2 W (I.cls.at.below hW);clear hF;have k0:=(I.bel.cell (ye _ _ hc)).trans hc;obtain⟨l0,l1,l2,l3,fz,lt⟩:=zaa I.box;dsimp only at l0 l1 l2 l3;rw[hl] at l1;have b9:d<V.heap.size:=lt;have c6:h<V.heap.size:=ye _ _ u0;have b8:T<V.heap.size:=ye _ _ k0;have c7:(p:Int)<16:=by omega
 show Calls Tryz.prog _ #[.pointer (some ⟨d,0,none⟩),.agg #[.int .i64 xk,.int .i64 p,.int .i64 xb,.int .i64 xc,.int .i64 xn],.pointer (some ⟨T,0,none⟩)] V _;obtain⟨ns,a7⟩:∃ n,R.s.length=n:=⟨_,rfl⟩;have b4:Hid (R.s.length=ns):=a7;clear ha hl;generalize hd R (p:Int)=hh at *;obtain⟨P,U⟩:=hh;dsimp only at u0 u1 D |-;obtain⟨ni,a6⟩:∃ n,R.i.length=n:=⟨_,rfl⟩;rw[a6] at DF l2;clear a6 hc;clear a7 I
 go_enter Tryz.func107,Tryz.ntmps107
 go_upto_region 1 with fail
 obtain⟨J,M⟩:∃ J,V.alloc (.cells #[.int .i64 xk,.int .i64 p,.int .i64 xb,.int .i64 xc,.int .i64 xn] 41)=J:=⟨_,rfl⟩;have O:Hid (Below V.heap.size V J):=by rw[<- M];exact zab _ _
 have y0:J.cell? ⟨V.heap.size,0,none⟩=some (.int .i64 xk):=by rw[<- M];exact zad _ _ _ 0 rfl
 have y1:J.cell? ⟨V.heap.size,1,none⟩=some (.int .i64 p):=by rw[<- M];exact zad _ _ _ 1 rfl
 have y2:J.cell? ⟨V.heap.size,2,none⟩=some (.int .i64 xb):=by rw[<- M];exact zad _ _ _ 2 rfl
 have y3:J.cell? ⟨V.heap.size,3,none⟩=some (.int .i64 xc):=by rw[<- M];exact zad _ _ _ 3 rfl
 have y4:J.cell? ⟨V.heap.size,4,none⟩=some (.int .i64 xn):=by rw[<- M];exact zad _ _ _ 4 rfl
 have sV:V.heap.size<J.heap.size:=ye _ _ y0;rw[M];clear M;replace u0:=zac u0 O.out;replace u1:=zac u1 O.out;replace l0:=zac l0 O.out;replace l1:=zac l1 O.out;replace l2:=zac l2 O.out;replace l3:=zac l3 O.out;replace k0:=zac k0 O.out;have n0:¬ J.heap.size=d:=by omega
 have o0:¬ d=J.heap.size:=by omega
 have n1:¬ J.heap.size=h:=by omega
 have o1:¬ h=J.heap.size:=by omega
 have n2:¬ J.heap.size=T:=by omega
 have o2:¬ T=J.heap.size:=by omega
 have n3:¬ J.heap.size=V.heap.size:=by omega
 have o3:¬ V.heap.size=J.heap.size:=by omega
 have c8:d<J.heap.size:=by omega
 have c9:h<J.heap.size:=by omega
 have a9:T<J.heap.size:=by omega
 clear fz lt
 go_region_held3 (fun a4=>a4.cell? ⟨T,0,none⟩=some (.func (.func F) #[] #[])/\a4.cell? ⟨d,2,none⟩=some (.slice a2 ni c2)/\a4.cell? ⟨V.heap.size,4,none⟩=some (.int .i64 xn)) (go_keep) (first|(refine yf (DF.out J.drew O.out.drew) ?_;rintro e w2 ⟨rfl,a5⟩;have B2:Hid (Below J.heap.size J w2):=(yj _ _).drew.trans a5;have b5:=zac k0 B2.out;have b6:=zac l2 B2.out;have b7:=zac y4 B2.out;clear a5))
 have I2:Hid _:=II.out.below (O.out.trans (B2.out.mono O.out.size))
 go_wp2
 exact yq (v:=.tuple #[.int .i64 0,.int .i64 Z]) (by simp[results,Tryz.results107,go_sem]) rfl ⟨0,rfl,I2.out.bel,fun hE=>absurd hE e0⟩
theorem zlh(F:Nat)(eg:∀ args w,(callFunc F args).run Tryz.prog w=.ok (.enter F args) w)(cb:Nat)(w:World)(hc:w.cell? ⟨cb,0,none⟩=some (.func (.func F) #[] #[]))(R:Rl)(x:Ac)(wf:WF R.s)(hl:R.hs.length=16)(ha:isH x.a)(n:Int)
  (hF:∀ (a:Option Addr) (c:Nat) (W:World),zaY W a R.i->Calls Tryz.prog F #[.agg #[.slice a R.i.length c],.int .i64 x.n] W fun e w' => e=.returned (.tuple #[.int .i64 n,.int .i64 0])/\Below W.heap.size W w') :
  zit 107 #[.pointer (some ⟨cb,0,none⟩)] w R x (zkN R (hd R x.a) n):=fun d h g A V I=>by
 unfold zkN;rw[zhG];obtain⟨a0,a1,a2,a3,c0,c1,c2,c3⟩:=A;obtain rfl:a0=some ⟨g,0,none⟩:=I.a0;obtain rfl:a1=some ⟨h,0,none⟩:=I.a1;obtain⟨xk,xa,xb,xc,xn⟩:=x;obtain⟨p,hp,e8⟩:=zjc ha;dsimp only at hp;subst hp;obtain⟨u0,u1⟩:=I.hand (k:=p) (by omega);have II:Hid (WI w R d h g _ V):=I;have D:Hid (∀ W,Below V.heap.size V W->Calls Tryz.prog 10 #[.agg #[.slice (some ⟨g,0,none⟩) R.s.length c0],.agg #[.int .i64 (hd R (p:Int)).1,.int .i64 (hd R (p:Int)).2]] W fun e w' => ∃ (x:Nd) (ka:Option Addr) (kl kc:Nat),e=.returned (.tuple #[.agg #[.bool x.u,.int .i64 x.n,.int .i64 x.t,.int .i64 x.m,.int .i64 x.p,.slice ka kl kc,.int .i64 x.h,.bool x.c],.int .i64 (zas R.s (hd R (p:Int)).1 (hd R (p:Int)).2)])/\Below W.heap.size W w' /\(zas R.s (hd R (p:Int)).1 (hd R (p:Int)).2=0->x=nd R.s (hd R (p:Int)).1.toNat)/\(zas R.s (hd R (p:Int)).1 (hd R (p:Int)).2≠0->x=zdd)):=fun W hW=>zgd R.s _ _ _ c0 W wf (I.nds.below hW);have DF:Hid (∀ W,Below V.heap.size V W->Calls Tryz.prog F #[.agg #[.slice a2 R.i.length c2],.int .i64 xn] W fun e w' => e=.returned (.tuple #[.int .i64 n,.int .i64 0])/\Below W.heap.size W w'):=fun W hW=>hF a2 c2 W (I.cls.at.below hW);clear hF;have k0:=(I.bel.cell (ye _ _ hc)).trans hc;obtain⟨l0,l1,l2,l3,fz,lt⟩:=zaa I.box;dsimp only at l0 l1 l2 l3;rw[hl] at l1;have f6:d<V.heap.size:=lt;have f7:h<V.heap.size:=ye _ _ u0;have f0:cb<V.heap.size:=ye _ _ k0;have f9:(p:Int)<16:=by omega
 show Calls Tryz.prog _ #[.pointer (some ⟨d,0,none⟩),.agg #[.int .i64 xk,.int .i64 p,.int .i64 xb,.int .i64 xc,.int .i64 xn],.pointer (some ⟨cb,0,none⟩)] V _;obtain⟨ns,a9⟩:∃ n,R.s.length=n:=⟨_,rfl⟩;have b6:Hid (R.s.length=ns):=a9;clear ha hl;generalize hd R (p:Int)=hh at *;obtain⟨P,U⟩:=hh;dsimp only at u0 u1 D |-;obtain⟨ni,b7⟩:∃ n,R.i.length=n:=⟨_,rfl⟩;rw[b7] at DF l2;clear b7 hc;obtain⟨E,hE⟩:∃ E,zas R.s P U=E:=⟨_,rfl⟩;have HE:Hid (zas R.s P U=E):=hE;obtain⟨M,hM⟩:∃ M,zlk R.s P U n=M:=⟨_,rfl⟩;have HM:Hid (zlk R.s P U n=M):=hM;rw[hE] at D;rw[hM];clear hE hM;rw[a9] at D l0;clear a9 I;have DW:Hid (∀ W,Calls _ _ _ _ _):=fun W=>zbf n (-1000000) 1000000 W
 go_enter Tryz.func107,Tryz.ntmps107
 go_upto_region 1 with fail
 obtain⟨T,a4⟩:∃ T,V.alloc (.cells #[.int .i64 xk,.int .i64 p,.int .i64 xb,.int .i64 xc,.int .i64 xn] 41)=T:=⟨_,rfl⟩;have BV:Hid (Below V.heap.size V T):=by rw[<- a4];exact zab _ _
 have y0:T.cell? ⟨V.heap.size,0,none⟩=some (.int .i64 xk):=by rw[<- a4];exact zad _ _ _ 0 rfl
 have y1:T.cell? ⟨V.heap.size,1,none⟩=some (.int .i64 p):=by rw[<- a4];exact zad _ _ _ 1 rfl
 have y2:T.cell? ⟨V.heap.size,2,none⟩=some (.int .i64 xb):=by rw[<- a4];exact zad _ _ _ 2 rfl
 have y3:T.cell? ⟨V.heap.size,3,none⟩=some (.int .i64 xc):=by rw[<- a4];exact zad _ _ _ 3 rfl
 have y4:T.cell? ⟨V.heap.size,4,none⟩=some (.int .i64 xn):=by rw[<- a4];exact zad _ _ _ 4 rfl
 have sV:V.heap.size<T.heap.size:=ye _ _ y0;rw[a4];clear a4;replace u0:=zac u0 BV.out;replace u1:=zac u1 BV.out;replace l0:=zac l0 BV.out;replace l1:=zac l1 BV.out;replace l2:=zac l2 BV.out;replace l3:=zac l3 BV.out;replace k0:=zac k0 BV.out;have n0:¬ T.heap.size=d:=by omega
 have o0:¬ d=T.heap.size:=by omega
 have n1:¬ T.heap.size=h:=by omega
 have o1:¬ h=T.heap.size:=by omega
 have n2:¬ T.heap.size=cb:=by omega
 have o2:¬ cb=T.heap.size:=by omega
 have n3:¬ T.heap.size=V.heap.size:=by omega
 have o3:¬ V.heap.size=T.heap.size:=by omega
 have b9:d<T.heap.size:=by omega
 have e7:h<T.heap.size:=by omega
 have b8:cb<T.heap.size:=by omega
 clear fz lt
 go_region_held3 (fun O=>O.cell? ⟨cb,0,none⟩=some (.func (.func F) #[] #[])/\O.cell? ⟨d,2,none⟩=some (.slice a2 ni c2)/\O.cell? ⟨V.heap.size,4,none⟩=some (.int .i64 xn)) (go_keep) (first|(refine yf (DF.out T.drew BV.out.drew) ?_;rintro e w2 ⟨rfl,Z⟩;have B2:Hid (Below T.heap.size T w2):=(yj _ _).drew.trans Z;have c9:=zac k0 B2.out;have d7:=zac l2 B2.out;have d8:=zac y4 B2.out;clear Z))
 replace u0:=zac u0 B2.out;replace u1:=zac u1 B2.out;replace l0:=zac l0 B2.out;replace l1:=zac l1 B2.out;replace y1:=zac y1 B2.out;have s3:=B2.out.size;have q0:d<w2.heap.size:=by omega
 have q1:h<w2.heap.size:=by omega
 have q2:V.heap.size<w2.heap.size:=by omega
 have e0:¬ w2.heap.size=d:=by omega
 have e1:¬ w2.heap.size=h:=by omega
 have e2:¬ w2.heap.size=V.heap.size:=by omega
 have e3:¬ d=w2.heap.size:=by omega
 have e4:¬ h=w2.heap.size:=by omega
 have e5:¬ V.heap.size=w2.heap.size:=by omega
 have b5:Hid (Below V.heap.size V w2):=BV.out.trans (B2.out.mono BV.out.size);clear c9 d7 d8 k0 l2 l3 y0 y2 y3 y4 n0 n1 n2 n3 o0 o1 o2 o3 b9 e7 b8 DF B2 BV
 go_wp2_with fail
 go_region_held3 (fun O=>O.cell? ⟨d,1,none⟩=some (.slice (some ⟨h,0,none⟩) 16 c1)/\O.cell? ⟨h,p*2,none⟩=some (.int .i64 P)/\O.cell? ⟨h,p*2+1,none⟩=some (.int .i64 U)/\O.cell? ⟨V.heap.size,1,none⟩=some (.int .i64 p)) (go_keep) (fail)
 go_upto_region 5 with fail
 obtain⟨J,a8⟩:∃ J,(w2.alloc (.cells #[.int .i64 P,.int .i64 U] 39)).drew=J:=⟨_,rfl⟩;have B4:Hid (Below w2.heap.size w2 J):=by rw[<- a8];exact(zab _ _).drew
 have a5:Hid (Below V.heap.size V J):=b5.out.trans (B4.out.mono b5.out.size);have X4:Hid (J.heap[w2.heap.size]?=some (.cells #[.int .i64 P,.int .i64 U] 39 (0,0))):=by rw[<- a8];exact heap_alloc_new w2 _
 rw[a8];clear a8;obtain⟨j0,j1,jl⟩:=zcj X4.out;replace l0:=zac l0 B4.out;have s4:=B4.out.size;have b9:d<J.heap.size:=by omega
 have n0:¬ J.heap.size=d:=by omega
 have o0:¬ d=J.heap.size:=by omega
 have n1:¬ J.heap.size=w2.heap.size:=by omega
 have o1:¬ w2.heap.size=J.heap.size:=by omega
 clear u0 u1 l1 y1 e0 e1 e2 e3 e4 e5
 go_cut [10,11] (fun s10 s11 wx=>∃ (b:Nat) (m pp:Int),s10=.pointer (some ⟨b,0,none⟩)/\s11=.int .i64 E/\Hid (Below J.heap.size J wx)/\wx.cell? ⟨b,3,none⟩=some (.int .i64 m)/\wx.cell? ⟨b,4,none⟩=some (.int .i64 pp)/\J.heap.size<=b/\Hid (E=0->m=(nd R.s P.toNat).m/\pp=(nd R.s P.toNat).p))
 case first =>
  go_region_held3 (fun O=>O.cell? ⟨d,0,none⟩=some (.slice (some ⟨g,0,none⟩) ns c0)/\O.cell? ⟨w2.heap.size,0,none⟩=some (.int .i64 P)/\O.cell? ⟨w2.heap.size,1,none⟩=some (.int .i64 U)) (go_keep) (first|(go_at_call 10;refine yf (D.out J.drew a5.out.drew) ?_;rintro e w5 ⟨nx,ka,kl,kc,rfl,Z,a7,hx2⟩;have B5:Hid (Below J.heap.size J w5):=(yj _ _).drew.trans Z;have HX:Hid _:=a7;have d6:=zac l0 B5.out;have c7:=zac j0 B5.out;have c8:=zac j1 B5.out;clear Z a7 hx2)|(go_at_call 10;refine yf (D.out (J.alloc (.cells #[.bool false,.int .i64 0,.int .i64 0,.int .i64 0,.int .i64 0,.slice none 0 0,.int .i64 0,.bool false] 47)).drew (a5.out.trans ((zab J _).mono a5.out.size)).drew) ?_;rintro e w5 ⟨nx,ka,kl,kc,rfl,Z,a7,hx2⟩;have B5:Hid (Below J.heap.size J w5):=(zab J _).drew.trans (Z.mono (by simp));have HX:Hid _:=a7;have d6:=zac l0 B5.out;have c7:=zac j0 B5.out;have c8:=zac j1 B5.out;have X3:Hid (w5.heap[J.heap.size]?=some (.cells #[.bool false,.int .i64 0,.int .i64 0,.int .i64 0,.int .i64 0,.slice none 0 0,.int .i64 0,.bool false] 47 (0,0))):=zaU (W:=(J.alloc (.cells #[.bool false,.int .i64 0,.int .i64 0,.int .i64 0,.int .i64 0,.slice none 0 0,.int .i64 0,.bool false] 47)).drew) (heap_alloc_new J _) Z;obtain⟨z0,z1,z2,z3,z4,z5,z6,z7,zf,zl⟩:=zew X3.out;clear Z a7 hx2))
  ·go_wp2_with fail
   go_meet
   case rel =>
    have r:=zrV nx (.slice ka kl kc) 47 (yj J.heap.size J) B5.out;exact⟨_,_,_,rfl,rfl,r.1,r.2.1,r.2.2.1,r.2.2.2,fun h=>by rw[HX.out h];exact⟨rfl,rfl⟩⟩
  ·go_wp2_with fail
   go_meet
   case rel =>
    have r:=zrW nx (.slice ka kl kc) (yj J.heap.size J) B5.out X3.out;exact⟨_,_,_,rfl,rfl,r.1,r.2.1,r.2.2.1,r.2.2.2,fun h=>by rw[HX.out h];exact⟨rfl,rfl⟩⟩
 case rest =>
  obtain⟨b,m,pp,rfl,rfl,HB,hm,e6,e9,c6⟩:=hcut;have I2:Hid _:=II.out.below (a5.out.trans (HB.out.mono a5.out.size));replace j0:=zac j0 HB.out;obtain⟨m0,m1,m2,m3,mf,ml⟩:=zaa I2.out.box;dsimp only at m0;rw[b6.out] at m0;clear j1 l0 II D hm e6 c6 m1 m2 m3;by_cases hE:E=0
  ·subst hE;by_cases hr:-1000000<=n/\n<=1000000
   ·obtain rfl:0=M:=by rw[<- HM.out];unfold zlk;rw[HE.out,yd rfl,yd hr]
    rw[decide_eq_true hr] at DW;obtain⟨_,k,ek,hk,_⟩:=zbz HE.out;subst ek;have d9:=hk;rw[b6.out] at hk;have f8:(k:Int)<(ns:Int):=by omega
    obtain⟨r0,r1⟩:(∃ v,wc.cell? ⟨g,k*8+3,none⟩=some v)/\∀ o,wc.frozen? ⟨g,o,none⟩=false:=by
     obtain⟨_,F,hF,_⟩:=I2.out.own;exact⟨⟨_,hF.cell (by omega)⟩,hF.frozen⟩
    obtain⟨rv,r0⟩:=r0;have HS:Hid _:=I2.out.setMark d9 n rfl
    go_wp2_with fail
    refine yf (DW.out _) ?_;rintro e w6 ⟨rfl,a6⟩;have b4:=a6.symm;clear a6;subst b4
    go_wp2_with fail
    go_region
    go_wp2
    refine yq (v:=.tuple #[.int .i64 0,.int .i64 0]) (by simp[results,Tryz.results107,go_sem]) rfl ⟨0,rfl,HS.out.1.drew,?_⟩;have e2:zsh R.s (k:Int) n=R.s.set k { nd R.s k with m:=n }:=by unfold zsh;rw[yg]
    rw[zhF rfl,e2];exact⟨rfl,_,HS.out.2.1,HS.out.2.2.below (yj _ _).drew⟩
   ·obtain rfl:2=M:=by rw[<- HM.out];unfold zlk;rw[HE.out,yd rfl,ya hr]
    rw[decide_eq_false hr] at DW
    go_wp2_with fail
    refine yf (DW.out _) ?_;rintro e w6 ⟨rfl,a6⟩;have b4:=a6.symm;clear a6;subst b4
    go_wp2
    exact yq (v:=.tuple #[.int .i64 0,.int .i64 2]) (by simp[results,Tryz.results107,go_sem]) rfl ⟨0,rfl,I2.out.bel,fun hE=>absurd hE (by decide)⟩
  ·obtain rfl:E=M:=by rw[<- HM.out];unfold zlk;rw[HE.out,ya hE]
   have hz:(E == 0)=false:=by simp[hE]
   go_wp2
   exact yq (v:=.tuple #[.int .i64 0,.int .i64 E]) (by simp[results,Tryz.results107,go_sem]) rfl ⟨0,rfl,I2.out.bel,fun h=>absurd h hE⟩
theorem zif(a:Option Addr)(l c:Nat)(n:Int)(W:World):Calls Tryz.prog 61 #[.agg #[.slice a l c],.int .i64 n] W fun e w' => e=.returned (.tuple #[.int .i64 n,.int .i64 0])/\Below W.heap.size W w' := by
 go_enter Tryz.func61,Tryz.ntmps61
 go_wp2
 exact yq (v:=.tuple #[.int .i64 n,.int .i64 0]) (by simp[results,Tryz.results61,go_sem]) rfl ⟨rfl,zab _ _⟩
theorem zgQ(a:Option Addr)(c:Nat)(G:List Cl)(k:Nat)(W:World)(A:zaY W a G)(I:k<G.length)(hl:G.length<=24):Calls Tryz.prog 62 #[.agg #[.slice a G.length c],.int .i64 (k:Int)] W fun e w' => e=.returned (.tuple #[.int .i64 (cl G k).n,.int .i64 0])/\Below W.heap.size W w' := by
 obtain⟨b,o,rfl,c0,_⟩:=A k I;obtain⟨l,w⟩:∃ l,G.length=l:=⟨_,rfl⟩;rw[w] at I hl |-;clear w A;obtain⟨Q,F⟩:∃ Q:Int,(l:Int)-1=Q:=⟨_,rfl⟩;have T:IntKind.i64.wrap ((l:Int)-1)=Q:=by rw[IntKind.wrap_i64,<- F];omega
 have D:Hid (∀ W,Calls _ _ _ _ _):=fun W=>zdz (k:Int) 0 Q W (by omega) (by omega);have M:(k:Int)<(l:Int):=by omega
 have J:=ye _ _ c0;clear F
 go_enter Tryz.func62,Tryz.ntmps62
 go_wp2_with fail
 refine yf (D.out _) ?_;rintro e U ⟨rfl,O⟩;subst O
 go_wp2
 exact yq (v:=.tuple #[.int .i64 (cl G k).n,.int .i64 0]) (by simp[results,Tryz.results62,go_sem]) rfl ⟨rfl,zab _ _⟩
theorem zhJ(a:Option Addr)(l c:Nat)(n:Int)(W:World)(hn:¬ (0<=n/\n<l))(hl:l<=24):Calls Tryz.prog 62 #[.agg #[.slice a l c],.int .i64 n] W fun e w' => e=.returned (.tuple #[.int .i64 0,.int .i64 4])/\Below W.heap.size W w' := by
 obtain⟨Q,w⟩:∃ Q:Int,(l:Int)-1=Q:=⟨_,rfl⟩;have F:IntKind.i64.wrap ((l:Int)-1)=Q:=by rw[IntKind.wrap_i64,<- w];omega
 have D:Hid (∀ W,Calls _ _ _ _ _):=fun W=>zfx n 0 Q W (by omega);clear w hn
 go_enter Tryz.func62,Tryz.ntmps62
 go_wp2_with fail
 refine yf (D.out _) ?_;rintro e I ⟨rfl,A⟩;subst A
 go_wp2
 exact yq (v:=.tuple #[.int .i64 0,.int .i64 4]) (by simp[results,Tryz.results62,go_sem]) rfl ⟨rfl,zab _ _⟩
theorem zqb(w:World)(R:Rl)(x:Ac)(wf:WF R.s)(hl:R.hs.length=16)(ha:isH x.a)(a9:isH x.b)(c8:x.c<0):zit 67 #[] w R x (zdB R (hd R x.a) (hd R x.b) []):=fun d h g A V I=>by
 unfold zdB;rw[zhG];obtain⟨J,a4⟩:∃ l:List (Int × Int),[]=l:=⟨_,rfl⟩;have hm:J.length<=1:=by rw[<- a4];decide
 have h0:J.length=0:=by rw[<- a4];rfl
 rw[a4];obtain⟨a0,a1,a2,a3,c0,c1,c2,c3⟩:=A;obtain rfl:a0=some ⟨g,0,none⟩:=I.a0;obtain rfl:a1=some ⟨h,0,none⟩:=I.a1;obtain⟨xk,xa,xb,xc,xn⟩:=x;obtain⟨p,hp,c9⟩:=zjc ha;dsimp only at hp;subst hp;obtain⟨u0,u1⟩:=I.hand (k:=p) (by omega);obtain⟨r,hr,d6⟩:=zjc a9;dsimp only at hr;subst hr;obtain⟨v0,v1⟩:=I.hand (k:=r) (by omega);have II:Hid (WI w R d h g _ V):=I;obtain⟨l0,l1,l2,l3,fz,lt⟩:=zaa I.box;dsimp only at l0 l1 l2 l3;rw[hl] at l1;have d9:d<V.heap.size:=lt;have e0:h<V.heap.size:=ye _ _ u0;have e6:(p:Int)<16:=by omega
 have e7:(r:Int)<16:=by omega
 show Calls Tryz.prog _ #[.pointer (some ⟨d,0,none⟩),.agg #[.int .i64 xk,.int .i64 p,.int .i64 r,.int .i64 xc,.int .i64 xn]] V _;obtain⟨ns,a8⟩:∃ n,R.s.length=n:=⟨_,rfl⟩;have d7:Hid (R.s.length=ns):=a8;have D:Hid (∀ (ha:Option Addr) (hc:Nat) W,Below V.heap.size V W->zam W ha J->Calls Tryz.prog 112 #[.agg #[.slice (some ⟨g,0,none⟩) R.s.length c0],.agg #[.int .i64 (hd R (p:Int)).1,.int .i64 (hd R (p:Int)).2],.agg #[.int .i64 (hd R (r:Int)).1,.int .i64 (hd R (r:Int)).2],.slice ha J.length hc] W fun e w' => ∃ a' c', e=.returned (.tuple #[.agg #[.slice a' (rS (zek R.s (hd R (p:Int)).1 (hd R (p:Int)).2 (hd R (r:Int)).1 (hd R (r:Int)).2 J) (zgN R.s (hd R (p:Int)).1 (hd R (r:Int)).1 J)).length c'],.int .i64 (zek R.s (hd R (p:Int)).1 (hd R (p:Int)).2 (hd R (r:Int)).1 (hd R (r:Int)).2 J)])/\Below W.heap.size W w' /\ St (fun b=>b<W.heap.size) (fun V=>zae V a' (rS (zek R.s (hd R (p:Int)).1 (hd R (p:Int)).2 (hd R (r:Int)).1 (hd R (r:Int)).2 J) (zgN R.s (hd R (p:Int)).1 (hd R (r:Int)).1 J))) w'):=fun ha hc W hW hH=>zhm R.s _ _ J ha hc wf hm (some ⟨g,0,none⟩) c0 W (I.nds.below hW) hH;clear ha a9 hl;generalize hd R (p:Int)=hA at *;obtain⟨P,U⟩:=hA;generalize hd R (r:Int)=hB at *;obtain⟨P2,U2⟩:=hB;dsimp only at u0 u1 v0 v1 D |-;obtain⟨E,hE⟩:∃ E,zek R.s P U P2 U2 J=E:=⟨_,rfl⟩;obtain⟨T,hT⟩:∃ T,zgN R.s P P2 J=T:=⟨_,rfl⟩;rw[hE,hT] at D;rw[hE,hT];clear hE hT;rw[a8] at D l0;clear a8 I hm;have HH:Hid (∀ W:World,zam W none J):=fun W i hi=>by omega
 rw[h0] at D;clear h0 a4;dsimp only at c8
 go_enter Tryz.func67,Tryz.ntmps67
 go_upto_region 6 with fail
 obtain⟨F,O⟩:∃ F,V.alloc (.cells #[.int .i64 xk,.int .i64 p,.int .i64 r,.int .i64 xc,.int .i64 xn] 41)=F:=⟨_,rfl⟩;have BV:Hid (Below V.heap.size V F):=by rw[<- O];exact zab _ _
 have y0:F.cell? ⟨V.heap.size,0,none⟩=some (.int .i64 xk):=by rw[<- O];exact zad _ _ _ 0 rfl
 have y1:F.cell? ⟨V.heap.size,1,none⟩=some (.int .i64 p):=by rw[<- O];exact zad _ _ _ 1 rfl
 have y2:F.cell? ⟨V.heap.size,2,none⟩=some (.int .i64 r):=by rw[<- O];exact zad _ _ _ 2 rfl
 have y3:F.cell? ⟨V.heap.size,3,none⟩=some (.int .i64 xc):=by rw[<- O];exact zad _ _ _ 3 rfl
 have y4:F.cell? ⟨V.heap.size,4,none⟩=some (.int .i64 xn):=by rw[<- O];exact zad _ _ _ 4 rfl
 have sV:V.heap.size<F.heap.size:=ye _ _ y0;rw[O];clear O;replace u0:=zac u0 BV.out;replace u1:=zac u1 BV.out;replace l0:=zac l0 BV.out;replace l1:=zac l1 BV.out;replace l2:=zac l2 BV.out;replace l3:=zac l3 BV.out;have n0:¬ F.heap.size=d:=by omega
 have o0:¬ d=F.heap.size:=by omega
 have n1:¬ F.heap.size=h:=by omega
 have o1:¬ h=F.heap.size:=by omega
 have n2:¬ F.heap.size=V.heap.size:=by omega
 have o2:¬ V.heap.size=F.heap.size:=by omega
 have e8:d<F.heap.size:=by omega
 have e9:h<F.heap.size:=by omega
 clear fz lt;replace v0:=zac v0 BV.out;replace v1:=zac v1 BV.out
 go_cut [7,8] (fun s7 s8 wx=>∃ (b:Nat) (a' : Option Addr) (c' : Nat),s7=.pointer (some ⟨b,0,none⟩)/\s8=.int .i64 E/\Hid (Below F.heap.size F wx)/\Hid (St (fun b=>b<F.heap.size) (fun V=>zae V a' (rS E T)) wx)/\wx.cell? ⟨b,0,none⟩=some (.slice a' (rS E T).length c')/\F.heap.size<=b)
 case first =>
  go_region_held3 (fun Z=>Z.cell? ⟨d,0,none⟩=some (.slice (some ⟨g,0,none⟩) ns c0)/\Z.cell? ⟨d,1,none⟩=some (.slice (some ⟨h,0,none⟩) 16 c1)/\Z.cell? ⟨h,p*2,none⟩=some (.int .i64 P)/\Z.cell? ⟨h,p*2+1,none⟩=some (.int .i64 U)/\Z.cell? ⟨h,r*2,none⟩=some (.int .i64 P2)/\Z.cell? ⟨h,r*2+1,none⟩=some (.int .i64 U2)/\Z.cell? ⟨V.heap.size,1,none⟩=some (.int .i64 p)/\Z.cell? ⟨V.heap.size,2,none⟩=some (.int .i64 r)) (go_keep) (first|(go_at_call 112;refine yf (D.out none 0 F.drew BV.out.drew ((HH.out F).below (yj _ _).drew)) ?_;rintro e w3 ⟨a', c', rfl,a5,a6⟩;have M:Hid (Below F.heap.size F w3):=(yj _ _).drew.trans a5;have N3:Hid (St (fun b=>b<F.heap.size) (fun V=>zae V a' (rS E T)) w3):=a6;have b4:=zac l0 M.out;have b5:=zac l1 M.out;have b6:=zac u0 M.out;have b7:=zac u1 M.out;have b8:=zac v0 M.out;have b9:=zac v1 M.out;have c6:=zac y1 M.out;have c7:=zac y2 M.out;clear a5 a6)|(go_at_call 112;refine yf (D.out none 0 (F.alloc (.cells #[.slice none 0 0] 24)).drew (BV.out.trans ((zab F _).mono BV.out.size)).drew ((HH.out F).below (zab F _).drew)) ?_;rintro e w3 ⟨a', c', rfl,a5,a6⟩;have M:Hid (Below F.heap.size F w3):=(zab F _).drew.trans (a5.mono (by simp));have N3:Hid (St (fun b=>b<F.heap.size+1) (fun V=>zae V a' (rS E T)) w3):=(by have h:=a6;simp only[yk,World.size_drew] at h;exact h);have b4:=zac l0 M.out;have b5:=zac l1 M.out;have b6:=zac u0 M.out;have b7:=zac u1 M.out;have b8:=zac v0 M.out;have b9:=zac v1 M.out;have c6:=zac y1 M.out;have c7:=zac y2 M.out;have X3:Hid (w3.heap[F.heap.size]?=some (.cells #[.slice none 0 0] 24 (0,0))):=zaU (W:=(F.alloc (.cells #[.slice none 0 0] 24)).drew) (heap_alloc_new F _) a5;have x3:=zbr X3.out;have xf:=zbD (o:=0) X3.out;have xl:F.heap.size<w3.heap.size:=zaC X3.out;clear a5 a6))
  ·go_wp2_with fail
   go_meet
   case rel=>exact⟨_,_,_,rfl,rfl,zsO _ _ (yj F.heap.size F) M.out N3.out⟩
  ·go_wp2_with fail
   go_meet
   case rel=>exact⟨_,_,_,rfl,rfl,zsP _ (yj F.heap.size F) M.out N3.out X3.out⟩
 case rest =>
  obtain⟨b,a', c', rfl,rfl,HB,HN,a7,d8⟩:=hcut;have I2:Hid _:=II.out.below (BV.out.trans (HB.out.mono BV.out.size));have HS:Hid _:=I2.out.store c' HN.out (by have h1:=II.out.base;have h2:=BV.out.size;omega);obtain⟨m0,m1,m2,m3,mf,ml⟩:=zaa I2.out.box;have bl:b<wc.heap.size:=ye _ _ a7;have f0:¬ b=d:=by omega
  clear II D u0 u1 v0 v1 l0 l1 y1 y2
  go_wp2
  refine yq (v:=.tuple #[.int .i64 0,.int .i64 E]) (by simp[results,Tryz.results67,go_sem]) rfl ⟨0,rfl,HS.out.1,fun hE=>?_⟩;rw[zhF hE];have h2:=HS.out.2;rw[hE,zdv] at h2;rw[hE,zdv];exact⟨rfl,_,h2⟩
theorem zok(w:World)(R:Rl)(x:Ac)(wf:WF R.s)(hl:R.hs.length=16)(ha:isH x.a)(a5:isH x.b)(a6:¬ x.c<0)(a7:¬ isH x.c):zit 67 #[] w R x (bad 4):=fun d h g A V I=>by
 rw[(zjP 4).2.2];obtain⟨a0,a1,a2,a3,c0,c1,c2,c3⟩:=A;obtain rfl:a0=some ⟨g,0,none⟩:=I.a0;obtain rfl:a1=some ⟨h,0,none⟩:=I.a1;obtain⟨xk,xa,xb,xc,xn⟩:=x;obtain⟨p,hp,a8⟩:=zjc ha;dsimp only at hp;subst hp;obtain⟨u0,u1⟩:=I.hand (k:=p) (by omega);obtain⟨r,hr,a9⟩:=zjc a5;dsimp only at hr;subst hr;obtain⟨v0,v1⟩:=I.hand (k:=r) (by omega);have II:Hid (WI w R d h g _ V):=I;obtain⟨l0,l1,l2,l3,fz,lt⟩:=zaa I.box;dsimp only at l0 l1 l2 l3;rw[hl] at l1;have c7:d<V.heap.size:=lt;have c8:h<V.heap.size:=ye _ _ u0;have c9:(p:Int)<16:=by omega
 have d6:(r:Int)<16:=by omega
 show Calls Tryz.prog _ #[.pointer (some ⟨d,0,none⟩),.agg #[.int .i64 xk,.int .i64 p,.int .i64 r,.int .i64 xc,.int .i64 xn]] V _;obtain⟨ns,M⟩:∃ n,R.s.length=n:=⟨_,rfl⟩;have b4:Hid (R.s.length=ns):=M;have DH:Hid (∀ W,Calls _ _ _ _ _):=fun W=>zcz ⟨some ⟨g,0,none⟩,some ⟨h,0,none⟩,a2,a3,c0,c1,c2,c3⟩ R xc W hl;dsimp only[rlV] at DH;rw[hl] at DH;rw[decide_eq_false a7] at DH;obtain⟨ni,O⟩:∃ n,R.i.length=n:=⟨_,rfl⟩;obtain⟨nt,T⟩:∃ n,R.t.length=n:=⟨_,rfl⟩;rw[M,O,T] at DH;rw[O] at l2;rw[T] at l3;clear O T;rw[M] at l0;dsimp only at a6;have c6:0<=xc:=by omega
 clear ha a5 hl M I a7 a6 u0 u1 v0 v1 wf
 go_enter Tryz.func67,Tryz.ntmps67
 go_upto_region 3 with fail
 obtain⟨D,F⟩:∃ D,V.alloc (.cells #[.int .i64 xk,.int .i64 p,.int .i64 r,.int .i64 xc,.int .i64 xn] 41)=D:=⟨_,rfl⟩;have Z:Hid (Below V.heap.size V D):=by rw[<- F];exact zab _ _
 have y0:D.cell? ⟨V.heap.size,0,none⟩=some (.int .i64 xk):=by rw[<- F];exact zad _ _ _ 0 rfl
 have y1:D.cell? ⟨V.heap.size,1,none⟩=some (.int .i64 p):=by rw[<- F];exact zad _ _ _ 1 rfl
 have y2:D.cell? ⟨V.heap.size,2,none⟩=some (.int .i64 r):=by rw[<- F];exact zad _ _ _ 2 rfl
 have y3:D.cell? ⟨V.heap.size,3,none⟩=some (.int .i64 xc):=by rw[<- F];exact zad _ _ _ 3 rfl
 have y4:D.cell? ⟨V.heap.size,4,none⟩=some (.int .i64 xn):=by rw[<- F];exact zad _ _ _ 4 rfl
 have sV:V.heap.size<D.heap.size:=ye _ _ y0;rw[F];clear F;replace l0:=zac l0 Z.out;replace l1:=zac l1 Z.out;replace l2:=zac l2 Z.out;replace l3:=zac l3 Z.out;have n0:¬ D.heap.size=d:=by omega
 have o0:¬ d=D.heap.size:=by omega
 have n1:¬ D.heap.size=h:=by omega
 have o1:¬ h=D.heap.size:=by omega
 have n2:¬ D.heap.size=V.heap.size:=by omega
 have o2:¬ V.heap.size=D.heap.size:=by omega
 have d7:d<D.heap.size:=by omega
 have d8:h<D.heap.size:=by omega
 clear fz lt
 go_region_held3 (fun J=>J.cell? ⟨d,0,none⟩=some (.slice (some ⟨g,0,none⟩) ns c0)/\J.cell? ⟨d,1,none⟩=some (.slice (some ⟨h,0,none⟩) 16 c1)/\J.cell? ⟨d,2,none⟩=some (.slice a2 ni c2)/\J.cell? ⟨d,3,none⟩=some (.slice a3 nt c3)/\J.cell? ⟨V.heap.size,3,none⟩=some (.int .i64 xc)) (go_keep) (first|(go_at_call 22;refine yf (DH.out D.drew) ?_;rintro e w2 ⟨rfl,a4⟩;have U:Hid (Below D.heap.size D w2):=(yj _ _).drew.trans a4;have b5:=zac l0 U.out;have b6:=zac l1 U.out;have b7:=zac l2 U.out;have b8:=zac l3 U.out;have b9:=zac y3 U.out;clear a4))
 have I2:Hid _:=II.out.below (Z.out.trans (U.out.mono Z.out.size))
 go_wp2
 refine yq (v:=.tuple #[.int .i64 0,.int .i64 4]) (by simp[results,Tryz.results67,go_sem]) rfl ?_
 first|exact⟨0,rfl,I2.out.bel,fun hE=>absurd hE (by decide)⟩|exact⟨⟨0,rfl⟩,I2.out.bel⟩
theorem zlY{W:World}{b:Nat}{x y:Int}(h0:W.cell? ⟨b,0,none⟩=some (.int .i64 x))(h1:W.cell? ⟨b,1,none⟩=some (.int .i64 y)):zam W (some ⟨b,0,none⟩) [(x,y)]:=fun i w=>by
 obtain rfl:i=0:=by simpa using w
 exact⟨b,0,rfl,h0,h1⟩
theorem zqc(w:World)(R:Rl)(x:Ac)(wf:WF R.s)(hl:R.hs.length=16)(ha:isH x.a)(c9:isH x.b)(b7:isH x.c):zit 67 #[] w R x (zdB R (hd R x.a) (hd R x.b) [hd R x.c]):=fun d h g A V I=>by
 unfold zdB;rw[zhG];obtain⟨M,Z⟩:∃ l:List (Int × Int),[hd R x.c]=l:=⟨_,rfl⟩;have hm:M.length<=1:=by rw[<- Z];simp
 have h0:M.length=1:=by rw[<- Z];rfl
 rw[Z];obtain⟨a0,a1,a2,a3,c0,c1,c2,c3⟩:=A;obtain rfl:a0=some ⟨g,0,none⟩:=I.a0;obtain rfl:a1=some ⟨h,0,none⟩:=I.a1;obtain⟨xk,xa,xb,xc,xn⟩:=x;obtain⟨p,hp,f8⟩:=zjc ha;dsimp only at hp;subst hp;obtain⟨u0,u1⟩:=I.hand (k:=p) (by omega);obtain⟨r,hr,f9⟩:=zjc c9;dsimp only at hr;subst hr;obtain⟨v0,v1⟩:=I.hand (k:=r) (by omega);have II:Hid (WI w R d h g _ V):=I;obtain⟨l0,l1,l2,l3,fz,lt⟩:=zaa I.box;dsimp only at l0 l1 l2 l3;rw[hl] at l1;have g6:d<V.heap.size:=lt;have g7:h<V.heap.size:=ye _ _ u0;have g8:(p:Int)<16:=by omega
 have g9:(r:Int)<16:=by omega
 obtain⟨s,hs,g0⟩:=zjc b7;dsimp only at hs;subst hs;dsimp only at Z;have c7:decide (isH (s:Int))=true:=decide_eq_true b7;obtain⟨t0,t1⟩:=I.hand (k:=s) (by omega);have hs2:(s:Int)<16:=by omega
 show Calls Tryz.prog _ #[.pointer (some ⟨d,0,none⟩),.agg #[.int .i64 xk,.int .i64 p,.int .i64 r,.int .i64 s,.int .i64 xn]] V _;obtain⟨ns,a9⟩:∃ n,R.s.length=n:=⟨_,rfl⟩;have g4:Hid (R.s.length=ns):=a9;have D:Hid (∀ (ha:Option Addr) (hc:Nat) W,Below V.heap.size V W->zam W ha M->Calls Tryz.prog 112 #[.agg #[.slice (some ⟨g,0,none⟩) R.s.length c0],.agg #[.int .i64 (hd R (p:Int)).1,.int .i64 (hd R (p:Int)).2],.agg #[.int .i64 (hd R (r:Int)).1,.int .i64 (hd R (r:Int)).2],.slice ha M.length hc] W fun e w' => ∃ a' c', e=.returned (.tuple #[.agg #[.slice a' (rS (zek R.s (hd R (p:Int)).1 (hd R (p:Int)).2 (hd R (r:Int)).1 (hd R (r:Int)).2 M) (zgN R.s (hd R (p:Int)).1 (hd R (r:Int)).1 M)).length c'],.int .i64 (zek R.s (hd R (p:Int)).1 (hd R (p:Int)).2 (hd R (r:Int)).1 (hd R (r:Int)).2 M)])/\Below W.heap.size W w' /\ St (fun b=>b<W.heap.size) (fun V=>zae V a' (rS (zek R.s (hd R (p:Int)).1 (hd R (p:Int)).2 (hd R (r:Int)).1 (hd R (r:Int)).2 M) (zgN R.s (hd R (p:Int)).1 (hd R (r:Int)).1 M))) w'):=fun ha hc W hW hH=>zhm R.s _ _ M ha hc wf hm (some ⟨g,0,none⟩) c0 W (I.nds.below hW) hH;have DH:Hid (∀ W,Calls _ _ _ _ _):=fun W=>zcz ⟨some ⟨g,0,none⟩,some ⟨h,0,none⟩,a2,a3,c0,c1,c2,c3⟩ R (s:Int) W hl;dsimp only[rlV] at DH;rw[hl] at DH;rw[c7] at DH;obtain⟨ni,b8⟩:∃ n,R.i.length=n:=⟨_,rfl⟩;obtain⟨nt,b9⟩:∃ n,R.t.length=n:=⟨_,rfl⟩;rw[a9,b8,b9] at DH;rw[b8] at l2;rw[b9] at l3;clear b8 b9;have HH:Hid ([hd R (s:Int)]=M):=Z;clear b7 c7 Z;clear ha c9 hl;generalize hd R (p:Int)=hA at *;obtain⟨P,U⟩:=hA
 generalize hd R (r:Int)=hB at *;obtain⟨P2,U2⟩:=hB;dsimp only at u0 u1 v0 v1 D |-;obtain⟨E,hE⟩:∃ E,zek R.s P U P2 U2 M=E:=⟨_,rfl⟩;obtain⟨T,hT⟩:∃ T,zgN R.s P P2 M=T:=⟨_,rfl⟩;rw[hE,hT] at D;rw[hE,hT];clear hE hT;rw[a9] at D l0;clear a9 I hm;rw[h0] at D;clear h0;generalize hd R (s:Int)=hC at *;obtain⟨P3,U3⟩:=hC;dsimp only at t0 t1
 go_enter Tryz.func67,Tryz.ntmps67
 go_upto_region 3 with fail
 obtain⟨O,a4⟩:∃ O,V.alloc (.cells #[.int .i64 xk,.int .i64 p,.int .i64 r,.int .i64 s,.int .i64 xn] 41)=O:=⟨_,rfl⟩;have BV:Hid (Below V.heap.size V O):=by rw[<- a4];exact zab _ _
 have y0:O.cell? ⟨V.heap.size,0,none⟩=some (.int .i64 xk):=by rw[<- a4];exact zad _ _ _ 0 rfl
 have y1:O.cell? ⟨V.heap.size,1,none⟩=some (.int .i64 p):=by rw[<- a4];exact zad _ _ _ 1 rfl
 have y2:O.cell? ⟨V.heap.size,2,none⟩=some (.int .i64 r):=by rw[<- a4];exact zad _ _ _ 2 rfl
 have y3:O.cell? ⟨V.heap.size,3,none⟩=some (.int .i64 s):=by rw[<- a4];exact zad _ _ _ 3 rfl
 have y4:O.cell? ⟨V.heap.size,4,none⟩=some (.int .i64 xn):=by rw[<- a4];exact zad _ _ _ 4 rfl
 have sV:V.heap.size<O.heap.size:=ye _ _ y0;rw[a4];clear a4;replace u0:=zac u0 BV.out;replace u1:=zac u1 BV.out;replace l0:=zac l0 BV.out;replace l1:=zac l1 BV.out;replace l2:=zac l2 BV.out;replace l3:=zac l3 BV.out;have n0:¬ O.heap.size=d:=by omega
 have o0:¬ d=O.heap.size:=by omega
 have n1:¬ O.heap.size=h:=by omega
 have o1:¬ h=O.heap.size:=by omega
 have n2:¬ O.heap.size=V.heap.size:=by omega
 have o2:¬ V.heap.size=O.heap.size:=by omega
 have d6:d<O.heap.size:=by omega
 have d7:h<O.heap.size:=by omega
 clear fz lt;replace v0:=zac v0 BV.out;replace v1:=zac v1 BV.out;replace t0:=zac t0 BV.out;replace t1:=zac t1 BV.out
 go_region_held3 (fun F=>F.cell? ⟨d,0,none⟩=some (.slice (some ⟨g,0,none⟩) ns c0)/\F.cell? ⟨d,1,none⟩=some (.slice (some ⟨h,0,none⟩) 16 c1)/\F.cell? ⟨d,2,none⟩=some (.slice a2 ni c2)/\F.cell? ⟨d,3,none⟩=some (.slice a3 nt c3)/\F.cell? ⟨V.heap.size,3,none⟩=some (.int .i64 s)) (go_keep) (first|(go_at_call 22;refine yf (DH.out O.drew) ?_;rintro e w2 ⟨rfl,c8⟩;have B2:Hid (Below O.heap.size O w2):=(yj _ _).drew.trans c8;have b4:=zac l0 B2.out;have b5:=zac l1 B2.out;have d8:=zac l2 B2.out;have d9:=zac l3 B2.out;have f7:=zac y3 B2.out;clear c8))
 clear b4 b5 d8 d9 f7;replace l0:=zac l0 B2.out;replace l1:=zac l1 B2.out;replace u0:=zac u0 B2.out;replace u1:=zac u1 B2.out;replace v0:=zac v0 B2.out;replace v1:=zac v1 B2.out;replace t0:=zac t0 B2.out;replace t1:=zac t1 B2.out;replace y1:=zac y1 B2.out;replace y2:=zac y2 B2.out;replace y3:=zac y3 B2.out;have c6:Hid (Below V.heap.size V w2):=BV.out.trans (B2.out.mono BV.out.size);have s2:=B2.out.size;have g1:d<w2.heap.size:=by omega
 have g2:h<w2.heap.size:=by omega
 have g3:V.heap.size<w2.heap.size:=by omega
 have e0:¬ w2.heap.size=d:=by omega
 have e1:¬ w2.heap.size=h:=by omega
 have e2:¬ w2.heap.size=V.heap.size:=by omega
 have e3:¬ d=w2.heap.size:=by omega
 have e4:¬ h=w2.heap.size:=by omega
 have e5:¬ V.heap.size=w2.heap.size:=by omega
 clear n0 n1 n2 o0 o1 o2 d6 d7 B2 BV l2 l3 y0 y4 DH sV
 go_wp2_with fail
 go_region_held3 (fun F=>F.cell? ⟨d,1,none⟩=some (.slice (some ⟨h,0,none⟩) 16 c1)/\F.cell? ⟨h,s*2,none⟩=some (.int .i64 P3)/\F.cell? ⟨h,s*2+1,none⟩=some (.int .i64 U3)/\F.cell? ⟨V.heap.size,3,none⟩=some (.int .i64 s)) (go_keep) (fail)
 go_upto_region 6 with fail
 obtain⟨J,a8⟩:∃ J,(w2.alloc (.cells #[.int .i64 P3,.int .i64 U3] 39)).drew=J:=⟨_,rfl⟩;have B4:Hid (Below w2.heap.size w2 J):=by rw[<- a8];exact(zab _ _).drew
 have a5:Hid (Below V.heap.size V J):=c6.out.trans (B4.out.mono c6.out.size);have X4:Hid (J.heap[w2.heap.size]?=some (.cells #[.int .i64 P3,.int .i64 U3] 39 (0,0))):=by rw[<- a8];exact heap_alloc_new w2 _
 rw[a8];clear a8;obtain⟨j0,j1,jl⟩:=zcj X4.out;have H4:Hid (zam J (some ⟨w2.heap.size,0,none⟩) M):=by rw[<- HH.out];exact zlY j0 j1
 have s4:=B4.out.size;replace l0:=zac l0 B4.out;replace l1:=zac l1 B4.out;replace u0:=zac u0 B4.out;replace u1:=zac u1 B4.out;replace v0:=zac v0 B4.out;replace v1:=zac v1 B4.out;replace y1:=zac y1 B4.out;replace y2:=zac y2 B4.out;clear t0 t1 y3 j0 j1 e0 e1 e2 e3 e4 e5;have d6:d<J.heap.size:=by omega
 have d7:h<J.heap.size:=by omega
 have h3:V.heap.size<J.heap.size:=by omega
 have n0:¬ J.heap.size=d:=by omega
 have n1:¬ J.heap.size=h:=by omega
 have n2:¬ J.heap.size=V.heap.size:=by omega
 have o0:¬ d=J.heap.size:=by omega
 have o1:¬ h=J.heap.size:=by omega
 have o2:¬ V.heap.size=J.heap.size:=by omega
 go_cut [7,8] (fun s7 s8 wx=>∃ (b:Nat) (a' : Option Addr) (c' : Nat),s7=.pointer (some ⟨b,0,none⟩)/\s8=.int .i64 E/\Hid (Below J.heap.size J wx)/\Hid (St (fun b=>b<J.heap.size) (fun V=>zae V a' (rS E T)) wx)/\wx.cell? ⟨b,0,none⟩=some (.slice a' (rS E T).length c')/\J.heap.size<=b)
 case first =>
  go_region_held3 (fun F=>F.cell? ⟨d,0,none⟩=some (.slice (some ⟨g,0,none⟩) ns c0)/\F.cell? ⟨d,1,none⟩=some (.slice (some ⟨h,0,none⟩) 16 c1)/\F.cell? ⟨h,p*2,none⟩=some (.int .i64 P)/\F.cell? ⟨h,p*2+1,none⟩=some (.int .i64 U)/\F.cell? ⟨h,r*2,none⟩=some (.int .i64 P2)/\F.cell? ⟨h,r*2+1,none⟩=some (.int .i64 U2)/\F.cell? ⟨V.heap.size,1,none⟩=some (.int .i64 p)/\F.cell? ⟨V.heap.size,2,none⟩=some (.int .i64 r)) (go_keep) (first|(go_at_call 112;refine yf (D.out (some ⟨w2.heap.size,0,none⟩) 1 J.drew a5.out.drew (H4.out.below (yj _ _).drew)) ?_;rintro e w3 ⟨a', c', rfl,a6,a7⟩;have B3:Hid (Below J.heap.size J w3):=(yj _ _).drew.trans a6;have N3:Hid (St (fun b=>b<J.heap.size) (fun V=>zae V a' (rS E T)) w3):=a7;have b4:=zac l0 B3.out;have b5:=zac l1 B3.out;have e6:=zac u0 B3.out;have e7:=zac u1 B3.out;have e8:=zac v0 B3.out;have e9:=zac v1 B3.out;have f0:=zac y1 B3.out;have f6:=zac y2 B3.out;clear a6 a7)|(go_at_call 112;refine yf (D.out (some ⟨w2.heap.size,0,none⟩) 1 (J.alloc (.cells #[.slice none 0 0] 24)).drew (a5.out.trans ((zab J _).mono a5.out.size)).drew (H4.out.below (zab J _).drew)) ?_;rintro e w3 ⟨a', c', rfl,a6,a7⟩;have B3:Hid (Below J.heap.size J w3):=(zab J _).drew.trans (a6.mono (by simp));have N3:Hid (St (fun b=>b<J.heap.size+1) (fun V=>zae V a' (rS E T)) w3):=(by have h:=a7;simp only[yk,World.size_drew] at h;exact h);have b4:=zac l0 B3.out;have b5:=zac l1 B3.out;have e6:=zac u0 B3.out;have e7:=zac u1 B3.out;have e8:=zac v0 B3.out;have e9:=zac v1 B3.out;have f0:=zac y1 B3.out;have f6:=zac y2 B3.out;have X3:Hid (w3.heap[J.heap.size]?=some (.cells #[.slice none 0 0] 24 (0,0))):=zaU (W:=(J.alloc (.cells #[.slice none 0 0] 24)).drew) (heap_alloc_new J _) a6;have x3:=zbr X3.out;have xf:=zbD (o:=0) X3.out;have xl:J.heap.size<w3.heap.size:=zaC X3.out;clear a6 a7))
  ·go_wp2_with fail
   go_meet
   case rel=>exact⟨_,_,_,rfl,rfl,zsO _ _ (yj J.heap.size J) B3.out N3.out⟩
  ·go_wp2_with fail
   go_meet
   case rel=>exact⟨_,_,_,rfl,rfl,zsP _ (yj J.heap.size J) B3.out N3.out X3.out⟩
 case rest =>
  obtain⟨b,a', c', rfl,rfl,HB,HN,b6,g5⟩:=hcut;have I2:Hid _:=II.out.below (a5.out.trans (HB.out.mono a5.out.size));have HS:Hid _:=I2.out.store c' HN.out (by have h1:=II.out.base;have h2:=a5.out.size;omega);obtain⟨m0,m1,m2,m3,mf,ml⟩:=zaa I2.out.box;have bl:b<wc.heap.size:=ye _ _ b6;have h4:¬ b=d:=by omega
  clear II D u0 u1 v0 v1 l0 l1 y1 y2
  go_wp2
  refine yq (v:=.tuple #[.int .i64 0,.int .i64 E]) (by simp[results,Tryz.results67,go_sem]) rfl ⟨0,rfl,HS.out.1,fun hE=>?_⟩;rw[zhF hE];have h2:=HS.out.2;rw[hE,zdv] at h2;rw[hE,zdv];exact⟨rfl,_,h2⟩
end Go.Proofs.YtgjfmepbphfjoaaGreat
