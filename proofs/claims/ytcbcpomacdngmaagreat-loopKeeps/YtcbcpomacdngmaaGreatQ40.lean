/-
  x
-/
import Derived.Test.YtcbcpomacdngmaaGreatQ35
import Derived.Test.YtcbcpomacdngmaaGreatQ37
import Derived.Test.YtcbcpomacdngmaaGreatQ38
import Derived.Test.YtcbcpomacdngmaaGreatQ39
namespace Go.Proofs.YtcbcpomacdngmaaGreat
set_option maxRecDepth 100000
set_option maxHeartbeats 4000000
set_option linter.unusedVariables false
open Go.RowKit Go.ChangeShapes Go.WideShapes
theorem zlH(S:List Nd)(h:Int × Int)(x:Ac)(wf:WF S)(a:Option Addr)(c:Nat)(W:World)(O:zai W a S):Calls Tryz.prog 175 #[.agg #[.slice a S.length c],hdV h,acV x] W fun e w' => ∃ F I n,e=.returned (.tuple #[.slice F n I,.int .i64 (zaz S h.1 h.2)])/\Below W.heap.size W w' /\(zaz S h.1 h.2=0->n=(zje S h.1.toNat).length):=by
 have D:Hid (∀ Z o2 o3:Obj,_):=fun Z o2 o3=>zwd S h wf a c (((W.alloc Z).alloc o2).alloc o3) (O.below (zas _ _ _ _));clear O;obtain⟨P,U⟩:=h;dsimp only[hdV,acV] at D |-;obtain⟨E,J⟩:∃ E,zaz S P U=E:=⟨_,rfl⟩;rw[J] at D |-;obtain⟨N,M⟩:∃ N,(zje S P.toNat).length=N:=⟨_,rfl⟩;rw[M] at D |-;generalize S.length=ns at *;clear J M
 go_enter Tryz.func175,Tryz.ntmps175
 go_wp2_with fail
 refine yi (D.out _ _ _) ?_;rintro e V ⟨F,I,n,rfl,T,hn⟩;have HB:Hid (Below W.heap.size W V):=(zas W _ _ _).trans (T.mono (by simp;omega));have HN:Hid (E=0->n=N):=fun h=>by rw[hn,yd h]
 clear T hn D
 go_wp2
 exact yw (v:=.tuple #[.slice F n I,.int .i64 E]) (by simp[results,Tryz.results175,go_sem]) rfl ⟨F,I,n,rfl,HB.out,HN.out⟩
theorem zkq(S:List Nd)(h:Int × Int)(x:Ac)(wf:WF S)(a:Option Addr)(c:Nat)(W:World)(Z:zai W a S):Calls Tryz.prog 174 #[.agg #[.slice a S.length c],hdV h,acV x] W fun e w' => ∃ F I n,e=.returned (.tuple #[.slice F n I,.int .i64 (zys S h.1 h.2 [⟨x.b,x.n,false⟩])])/\Below W.heap.size W w' /\(zys S h.1 h.2 [⟨x.b,x.n,false⟩]=0->n=(zhd S h.1.toNat [⟨x.b,x.n,false⟩]).length):=by
 have D:Hid (∀ J M o3:Obj,_):=fun J M o3=>ztf S h x.b x.n (some ⟨W.heap.size+1+1+1,0,none⟩) 1 wf a c ((((W.alloc J).alloc M).alloc o3).alloc (.cells #[.int .i64 x.b,.int .i64 x.n,.bool false] 231)) ((Z.below (zas _ _ _ _)).below (zaa _ _)) (fun i hi=>by
  obtain rfl:i=0:=by simpa using hi
  have e:(((W.alloc J).alloc M).alloc o3).heap.size=W.heap.size+1+1+1:=by simp
  refine⟨W.heap.size+1+1+1,0,rfl,?_,?_,?_⟩
  all_goals rw[<- e]
  ·exact zad _ _ _ 0 rfl
  ·exact zad _ _ _ 1 rfl
  ·exact zad _ _ _ 2 rfl)
 clear Z;obtain⟨P,U⟩:=h;obtain⟨xk,xa,xb,xc,xn⟩:=x;dsimp only[hdV,acV] at D |-;obtain⟨E,O⟩:∃ E,zys S P U [⟨xb,xn,false⟩]=E:=⟨_,rfl⟩;rw[O] at D |-;obtain⟨N,T⟩:∃ N,(zhd S P.toNat [⟨xb,xn,false⟩]).length=N:=⟨_,rfl⟩;rw[T] at D |-;generalize S.length=ns at *;clear O T
 go_enter Tryz.func174,Tryz.ntmps174
 go_wp2_with fail
 refine yi (D.out _ _ _) ?_;rintro e V ⟨F,I,n,rfl,hb,hn⟩;have HB:Hid (Below W.heap.size W V):=(zas W _ _ _).trans (((zaa _ _).trans (hb.mono (by simp))).mono (by simp;omega));have HN:Hid (E=0->n=N):=fun h=>by rw[hn,yd h]
 clear hb hn D
 go_wp2
 exact yw (v:=.tuple #[.slice F n I,.int .i64 E]) (by simp[results,Tryz.results174,go_sem]) rfl ⟨F,I,n,rfl,HB.out,HN.out⟩
theorem zvO(W:World):Calls Tryz.prog 162 #[.int .i64 2] W fun e w' => ∃ E,e=.returned (.func (.func 183) #[] #[.pointer (some ⟨E,0,none⟩)])/\Below W.heap.size W w' /\ w'.cell? ⟨E,0,none⟩=some (.func (.func 167) #[] #[]):=by
 have D:Hid (∀ W,Calls _ _ _ _ _):=fun W=>zio 167 W
 go_enter Tryz.func162,Tryz.ntmps162
 go_wp2_with fail
 refine yi (D.out _) ?_;rintro e V ⟨rfl,F,hc⟩;have I:Hid _:=F;have J:Hid _:=hc;clear F hc D
 go_wp2
 go_ret;exact⟨_,rfl,I.out,J.out⟩
theorem zvP(W:World):Calls Tryz.prog 162 #[.int .i64 4] W fun e w' => ∃ E,e=.returned (.func (.func 183) #[] #[.pointer (some ⟨E,0,none⟩)])/\Below W.heap.size W w' /\ w'.cell? ⟨E,0,none⟩=some (.func (.func 168) #[] #[]):=by
 have D:Hid (∀ W,Calls _ _ _ _ _):=fun W=>zio 168 W
 go_enter Tryz.func162,Tryz.ntmps162
 go_wp2_with fail
 refine yi (D.out _) ?_;rintro e V ⟨rfl,F,hc⟩;have I:Hid _:=F;have J:Hid _:=hc;clear F hc D
 go_wp2
 go_ret;exact⟨_,rfl,I.out,J.out⟩
theorem zvQ(W:World):Calls Tryz.prog 162 #[.int .i64 5] W fun e w' => ∃ E,e=.returned (.func (.func 187) #[] #[.pointer (some ⟨E,0,none⟩)])/\Below W.heap.size W w' /\ w'.cell? ⟨E,0,none⟩=some (.func (.func 171) #[] #[]):=by
 have D:Hid (∀ W,Calls _ _ _ _ _):=fun W=>zkZ 171 W
 go_enter Tryz.func162,Tryz.ntmps162
 go_wp2_with fail
 refine yi (D.out _) ?_;rintro e V ⟨rfl,F,hc⟩;have I:Hid _:=F;have J:Hid _:=hc;clear F hc D
 go_wp2
 go_ret;exact⟨_,rfl,I.out,J.out⟩
theorem zmK(W:World):Calls Tryz.prog 162 #[.int .i64 11] W fun e w' => ∃ E,e=.returned (.func (.func 187) #[] #[.pointer (some ⟨E,0,none⟩)])/\Below W.heap.size W w' /\ w'.cell? ⟨E,0,none⟩=some (.func (.func 172) #[] #[]):=by
 have D:Hid (∀ W,Calls _ _ _ _ _):=fun W=>zkZ 172 W
 go_enter Tryz.func162,Tryz.ntmps162
 go_wp2_with fail
 refine yi (D.out _) ?_;rintro e V ⟨rfl,F,hc⟩;have I:Hid _:=F;have J:Hid _:=hc;clear F hc D
 go_wp2
 go_ret;exact⟨_,rfl,I.out,J.out⟩
theorem zth(W:World):Calls Tryz.prog 162 #[.int .i64 14] W fun e w' => ∃ E,e=.returned (.func (.func 188) #[] #[.pointer (some ⟨E,0,none⟩)])/\Below W.heap.size W w' /\ w'.cell? ⟨E,0,none⟩=some (.func (.func 174) #[] #[]):=by
 have D:Hid (∀ W,Calls _ _ _ _ _):=fun W=>zev 174 W
 go_enter Tryz.func162,Tryz.ntmps162
 go_wp2_with fail
 refine yi (D.out _) ?_;rintro e V ⟨rfl,F,hc⟩;have I:Hid _:=F;have J:Hid _:=hc;clear F hc D
 go_wp2
 go_ret;exact⟨_,rfl,I.out,J.out⟩
theorem zti(W:World):Calls Tryz.prog 162 #[.int .i64 15] W fun e w' => ∃ E,e=.returned (.func (.func 188) #[] #[.pointer (some ⟨E,0,none⟩)])/\Below W.heap.size W w' /\ w'.cell? ⟨E,0,none⟩=some (.func (.func 175) #[] #[]):=by
 have D:Hid (∀ W,Calls _ _ _ _ _):=fun W=>zev 175 W
 go_enter Tryz.func162,Tryz.ntmps162
 go_wp2_with fail
 refine yi (D.out _) ?_;rintro e V ⟨rfl,F,hc⟩;have I:Hid _:=F;have J:Hid _:=hc;clear F hc D
 go_wp2
 go_ret;exact⟨_,rfl,I.out,J.out⟩
theorem zpC(W:World):Calls Tryz.prog 162 #[.int .i64 3] W fun e w' => ∃ E,e=.returned (.func (.func 191) #[] #[.pointer (some ⟨E,0,none⟩)])/\Below W.heap.size W w' /\ w'.cell? ⟨E,0,none⟩=some (.func (.func 177) #[] #[]):=by
 have D:Hid (∀ W,Calls _ _ _ _ _):=fun W=>zdE 177 W
 go_enter Tryz.func162,Tryz.ntmps162
 go_wp2_with fail
 refine yi (D.out _) ?_;rintro e V ⟨rfl,F,hc⟩;have I:Hid _:=F;have J:Hid _:=hc;clear F hc D
 go_wp2
 go_ret;exact⟨_,rfl,I.out,J.out⟩
theorem zpD(W:World):Calls Tryz.prog 162 #[.int .i64 7] W fun e w' => ∃ E,e=.returned (.func (.func 191) #[] #[.pointer (some ⟨E,0,none⟩)])/\Below W.heap.size W w' /\ w'.cell? ⟨E,0,none⟩=some (.func (.func 178) #[] #[]):=by
 have D:Hid (∀ W,Calls _ _ _ _ _):=fun W=>zdE 178 W
 go_enter Tryz.func162,Tryz.ntmps162
 go_wp2_with fail
 refine yi (D.out _) ?_;rintro e V ⟨rfl,F,hc⟩;have I:Hid _:=F;have J:Hid _:=hc;clear F hc D
 go_wp2
 go_ret;exact⟨_,rfl,I.out,J.out⟩
theorem zpE(W:World):Calls Tryz.prog 162 #[.int .i64 8] W fun e w' => ∃ E,e=.returned (.func (.func 191) #[] #[.pointer (some ⟨E,0,none⟩)])/\Below W.heap.size W w' /\ w'.cell? ⟨E,0,none⟩=some (.func (.func 179) #[] #[]):=by
 have D:Hid (∀ W,Calls _ _ _ _ _):=fun W=>zdE 179 W
 go_enter Tryz.func162,Tryz.ntmps162
 go_wp2_with fail
 refine yi (D.out _) ?_;rintro e V ⟨rfl,F,hc⟩;have I:Hid _:=F;have J:Hid _:=hc;clear F hc D
 go_wp2
 go_ret;exact⟨_,rfl,I.out,J.out⟩
theorem zvN(W:World):Calls Tryz.prog 162 #[.int .i64 1] W fun e w' => e=.returned (.func (.func 165) #[] #[])/\w' = W:=by
 go_enter Tryz.func162,Tryz.ntmps162
 go_wp2
 go_ret;exact⟨rfl,rfl⟩
theorem zvR(W:World):Calls Tryz.prog 162 #[.int .i64 6] W fun e w' => e=.returned (.func (.func 169) #[] #[])/\w' = W:=by
 go_enter Tryz.func162,Tryz.ntmps162
 go_wp2
 go_ret;exact⟨rfl,rfl⟩
theorem ztj(k:Int)(W:World)(h:k≠1/\k≠2/\k≠4/\k≠6/\k≠5/\k≠11/\k≠14/\k≠15/\k≠3/\k≠7/\k≠8):Calls Tryz.prog 162 #[.int .i64 k] W fun e w' => e=.returned .nilFunc/\w' = W:=by
 obtain⟨h1,I,M,O,h5,D,E,F,J,T,U⟩:=h;have b1:(k == 1)=false:=by simp[h1]
 have b2:(k == 2)=false:=by simp[I]
 have b4:(k == 4)=false:=by simp[M]
 have b6:(k == 6)=false:=by simp[O]
 have b5:(k == 5)=false:=by simp[h5]
 have Z:(k == 11)=false:=by simp[D]
 have a5:(k == 14)=false:=by simp[E]
 have a6:(k == 15)=false:=by simp[F]
 have b3:(k == 3)=false:=by simp[J]
 have b7:(k == 7)=false:=by simp[T]
 have b8:(k == 8)=false:=by simp[U]
 clear h1 I M O h5 D E F J T U
 go_enter Tryz.func162,Tryz.ntmps162
 go_wp2
 go_ret;exact⟨rfl,rfl⟩
theorem zyy(A:RA)(R:Rl)(x:Ac)(E:Int)(w:World)(T:zsq R)(I:zct w A R)(U:zaG R=E)(F:E≠0) :
  Calls Tryz.prog 148 #[rlV A R,acV x] w fun e w' => ∃ B:RA,e=.returned (.tuple #[rlV B zbN,.int .i64 0,.int .i64 E])/\Below w.heap.size w w' /\ zct w' B zbN:=by
 have J:Hid (∀ W,zct W A R->Calls _ _ _ _ _):=fun W I=>zet A R W T I;rw[U] at J;have hz:(E == 0)=false:=by simp[F]
 have M:Hid _:=zgX w A R x I;clear I U T F;obtain⟨xk,xa,xb,xc,xn⟩:=x;obtain⟨a0,a1,a2,a3,c0,c1,c2,c3⟩:=A;dsimp only[rlV,acV] at *
 go_enter Tryz.func148,Tryz.ntmps148
 go_wp2_with fail
 refine yi (J.out _ M.out.rl) ?_;rintro e V1 ⟨rfl,Z⟩;have D:Hid _:=M.out.below Z;clear Z J M;obtain⟨r0,r1,r2,r3,rf,rl⟩:=zaj D.out.r;obtain⟨z0,z1,z2,z3,zf,zl⟩:=zaj D.out.z;obtain⟨y0,y1,y2,y3,y4,yl⟩:=zaX D.out.x
 go_wp2
 obtain⟨X,O⟩:∃ X,(((V1.setCell ⟨w.heap.size+1+1,0,none⟩ (.slice none 0 0)).setCell ⟨w.heap.size+1+1,1,none⟩ (.slice none 0 0)).setCell ⟨w.heap.size+1+1,2,none⟩ (.slice none 0 0)).setCell ⟨w.heap.size+1+1,3,none⟩ (.slice none 0 0)=X:=⟨_,rfl⟩;have x0:X.heap[w.heap.size+1+1]?=some (.cells #[.slice none 0 0,.slice none 0 0,.slice none 0 0,.slice none 0 0] 50 (0,0)):=by rw[<- O];exact zcR D.out.z
 have xb:Below w.heap.size w X:=by rw[<- O];exact(((D.out.bel.setCell (by simp;omega) _).setCell (by simp;omega) _).setCell (by simp;omega) _).setCell (by simp;omega) _
 rw[O];obtain⟨m0,m1,m2,m3,mf,ml⟩:=zaj x0;exact yw (v:=.tuple #[.agg #[.slice none 0 0,.slice none 0 0,.slice none 0 0,.slice none 0 0],.int .i64 0,.int .i64 E]) (by simp[results,Tryz.results148,go_sem,m0,m1,m2,m3]) rfl ⟨⟨none,none,none,none,0,0,0,0⟩,rfl,xb,zjH _ _⟩
theorem zyz(A:RA)(R:Rl)(x:Ac)(w:World)(I:zaG R=0)(J:zct w A R)(ha:¬ isH x.a) :
  Calls Tryz.prog 148 #[rlV A R,acV x] w fun e w' => ∃ B:RA,e=.returned (.tuple #[rlV B zbN,.int .i64 0,.int .i64 4])/\Below w.heap.size w w' /\ zct w' B zbN:=by
 have hl:=(zav I).2.1;have M:Hid (∀ W,zct W A R->Calls _ _ _ _ _):=fun W J=>zet A R W (zcU I) J;rw[I] at M;have O:Hid (∀ W,Calls _ _ _ _ _):=fun W=>zcK A R x.a W hl;rw[show decide (isH x.a)=false from yF ha] at O;have T:Hid _:=zgX w A R x J;clear J ha I hl;obtain⟨xk,xa,xb,xc,xn⟩:=x;obtain⟨a0,a1,a2,a3,c0,c1,c2,c3⟩:=A;dsimp only[rlV,acV] at *
 go_enter Tryz.func148,Tryz.ntmps148
 go_wp2_with fail
 refine yi (M.out _ T.out.rl) ?_;rintro e V1 ⟨rfl,F⟩;have D:Hid _:=T.out.below F;clear F M T;obtain⟨Z,r1,r2,r3,rf,rl⟩:=zaj D.out.r;obtain⟨z0,z1,z2,z3,zf,zl⟩:=zaj D.out.z;obtain⟨y0,y1,y2,y3,y4,yl⟩:=zaX D.out.x
 go_wp2_with fail
 refine yi (O.out _) ?_;rintro e V2 ⟨rfl,F⟩;have E:Hid _:=D.out.below F;clear Z r1 r2 r3 rf rl z0 z1 z2 z3 zf zl y0 y1 y2 y3 y4 yl;clear F O D;obtain⟨Z,r1,r2,r3,rf,rl⟩:=zaj E.out.r;obtain⟨z0,z1,z2,z3,zf,zl⟩:=zaj E.out.z;obtain⟨y0,y1,y2,y3,y4,yl⟩:=zaX E.out.x
 go_wp2
 obtain⟨X,U⟩:∃ X,(((V2.setCell ⟨w.heap.size+1+1,0,none⟩ (.slice none 0 0)).setCell ⟨w.heap.size+1+1,1,none⟩ (.slice none 0 0)).setCell ⟨w.heap.size+1+1,2,none⟩ (.slice none 0 0)).setCell ⟨w.heap.size+1+1,3,none⟩ (.slice none 0 0)=X:=⟨_,rfl⟩;have x0:X.heap[w.heap.size+1+1]?=some (.cells #[.slice none 0 0,.slice none 0 0,.slice none 0 0,.slice none 0 0] 50 (0,0)):=by rw[<- U];exact zcR E.out.z
 have xb:Below w.heap.size w X:=by rw[<- U];exact(((E.out.bel.setCell (by simp;omega) _).setCell (by simp;omega) _).setCell (by simp;omega) _).setCell (by simp;omega) _
 rw[U];obtain⟨m0,m1,m2,m3,mf,ml⟩:=zaj x0;exact yw (v:=.tuple #[.agg #[.slice none 0 0,.slice none 0 0,.slice none 0 0,.slice none 0 0],.int .i64 0,.int .i64 4]) (by simp[results,Tryz.results148,go_sem,m0,m1,m2,m3]) rfl ⟨⟨none,none,none,none,0,0,0,0⟩,rfl,xb,zjH _ _⟩
theorem zyB(A:RA)(R:Rl)(x:Ac)(w:World)(J:zaG R=0)(M:zct w A R)(ha:isH x.a)(hk:x.k≠1/\x.k≠2/\x.k≠4/\x.k≠6/\x.k≠5/\x.k≠11/\x.k≠14/\x.k≠15/\x.k≠3/\x.k≠7/\x.k≠8) :
  Calls Tryz.prog 148 #[rlV A R,acV x] w fun e w' => ∃ B:RA,e=.returned (.tuple #[rlV B zbN,.int .i64 0,.int .i64 3])/\Below w.heap.size w w' /\ zct w' B zbN:=by
 have hl:=(zav J).2.1;have O:Hid (∀ W,zct W A R->Calls _ _ _ _ _):=fun W M=>zet A R W (zcU J) M;rw[J] at O;have T:Hid (∀ W,Calls _ _ _ _ _):=fun W=>zcK A R x.a W hl;rw[show decide (isH x.a)=true from yG ha] at T;have D2:Hid (∀ W,Calls _ _ _ _ _):=fun W=>ztj x.k W hk;have U:Hid _:=zgX w A R x M;clear M ha J hl hk;obtain⟨xk,xa,xb,xc,xn⟩:=x;obtain⟨a0,a1,a2,a3,c0,c1,c2,c3⟩:=A;dsimp only[rlV,acV] at *
 go_enter Tryz.func148,Tryz.ntmps148
 go_wp2_with fail
 refine yi (O.out _ U.out.rl) ?_;rintro e V1 ⟨rfl,F⟩;have D:Hid _:=U.out.below F;clear F O U;obtain⟨r0,r1,r2,r3,rf,rl⟩:=zaj D.out.r;obtain⟨z0,z1,z2,z3,zf,zl⟩:=zaj D.out.z;obtain⟨y0,y1,y2,y3,y4,yl⟩:=zaX D.out.x
 go_wp2_with fail
 refine yi (T.out _) ?_;rintro e V2 ⟨rfl,F⟩;have E:Hid _:=D.out.below F;clear r0 r1 r2 r3 rf rl z0 z1 z2 z3 zf zl y0 y1 y2 y3 y4 yl;clear F T D;obtain⟨r0,r1,r2,r3,rf,rl⟩:=zaj E.out.r;obtain⟨z0,z1,z2,z3,zf,zl⟩:=zaj E.out.z;obtain⟨y0,y1,y2,y3,y4,yl⟩:=zaX E.out.x;have a6:∀ w:World,(binOp BinOp.eql 209 Value.nilFunc Value.nilFunc).run Tryz.prog w=.ok (.bool true) w:=fun _=>by kernel_rfl
 go_wp2_with fail
 refine yi (D2.out _) ?_;rintro e w6 ⟨rfl,I⟩;have a5:=I.symm;clear I;subst a5
 go_wp2
 obtain⟨X,Z⟩:∃ X,(((V2.setCell ⟨w.heap.size+1+1,0,none⟩ (.slice none 0 0)).setCell ⟨w.heap.size+1+1,1,none⟩ (.slice none 0 0)).setCell ⟨w.heap.size+1+1,2,none⟩ (.slice none 0 0)).setCell ⟨w.heap.size+1+1,3,none⟩ (.slice none 0 0)=X:=⟨_,rfl⟩;have x0:X.heap[w.heap.size+1+1]?=some (.cells #[.slice none 0 0,.slice none 0 0,.slice none 0 0,.slice none 0 0] 50 (0,0)):=by rw[<- Z];exact zcR E.out.z
 have xb:Below w.heap.size w X:=by rw[<- Z];exact(((E.out.bel.setCell (by simp;omega) _).setCell (by simp;omega) _).setCell (by simp;omega) _).setCell (by simp;omega) _
 rw[Z];obtain⟨m0,m1,m2,m3,mf,ml⟩:=zaj x0;exact yw (v:=.tuple #[.agg #[.slice none 0 0,.slice none 0 0,.slice none 0 0,.slice none 0 0],.int .i64 0,.int .i64 3]) (by simp[results,Tryz.results148,go_sem,m0,m1,m2,m3]) rfl ⟨⟨none,none,none,none,0,0,0,0⟩,rfl,xb,zjH _ _⟩
theorem zbe{R:Rl}{x:Ac}{q:Rs}{k:Int}{G F:Nat}(J:x.k=k)(E:∀ args w,(callFunc G args).run Tryz.prog w=.ok (.enter G args) w)
  (h:∀ W,Calls Tryz.prog 162 #[.int .i64 k] W fun e w' => ∃ D,e=.returned (.func (.func G) #[] #[.pointer (some ⟨D,0,none⟩)])/\Below W.heap.size W w' /\ w'.cell? ⟨D,0,none⟩=some (.func (.func F) #[] #[]))
  (hd:∀ D (w:World),w.cell? ⟨D,0,none⟩=some (.func (.func F) #[] #[])->zmr G #[.pointer (some ⟨D,0,none⟩)] w R x q):zkC R x q:=fun W=>by
 rw[J];refine(h W).mono ?_;rintro e w' ⟨D,rfl,I,hc⟩;exact⟨G,_,rfl,I,E,fun M h0=>hd D M ((h0.cell (ye _ _ hc)).trans hc)⟩
theorem zir{R:Rl}{x:Ac}{q:Rs}{k:Int}{G:Nat}(E:x.k=k)(D:∀ args w,(callFunc G args).run Tryz.prog w=.ok (.enter G args) w)
  (h:∀ W,Calls Tryz.prog 162 #[.int .i64 k] W fun e w' => e=.returned (.func (.func G) #[] #[])/\w' = W) (hd:∀ w:World,zmr G #[] w R x q):zkC R x q:=fun W=>by
 rw[E];refine(h W).mono ?_;rintro e w' ⟨rfl,rfl⟩;exact⟨G,_,rfl,yr _ _,D,fun F _=>hd F⟩
theorem zyi{R:Rl}{a n:Int}(h:zfA R.s n=0):zsC R a n=⟨0,⟨rS (zfA R.s n) (mkS R.s n),R.hs.set a.toNat (rH (zfA R.s n) (mkH R.s)),R.i,R.t⟩,0⟩:=by
 unfold zsC;rw[zls h,h];rfl
theorem zyh{R:Rl}{b:Int}{h:Int × Int}{c:Bool}(e:zwp R.s h.1 h.2=0):zsB R b h c=⟨0,⟨rS (zwp R.s h.1 h.2) (zAi R.s h.1 c),R.hs.set b.toNat (rH (zwp R.s h.1 h.2) (mkH R.s)),R.i,R.t⟩,0⟩:=by
 unfold zsB;rw[zls e,e];rfl
theorem zBi(R:Rl)(x:Ac)(hR:zaG R=0)(ha:isH x.a)(hk:¬ (x.k≠1/\x.k≠2/\x.k≠4/\x.k≠6/\x.k≠5/\x.k≠11/\x.k≠14/\x.k≠15/\x.k≠3/\x.k≠7/\x.k≠8)):zkC R x (doG R x):=by
 obtain⟨wf,hl,hg,_⟩:=zav hR;have M:=(zcG hg).1;unfold doG;rw[yd ha];by_cases k1:x.k=1
 ·rw[yd k1];exact zir k1 (yK Tryz.func165 (by kernel_rfl) rfl) zvN (fun w=>znn w R x hl ha _ _ _ (zyT R.s x.n wf) _ (zlt _ _ _) zyi)
 rw[ya k1];by_cases k2:x.k=2
 ·rw[yd k2];exact zbe k2 (yK Tryz.func183 (by kernel_rfl) rfl) zvO (fun D w hc=>zkJ _ (yK Tryz.func167 (by kernel_rfl) rfl) D w hc R x hl ha _ _ (zwf R.s (hd R x.a) wf))
 rw[ya k2];by_cases k4:x.k=4
 ·rw[yd k4];exact zbe k4 (yK Tryz.func183 (by kernel_rfl) rfl) zvP (fun D w hc=>zkJ _ (yK Tryz.func168 (by kernel_rfl) rfl) D w hc R x hl ha _ _ (zrO R.s (hd R x.a) wf))
 rw[ya k4];by_cases k6:x.k=6
 ·rw[yd k6];exact zir k6 (yK Tryz.func169 (by kernel_rfl) rfl) zvR (fun w=>znH w R x wf hl ha)
 rw[ya k6];by_cases k5:x.k=5
 ·rw[yd k5];exact zbe k5 (yK Tryz.func187 (by kernel_rfl) rfl) zvQ (fun D w hc=>zpW _ (yK Tryz.func171 (by kernel_rfl) rfl) D w hc R x wf hl ha x.n (fun a c W _=>zma a _ c x.n W))
 rw[ya k5];by_cases J:x.k=11
 ·rw[yd J];unfold zvE;by_cases hn:0<=x.n/\x.n<R.i.length
  ·rw[yd hn];obtain⟨j,hj⟩:∃ j:Nat,x.n=j:=⟨x.n.toNat,by omega⟩;refine zbe J (yK Tryz.func187 (by kernel_rfl) rfl) zmK (fun D w hc=>zpW _ (yK Tryz.func172 (by kernel_rfl) rfl) D w hc R x wf hl ha _ (fun a c W Z=>?_));rw[hj,yj];exact zkj a c R.i j W Z (by omega) M
  ·rw[ya hn];exact zbe J (yK Tryz.func187 (by kernel_rfl) rfl) zmK (fun D w hc=>zyU _ (yK Tryz.func172 (by kernel_rfl) rfl) D w hc R x wf hl ha 4 0 (by decide) (fun a c W _=>zlv a _ c x.n W hn M))
 rw[ya J];by_cases O:x.k=14
 ·rw[yd O];exact zbe O (yK Tryz.func188 (by kernel_rfl) rfl) zth (fun D w hc=>zjS _ (yK Tryz.func174 (by kernel_rfl) rfl) D w hc R x hl ha _ _ (fun a c W Z=>zkq R.s (hd R x.a) x wf a c W Z))
 rw[ya O];by_cases T:x.k=15
 ·rw[yd T];exact zbe T (yK Tryz.func188 (by kernel_rfl) rfl) zti (fun D w hc=>zjS _ (yK Tryz.func175 (by kernel_rfl) rfl) D w hc R x hl ha _ _ (fun a c W Z=>zlH R.s (hd R x.a) x wf a c W Z))
 rw[ya T];have kk:x.k=3\/x.k=7\/x.k=8:=by omega
 rw[yd kk];have U:(∀ args w,(callFunc 191 args).run Tryz.prog w=.ok (.enter 191 args) w):=yK Tryz.func191 (by kernel_rfl) rfl;have eh:=yK Tryz.func178 (by kernel_rfl) rfl;have eu:=yK Tryz.func179 (by kernel_rfl) rfl;have ei:=yK Tryz.func177 (by kernel_rfl) rfl;by_cases E:isH x.b
 ·rw[yd E];by_cases k7:x.k=7
  ·rw[yd k7];exact zbe k7 U zpD (fun D w hc=>zjX _ eh D w hc R x hl E _ (zwq w R x hl ha E _ _ _ (zyP R.s (hd R x.a) (decide (x.n=1)) wf) _ (zlt _ _ _) zyh))
  rw[ya k7];by_cases k8:x.k=8
  ·rw[yd k8];exact zbe k8 U zpE (fun D w hc=>zjX _ eu D w hc R x hl E _ (zAP w R x wf hl ha E))
  rw[ya k8];have k3:x.k=3:=by omega
  refine zbe k3 U zpC (fun D w hc=>zjX _ ei D w hc R x hl E _ ?_);by_cases F:x.c<0
  ·rw[yd F];exact zwB w R x wf hl ha E F
  rw[ya F];by_cases I:isH x.c
  ·rw[yd I];exact zwC w R x wf hl ha E I
  ·rw[ya I];exact ztN w R x wf hl ha E F I
 ·rw[ya E];rcases kk with k3|k7|k8
  ·exact zbe k3 U zpC (fun D w hc=>zmp _ ei D w hc R x hl E)
  ·exact zbe k7 U zpD (fun D w hc=>zmp _ eh D w hc R x hl E)
  ·exact zbe k8 U zpE (fun D w hc=>zmp _ eu D w hc R x hl E)
def zzJ:Prop:=∀ (A:RA) (R:Rl) (x:Ac) (w:World),zsq R->zct w A R ->
 Calls Tryz.prog 148 #[rlV A R,acV x] w fun e w' => ∃ B:RA,e=.returned (.tuple #[rlV B (doF R x).r,.int .i64 (doF R x).o,.int .i64 (doF R x).e])/\Below w.heap.size w w' /\ zct w' B (doF R x).r/\((doF R x).e=0->RlO w.heap.size w' B (doF R x).r)
theorem zyx:zzJ:=fun A R x w hB I=>by
 by_cases D:zaG R=0
 ·have e:doF R x=doG R x:=yd D;rw[e];by_cases ha:isH x.a
  ·by_cases U:x.k≠1/\x.k≠2/\x.k≠4/\x.k≠6/\x.k≠5/\x.k≠11/\x.k≠14/\x.k≠15/\x.k≠3/\x.k≠7/\x.k≠8
   ·have J:doG R x=bad 3:=by
     obtain⟨h1,E,Z,h6,h5,M,O,T,F,h7,h8⟩:=U;unfold doG;rw[yd ha,ya h1,ya E,ya Z,ya h6,ya h5,ya M,ya O,ya T,ya (by omega)]
    rw[J];exact(zyB A R x w D I ha U).mono (fun e w' ⟨B,h1,E,F⟩=>⟨B,h1,E,F,fun h=>absurd h (by decide)⟩)
   ·have h:=zyA A R x _ w D I ha (zBi R x D ha U);have s:=zzQ R x;by_cases h0:(doG R x).e=0
    ·rw[yd h0,yd h0] at h;exact h
    ·rw[ya h0,ya h0] at h;rw[(s h0).1,(s h0).2];exact h
  ·have J:doG R x=bad 4:=by unfold doG;rw[ya ha]
   rw[J];exact(zyz A R x w D I ha).mono (fun e w' ⟨B,h1,E,F⟩=>⟨B,h1,E,F,fun h=>absurd h (by decide)⟩)
 ·have e:doF R x=bad (zaG R):=ya D;rw[e];exact(zyy A R x _ w hB I rfl D).mono (fun e w' ⟨B,h1,E,F⟩=>⟨B,h1,E,F,fun h=>absurd h D⟩)
theorem zqz(w:World):(zeroValue 199).run Tryz.prog w=.ok (.agg #[.bool false,.int .i64 0,.bool false]) w:=by kernel_rfl
theorem zyW(a:Option Addr)(c:Nat)(L:List Fr)(f t x:Int)(w:World)(hN:L.length<=9223372036854775807)(hL:zaS w a L)(hE:zfw L [f,t]≠0) :
  Calls Tryz.prog 137 #[.slice a L.length c,.int .i64 f,.int .i64 t,.int .i64 x] w fun e w' => e=.returned (.int .i64 (zdI L f t x))/\Below w.heap.size w w' := by
 have a6:∀ w:World,(Instr.index 197 (.agg #[.int .i64 f,.int .i64 t]) (.int .i64 0)).run Tryz.prog w=.ok (.int .i64 f) w:=fun _=>by kernel_rfl
 have a7:∀ w:World,(Instr.index 197 (.agg #[.int .i64 f,.int .i64 t]) (.int .i64 1)).run Tryz.prog w=.ok (.int .i64 t) w:=fun _=>by kernel_rfl
 have D:Hid _:=zef a c L w hN hL;have D1:Hid (∀ W,zaS W a L->_):=fun W hW=>zcF a c L f W hN hW;have D2:Hid (∀ W,zaS W a L->_):=fun W hW=>zcF a c L t W hN hW;have HL:Hid (zaS w a L):=hL;clear hL;by_cases h1:zaO L=0
 ·by_cases T:zax L f=0
  ·have U:zax L t≠0:=fun U=>hE (zit h1 T U);rw[zug h1 T U];rw[h1] at D;rw[T] at D1;clear h1 T hE;generalize zax L t=F at *;have Z:(F == 0)=false:=by simp[U]
   have a5:decide (F=0)=false:=yF U;generalize L.length=n at *
   go_enter Tryz.func137,Tryz.ntmps137
   go_wp2_with fail
   refine yi D.out ?_;rintro e w1 ⟨rfl,I⟩;have E:Hid (Below w.heap.size w w1):=I;clear I
   go_wp2_with fail
   go_loopg [23] 2 (fun g s23 wr=>∃ k:Nat,k<=1/\2-k<=g/\s23=.int .i64 k/\wr=w1)
   case atStart=>exact⟨0,by omega,by omega,rfl,rfl⟩
   case round =>
    obtain⟨k,hk,hg,rfl,M⟩:=hrel;have O:=M.symm;clear M;subst O;obtain rfl|rfl:k=0\/k=1:=by omega
    ·go_wp2_with fail
     refine yi (D1.out _ (HL.out.below E.out)) ?_;rintro e w2 ⟨rfl,J⟩;subst J
     go_wp2_with fail
     go_roundg 1
     case measure=>omega
     case rel=>exact⟨1,by omega,by omega,by go_num,rfl⟩
    ·go_wp2_with fail
     refine yi (D2.out _ (HL.out.below E.out)) ?_;rintro e w2 ⟨rfl,J⟩;subst J
     go_wp2_with fail
     go_ret;exact⟨rfl,E.out⟩
  ·rw[zyY h1 T];rw[h1] at D;clear h1 hE;generalize zax L f=F at *;have Z:(F == 0)=false:=by simp[T]
   have a5:decide (F=0)=false:=yF T;generalize L.length=n at *
   go_enter Tryz.func137,Tryz.ntmps137
   go_wp2_with fail
   refine yi D.out ?_;rintro e w1 ⟨rfl,I⟩;have E:Hid (Below w.heap.size w w1):=I;clear I
   go_wp2_with fail
   go_loopg [23] 2 (fun g s23 wr=>∃ k:Nat,k<=0/\2-k<=g/\s23=.int .i64 k/\wr=w1)
   case atStart=>exact⟨0,by omega,by omega,rfl,rfl⟩
   case round =>
    obtain⟨k,hk,hg,rfl,M⟩:=hrel;have O:=M.symm;clear M;subst O;obtain rfl:k=0:=by omega
    go_wp2_with fail
    refine yi (D1.out _ (HL.out.below E.out)) ?_;rintro e w2 ⟨rfl,J⟩;subst J
    go_wp2_with fail
    go_ret;exact⟨rfl,E.out⟩
 ·rw[zyX h1];clear hE;generalize zaO L=F at *;have Z:(F == 0)=false:=by simp[h1]
  have a5:decide (F=0)=false:=yF h1;generalize L.length=n at *
  go_enter Tryz.func137,Tryz.ntmps137
  go_wp2_with fail
  refine yi D.out ?_;rintro e w1 ⟨rfl,I⟩;have E:Hid (Below w.heap.size w w1):=I;clear I
  go_wp2_with fail
  go_ret;exact⟨rfl,E.out⟩
theorem zAy(a:Option Addr)(c:Nat)(L:List Fr)(f t x:Int)(w:World)(hx:(Lit.int .i64 x).wf=true)(hN:L.length<=9223372036854775807)(hL:zaS w a L)(hE:zfw L [f,t]=0) :
  Calls Tryz.prog 137 #[.slice a L.length c,.int .i64 f,.int .i64 t,.int .i64 x] w fun e w' => e=.returned (.int .i64 (zdI L f t x))/\Below w.heap.size w w' := by
 obtain⟨h1,h2,h3⟩:=zgk hE;have R:=zcE.1 h1;rw[zwW h1 h2 h3];obtain⟨p,rfl,hp,_⟩:=zfR h2;obtain⟨q,rfl,hq,_⟩:=zfR h3;have b1:∀ w:World,(Instr.index 197 (.agg #[.int .i64 (p:Int),.int .i64 (q:Int)]) (.int .i64 0)).run Tryz.prog w=.ok (.int .i64 (p:Int)) w:=fun _=>by kernel_rfl
 have b2:∀ w:World,(Instr.index 197 (.agg #[.int .i64 (p:Int),.int .i64 (q:Int)]) (.int .i64 1)).run Tryz.prog w=.ok (.int .i64 (q:Int)) w:=fun _=>by kernel_rfl
 have D:Hid _:=zef a c L w hN hL;have D1:Hid (∀ W,zaS W a L->_):=fun W hW=>zcF a c L p W hN hW;have D2:Hid (∀ W,zaS W a L->_):=fun W hW=>zcF a c L q W hN hW;have D4:Hid (∀ M nd O W,zaS W a L->_):=fun M nd O W hW=>zwL a c L p q M nd O W (by have:=R.few;omega) hW hp hq;have HL:Hid (zaS w a L):=hL;rw[h1] at D;rw[h2] at D1;rw[h3] at D2;have LA:Hid (∀ M nd O,zhq x=some (M,nd,O)->ztV L p q M nd O=zso L p q x):=fun M nd O h=>zwM R hp h;clear hL h1 h2 h3 hE;have a9:=R.few;generalize zso L p q x=A at *;obtain⟨n,hn⟩:∃ n,L.length=n:=⟨_,rfl⟩;rw[hn] at D D1 D2 D4 hp hq hN a9 |-;clear hn;by_cases hr:1<=x/\x<=5
 ·rw[ya (yJ hr)]
  obtain⟨⟨M,nd,O⟩,a7⟩:∃ r,zhq x=some r:=by
   cases h:zhq x with
   | none=>exact absurd hr (zjL.1 h)
   | some r=>exact⟨r,rfl⟩
  have D5:Hid (∀ W,zaS W a L->_):=fun W hW=>D4.out M nd O W hW;rw[LA.out M nd O a7] at D5;have HR:Hid (zfm 5 (.int .i64 x)=some (rv (M,nd,O))):=(by rw[znw,yd hr.2,a7];rfl:zfm 5 (.int .i64 x)=some (rv (M,nd,O)));clear D4 LA a7 hr;cases A
  all_goals
   simp only[if_true,if_false,Bool.false_eq_true]
   go_enter Tryz.func137,Tryz.ntmps137
   go_wp2_with fail
   refine yi D.out ?_;rintro e w1 ⟨rfl,T⟩;have F:Hid (Below w.heap.size w w1):=T;clear T
   go_wp2_with fail
   go_loopg [23] 2 (fun g s23 wr=>∃ k:Nat,k<=2/\2-k<=g/\s23=.int .i64 k/\wr=w1)
   case atStart=>exact⟨0,by omega,by omega,rfl,rfl⟩
   case round =>
    obtain⟨k,hk,hg,rfl,Z⟩:=hrel;have a5:=Z.symm;clear Z;subst a5;obtain rfl|rfl|rfl:k=0\/k=1\/k=2:=by omega
    ·go_wp2_with fail
     refine yi (D1.out _ (HL.out.below F.out)) ?_;rintro e w2 ⟨rfl,I⟩;subst I
     go_wp2_with fail
     go_roundg 1
     case measure=>omega
     case rel=>exact⟨1,by omega,by omega,by go_num,rfl⟩
    ·go_wp2_with fail
     refine yi (D2.out _ (HL.out.below F.out)) ?_;rintro e w2 ⟨rfl,I⟩;subst I
     go_wp2_with fail
     go_roundg 0
     case measure=>omega
     case rel=>exact⟨2,by omega,by omega,by go_num,rfl⟩
    ·go_wp2_with fail
     refine yi (znx _) ?_;rintro e w2 ⟨b,rfl,hm,U⟩;have E:=hm.look_ok (Maps.int_keyed Tryz.underlying3) (t:=201) Tryz.underlying201 (zqz w2) (zgB hx) trivial;rw[HR.out] at E;dsimp only[Option.getD,Option.isSome,rv] at E;have J:Hid (Below w.heap.size w w2):=F.out.trans (U.mono F.out.size);clear hm U
     go_wp2_with fail
     have a6:∀ o:Obj,Below w.heap.size w (w2.alloc o):=fun o=>J.out.alloc J.out.size o;refine yi (D5.out _ (HL.out.below (a6 _))) ?_;rintro e w3 ⟨rfl,a8⟩;have b0:Hid (Below w.heap.size w w3):=(a6 _).trans (a8.mono (a6 _).size);clear a6 a8
     go_wp2_with fail
     go_ret;exact⟨rfl,b0.out⟩
 ·rw[yd hr];have HR:Hid (zfm 5 (.int .i64 x)=none):=(by rw[znw,zjL.2 hr];split <;> rfl:zfm 5 (.int .i64 x)=none);clear D4 LA hr
  go_enter Tryz.func137,Tryz.ntmps137
  go_wp2_with fail
  refine yi D.out ?_;rintro e w1 ⟨rfl,T⟩;have F:Hid (Below w.heap.size w w1):=T;clear T
  go_wp2_with fail
  go_loopg [23] 2 (fun g s23 wr=>∃ k:Nat,k<=2/\2-k<=g/\s23=.int .i64 k/\wr=w1)
  case atStart=>exact⟨0,by omega,by omega,rfl,rfl⟩
  case round =>
   obtain⟨k,hk,hg,rfl,Z⟩:=hrel;have a5:=Z.symm;clear Z;subst a5;obtain rfl|rfl|rfl:k=0\/k=1\/k=2:=by omega
   ·go_wp2_with fail
    refine yi (D1.out _ (HL.out.below F.out)) ?_;rintro e w2 ⟨rfl,I⟩;subst I
    go_wp2_with fail
    go_roundg 1
    case measure=>omega
    case rel=>exact⟨1,by omega,by omega,by go_num,rfl⟩
   ·go_wp2_with fail
    refine yi (D2.out _ (HL.out.below F.out)) ?_;rintro e w2 ⟨rfl,I⟩;subst I
    go_wp2_with fail
    go_roundg 0
    case measure=>omega
    case rel=>exact⟨2,by omega,by omega,by go_num,rfl⟩
   ·go_wp2_with fail
    refine yi (znx _) ?_;rintro e w2 ⟨b,rfl,hm,U⟩;have E:=hm.look_ok (Maps.int_keyed Tryz.underlying3) (t:=201) Tryz.underlying201 (zqz w2) (zgB hx) trivial;rw[HR.out] at E;dsimp only[Option.getD,Option.isSome] at E;have J:Hid (Below w.heap.size w w2):=F.out.trans (U.mono F.out.size);clear hm U
    go_wp2_with fail
    go_ret;exact⟨rfl,J.out.alloc J.out.size _⟩
theorem zyV(a:Option Addr)(c:Nat)(L:List Fr)(f t x:Int)(w:World)(F:(Lit.int .i64 x).wf=true)(E:L.length<=9223372036854775807)(D:zaS w a L) :
  Calls Tryz.prog 137 #[.slice a L.length c,.int .i64 f,.int .i64 t,.int .i64 x] w fun e w' => e=.returned (.int .i64 (zdI L f t x))/\Below w.heap.size w w' := by
 by_cases h:zfw L [f,t]=0
 ·exact zAy a c L f t x w F E D h
 ·exact zyW a c L f t x w E D h
end Go.Proofs.YtcbcpomacdngmaaGreat
