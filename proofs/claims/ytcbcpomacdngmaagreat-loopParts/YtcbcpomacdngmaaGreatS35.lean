/-
  x
-/
import Derived.Test.YtcbcpomacdngmaaGreatS32
import Derived.Test.YtcbcpomacdngmaaGreatS33
import Derived.Test.YtcbcpomacdngmaaGreatS34
namespace Go.Proofs.YtcbcpomacdngmaaGreat
set_option maxRecDepth 100000
set_option maxHeartbeats 4000000
set_option linter.unusedVariables false
open Go.RowKit Go.ChangeShapes Go.WideShapes
theorem zly(S:List Nd)(h:Int × Int)(x:Ac)(wf:WF S)(a:Option Addr)(c:Nat)(W:World)(O:zai W a S):yM 175 #[.agg #[.slice a S.length c],hdV h,acV x] W fun e w' => ∃ F I n,e=.returned (.tuple #[.slice F n I,.int .i64 (zaG S h.1 h.2)])/\Below W.heap.size W w' /\(zaG S h.1 h.2=0->n=(zja S h.1.toNat).length):=by
 have D:Hid (∀ Z o2 o3:Obj,_):=fun Z o2 o3=>zvS S h wf a c (((W.alloc Z).alloc o2).alloc o3) (O.below (zar _ _ _ _));clear O;obtain⟨P,U⟩:=h;dsimp only[hdV,acV] at D |-;obtain⟨E,J⟩:∃ E,zaG S P U=E:=⟨_,rfl⟩;rw[J] at D |-;obtain⟨N,M⟩:∃ N,(zja S P.toNat).length=N:=⟨_,rfl⟩;rw[M] at D |-;generalize S.length=ns at *;clear J M
 go_enter Tryz.func175,Tryz.ntmps175
 go_wp2_with fail
 refine ye (D.out _ _ _) ?_;rintro e V ⟨F,I,n,rfl,T,hn⟩;have HB:Hid (Below W.heap.size W V):=(zar W _ _ _).trans (T.mono (by simp;omega));have HN:Hid (E=0->n=N):=fun h=>by rw[hn,yb h]
 clear T hn D
 go_wp2
 exact yw (v:=.tuple #[.slice F n I,.int .i64 E]) (by simp[results,Tryz.results175,go_sem]) rfl ⟨F,I,n,rfl,HB.out,HN.out⟩
theorem zkj(S:List Nd)(h:Int × Int)(x:Ac)(wf:WF S)(a:Option Addr)(c:Nat)(W:World)(Z:zai W a S):yM 174 #[.agg #[.slice a S.length c],hdV h,acV x] W fun e w' => ∃ F I n,e=.returned (.tuple #[.slice F n I,.int .i64 (zyg S h.1 h.2 [⟨x.b,x.n,false⟩])])/\Below W.heap.size W w' /\(zyg S h.1 h.2 [⟨x.b,x.n,false⟩]=0->n=(zgS S h.1.toNat [⟨x.b,x.n,false⟩]).length):=by
 have D:Hid (∀ J M o3:Obj,_):=fun J M o3=>zsM S h x.b x.n (some ⟨W.heap.size+1+1+1,0,none⟩) 1 wf a c ((((W.alloc J).alloc M).alloc o3).alloc (.cells #[.int .i64 x.b,.int .i64 x.n,.bool false] 231)) ((Z.below (zar _ _ _ _)).below (zaa _ _)) (fun i hi=>by
  obtain rfl:i=0:=by simpa using hi
  have e:(((W.alloc J).alloc M).alloc o3).heap.size=W.heap.size+1+1+1:=by simp
  refine⟨W.heap.size+1+1+1,0,rfl,?_,?_,?_⟩
  all_goals rw[<- e]
  ·exact zad _ _ _ 0 rfl
  ·exact zad _ _ _ 1 rfl
  ·exact zad _ _ _ 2 rfl)
 clear Z;obtain⟨P,U⟩:=h;obtain⟨xk,xa,xb,xc,xn⟩:=x;dsimp only[hdV,acV] at D |-;obtain⟨E,O⟩:∃ E,zyg S P U [⟨xb,xn,false⟩]=E:=⟨_,rfl⟩;rw[O] at D |-;obtain⟨N,T⟩:∃ N,(zgS S P.toNat [⟨xb,xn,false⟩]).length=N:=⟨_,rfl⟩;rw[T] at D |-;generalize S.length=ns at *;clear O T
 go_enter Tryz.func174,Tryz.ntmps174
 go_wp2_with fail
 refine ye (D.out _ _ _) ?_;rintro e V ⟨F,I,n,rfl,hb,hn⟩;have HB:Hid (Below W.heap.size W V):=(zar W _ _ _).trans (((zaa _ _).trans (hb.mono (by simp))).mono (by simp;omega));have HN:Hid (E=0->n=N):=fun h=>by rw[hn,yb h]
 clear hb hn D
 go_wp2
 exact yw (v:=.tuple #[.slice F n I,.int .i64 E]) (by simp[results,Tryz.results174,go_sem]) rfl ⟨F,I,n,rfl,HB.out,HN.out⟩
theorem zvD(W:World):yM 162 #[.int .i64 2] W fun e w' => ∃ E,e=.returned (.func (.func 183) #[] #[.pointer (some ⟨E,0,none⟩)])/\Below W.heap.size W w' /\ w'.cell? ⟨E,0,none⟩=some (.func (.func 167) #[] #[]):=by
 have D:Hid (∀ W,Calls _ _ _ _ _):=fun W=>zic 167 W
 go_enter Tryz.func162,Tryz.ntmps162
 go_wp2_with fail
 refine ye (D.out _) ?_;rintro e V ⟨rfl,F,hc⟩;have I:Hid _:=F;have J:Hid _:=hc;clear F hc D
 go_wp2
 go_ret;exact⟨_,rfl,I.out,J.out⟩
theorem zvE(W:World):yM 162 #[.int .i64 4] W fun e w' => ∃ E,e=.returned (.func (.func 183) #[] #[.pointer (some ⟨E,0,none⟩)])/\Below W.heap.size W w' /\ w'.cell? ⟨E,0,none⟩=some (.func (.func 168) #[] #[]):=by
 have D:Hid (∀ W,Calls _ _ _ _ _):=fun W=>zic 168 W
 go_enter Tryz.func162,Tryz.ntmps162
 go_wp2_with fail
 refine ye (D.out _) ?_;rintro e V ⟨rfl,F,hc⟩;have I:Hid _:=F;have J:Hid _:=hc;clear F hc D
 go_wp2
 go_ret;exact⟨_,rfl,I.out,J.out⟩
theorem zvF(W:World):yM 162 #[.int .i64 5] W fun e w' => ∃ E,e=.returned (.func (.func 187) #[] #[.pointer (some ⟨E,0,none⟩)])/\Below W.heap.size W w' /\ w'.cell? ⟨E,0,none⟩=some (.func (.func 171) #[] #[]):=by
 have D:Hid (∀ W,Calls _ _ _ _ _):=fun W=>zkQ 171 W
 go_enter Tryz.func162,Tryz.ntmps162
 go_wp2_with fail
 refine ye (D.out _) ?_;rintro e V ⟨rfl,F,hc⟩;have I:Hid _:=F;have J:Hid _:=hc;clear F hc D
 go_wp2
 go_ret;exact⟨_,rfl,I.out,J.out⟩
theorem zmz(W:World):yM 162 #[.int .i64 11] W fun e w' => ∃ E,e=.returned (.func (.func 187) #[] #[.pointer (some ⟨E,0,none⟩)])/\Below W.heap.size W w' /\ w'.cell? ⟨E,0,none⟩=some (.func (.func 172) #[] #[]):=by
 have D:Hid (∀ W,Calls _ _ _ _ _):=fun W=>zkQ 172 W
 go_enter Tryz.func162,Tryz.ntmps162
 go_wp2_with fail
 refine ye (D.out _) ?_;rintro e V ⟨rfl,F,hc⟩;have I:Hid _:=F;have J:Hid _:=hc;clear F hc D
 go_wp2
 go_ret;exact⟨_,rfl,I.out,J.out⟩
theorem zsO(W:World):yM 162 #[.int .i64 14] W fun e w' => ∃ E,e=.returned (.func (.func 188) #[] #[.pointer (some ⟨E,0,none⟩)])/\Below W.heap.size W w' /\ w'.cell? ⟨E,0,none⟩=some (.func (.func 174) #[] #[]):=by
 have D:Hid (∀ W,Calls _ _ _ _ _):=fun W=>zes 174 W
 go_enter Tryz.func162,Tryz.ntmps162
 go_wp2_with fail
 refine ye (D.out _) ?_;rintro e V ⟨rfl,F,hc⟩;have I:Hid _:=F;have J:Hid _:=hc;clear F hc D
 go_wp2
 go_ret;exact⟨_,rfl,I.out,J.out⟩
theorem zsP(W:World):yM 162 #[.int .i64 15] W fun e w' => ∃ E,e=.returned (.func (.func 188) #[] #[.pointer (some ⟨E,0,none⟩)])/\Below W.heap.size W w' /\ w'.cell? ⟨E,0,none⟩=some (.func (.func 175) #[] #[]):=by
 have D:Hid (∀ W,Calls _ _ _ _ _):=fun W=>zes 175 W
 go_enter Tryz.func162,Tryz.ntmps162
 go_wp2_with fail
 refine ye (D.out _) ?_;rintro e V ⟨rfl,F,hc⟩;have I:Hid _:=F;have J:Hid _:=hc;clear F hc D
 go_wp2
 go_ret;exact⟨_,rfl,I.out,J.out⟩
theorem zpr(W:World):yM 162 #[.int .i64 3] W fun e w' => ∃ E,e=.returned (.func (.func 191) #[] #[.pointer (some ⟨E,0,none⟩)])/\Below W.heap.size W w' /\ w'.cell? ⟨E,0,none⟩=some (.func (.func 177) #[] #[]):=by
 have D:Hid (∀ W,Calls _ _ _ _ _):=fun W=>zdB 177 W
 go_enter Tryz.func162,Tryz.ntmps162
 go_wp2_with fail
 refine ye (D.out _) ?_;rintro e V ⟨rfl,F,hc⟩;have I:Hid _:=F;have J:Hid _:=hc;clear F hc D
 go_wp2
 go_ret;exact⟨_,rfl,I.out,J.out⟩
theorem zps(W:World):yM 162 #[.int .i64 7] W fun e w' => ∃ E,e=.returned (.func (.func 191) #[] #[.pointer (some ⟨E,0,none⟩)])/\Below W.heap.size W w' /\ w'.cell? ⟨E,0,none⟩=some (.func (.func 178) #[] #[]):=by
 have D:Hid (∀ W,Calls _ _ _ _ _):=fun W=>zdB 178 W
 go_enter Tryz.func162,Tryz.ntmps162
 go_wp2_with fail
 refine ye (D.out _) ?_;rintro e V ⟨rfl,F,hc⟩;have I:Hid _:=F;have J:Hid _:=hc;clear F hc D
 go_wp2
 go_ret;exact⟨_,rfl,I.out,J.out⟩
theorem zpt(W:World):yM 162 #[.int .i64 8] W fun e w' => ∃ E,e=.returned (.func (.func 191) #[] #[.pointer (some ⟨E,0,none⟩)])/\Below W.heap.size W w' /\ w'.cell? ⟨E,0,none⟩=some (.func (.func 179) #[] #[]):=by
 have D:Hid (∀ W,Calls _ _ _ _ _):=fun W=>zdB 179 W
 go_enter Tryz.func162,Tryz.ntmps162
 go_wp2_with fail
 refine ye (D.out _) ?_;rintro e V ⟨rfl,F,hc⟩;have I:Hid _:=F;have J:Hid _:=hc;clear F hc D
 go_wp2
 go_ret;exact⟨_,rfl,I.out,J.out⟩
theorem zvC(W:World):yM 162 #[.int .i64 1] W fun e w' => e=.returned (.func (.func 165) #[] #[])/\w' = W:=by
 go_enter Tryz.func162,Tryz.ntmps162
 go_wp2
 go_ret;exact⟨rfl,rfl⟩
theorem zvG(W:World):yM 162 #[.int .i64 6] W fun e w' => e=.returned (.func (.func 169) #[] #[])/\w' = W:=by
 go_enter Tryz.func162,Tryz.ntmps162
 go_wp2
 go_ret;exact⟨rfl,rfl⟩
theorem zsQ(k:Int)(W:World)(h:k≠1/\k≠2/\k≠4/\k≠6/\k≠5/\k≠11/\k≠14/\k≠15/\k≠3/\k≠7/\k≠8):yM 162 #[.int .i64 k] W fun e w' => e=.returned .nilFunc/\w' = W:=by
 obtain⟨h1,I,M,O,h5,D,E,F,J,T,U⟩:=h;have b1:(k == 1)=false:=by simp[h1]
 have b2:(k == 2)=false:=by simp[I]
 have b4:(k == 4)=false:=by simp[M]
 have b6:(k == 6)=false:=by simp[O]
 have b5:(k == 5)=false:=by simp[h5]
 have Z:(k == 11)=false:=by simp[D]
 have a5:(k == 14)=false:=by simp[E]
 have a6:(k == 15)=false:=by simp[F]
 have b3:(k == 3)=false:=by simp[J]
 have b7:(k == 7)=false:=by simp[T]
 have b8:(k == 8)=false:=by simp[U]
 clear h1 I M O h5 D E F J T U
 go_enter Tryz.func162,Tryz.ntmps162
 go_wp2
 go_ret;exact⟨rfl,rfl⟩
theorem zym(A:RA)(R:Rl)(x:Ac)(E:Int)(w:World)(T:zvf R)(I:zcZ w A R)(U:zaF R=E)(F:E≠0) :
  yM 148 #[rlV A R,acV x] w fun e w' => ∃ B:RA,e=.returned (.tuple #[rlV B zbE,.int .i64 0,.int .i64 E])/\Below w.heap.size w w' /\ zcZ w' B zbE:=by
 have J:Hid (∀ W,zcZ W A R->Calls _ _ _ _ _):=fun W I=>zeo A R W T I;rw[U] at J;have hz:(E == 0)=false:=by simp[F]
 have M:Hid _:=zgM w A R x I;clear I U T F;obtain⟨xk,xa,xb,xc,xn⟩:=x;obtain⟨a0,a1,a2,a3,c0,c1,c2,c3⟩:=A;dsimp only[rlV,acV] at *
 go_enter Tryz.func148,Tryz.ntmps148
 go_wp2_with fail
 refine ye (J.out _ M.out.rl) ?_;rintro e V1 ⟨rfl,Z⟩;have D:Hid _:=M.out.below Z;clear Z J M;obtain⟨r0,r1,r2,r3,rf,rl⟩:=zak D.out.r;obtain⟨z0,z1,z2,z3,zf,zl⟩:=zak D.out.z;obtain⟨y0,y1,y2,y3,y4,yl⟩:=zau D.out.x
 go_wp2
 obtain⟨X,O⟩:∃ X,(((V1.setCell ⟨w.heap.size+1+1,0,none⟩ (.slice none 0 0)).setCell ⟨w.heap.size+1+1,1,none⟩ (.slice none 0 0)).setCell ⟨w.heap.size+1+1,2,none⟩ (.slice none 0 0)).setCell ⟨w.heap.size+1+1,3,none⟩ (.slice none 0 0)=X:=⟨_,rfl⟩;have x0:X.heap[w.heap.size+1+1]?=some (.cells #[.slice none 0 0,.slice none 0 0,.slice none 0 0,.slice none 0 0] 50 (0,0)):=by rw[<- O];exact zcL D.out.z
 have xb:Below w.heap.size w X:=by rw[<- O];exact(((D.out.bel.setCell (by simp;omega) _).setCell (by simp;omega) _).setCell (by simp;omega) _).setCell (by simp;omega) _
 rw[O];obtain⟨m0,m1,m2,m3,mf,ml⟩:=zak x0;exact yw (v:=.tuple #[.agg #[.slice none 0 0,.slice none 0 0,.slice none 0 0,.slice none 0 0],.int .i64 0,.int .i64 E]) (by simp[results,Tryz.results148,go_sem,m0,m1,m2,m3]) rfl ⟨⟨none,none,none,none,0,0,0,0⟩,rfl,xb,zjF _ _⟩
theorem zyn(A:RA)(R:Rl)(x:Ac)(w:World)(I:zaF R=0)(J:zcZ w A R)(ha:¬ isH x.a) :
  yM 148 #[rlV A R,acV x] w fun e w' => ∃ B:RA,e=.returned (.tuple #[rlV B zbE,.int .i64 0,.int .i64 4])/\Below w.heap.size w w' /\ zcZ w' B zbE:=by
 have hl:=(zaB I).2.1;have M:Hid (∀ W,zcZ W A R->Calls _ _ _ _ _):=fun W J=>zeo A R W (zdU I) J;rw[I] at M;have O:Hid (∀ W,Calls _ _ _ _ _):=fun W=>zcF A R x.a W hl;rw[show decide (isH x.a)=false from yF ha] at O;have T:Hid _:=zgM w A R x J;clear J ha I hl;obtain⟨xk,xa,xb,xc,xn⟩:=x;obtain⟨a0,a1,a2,a3,c0,c1,c2,c3⟩:=A;dsimp only[rlV,acV] at *
 go_enter Tryz.func148,Tryz.ntmps148
 go_wp2_with fail
 refine ye (M.out _ T.out.rl) ?_;rintro e V1 ⟨rfl,F⟩;have D:Hid _:=T.out.below F;clear F M T;obtain⟨Z,r1,r2,r3,rf,rl⟩:=zak D.out.r;obtain⟨z0,z1,z2,z3,zf,zl⟩:=zak D.out.z;obtain⟨y0,y1,y2,y3,y4,yl⟩:=zau D.out.x
 go_wp2_with fail
 refine ye (O.out _) ?_;rintro e V2 ⟨rfl,F⟩;have E:Hid _:=D.out.below F;clear Z r1 r2 r3 rf rl z0 z1 z2 z3 zf zl y0 y1 y2 y3 y4 yl;clear F O D;obtain⟨Z,r1,r2,r3,rf,rl⟩:=zak E.out.r;obtain⟨z0,z1,z2,z3,zf,zl⟩:=zak E.out.z;obtain⟨y0,y1,y2,y3,y4,yl⟩:=zau E.out.x
 go_wp2
 obtain⟨X,U⟩:∃ X,(((V2.setCell ⟨w.heap.size+1+1,0,none⟩ (.slice none 0 0)).setCell ⟨w.heap.size+1+1,1,none⟩ (.slice none 0 0)).setCell ⟨w.heap.size+1+1,2,none⟩ (.slice none 0 0)).setCell ⟨w.heap.size+1+1,3,none⟩ (.slice none 0 0)=X:=⟨_,rfl⟩;have x0:X.heap[w.heap.size+1+1]?=some (.cells #[.slice none 0 0,.slice none 0 0,.slice none 0 0,.slice none 0 0] 50 (0,0)):=by rw[<- U];exact zcL E.out.z
 have xb:Below w.heap.size w X:=by rw[<- U];exact(((E.out.bel.setCell (by simp;omega) _).setCell (by simp;omega) _).setCell (by simp;omega) _).setCell (by simp;omega) _
 rw[U];obtain⟨m0,m1,m2,m3,mf,ml⟩:=zak x0;exact yw (v:=.tuple #[.agg #[.slice none 0 0,.slice none 0 0,.slice none 0 0,.slice none 0 0],.int .i64 0,.int .i64 4]) (by simp[results,Tryz.results148,go_sem,m0,m1,m2,m3]) rfl ⟨⟨none,none,none,none,0,0,0,0⟩,rfl,xb,zjF _ _⟩
theorem zyp(A:RA)(R:Rl)(x:Ac)(w:World)(J:zaF R=0)(M:zcZ w A R)(ha:isH x.a)(hk:x.k≠1/\x.k≠2/\x.k≠4/\x.k≠6/\x.k≠5/\x.k≠11/\x.k≠14/\x.k≠15/\x.k≠3/\x.k≠7/\x.k≠8) :
  yM 148 #[rlV A R,acV x] w fun e w' => ∃ B:RA,e=.returned (.tuple #[rlV B zbE,.int .i64 0,.int .i64 3])/\Below w.heap.size w w' /\ zcZ w' B zbE:=by
 have hl:=(zaB J).2.1;have O:Hid (∀ W,zcZ W A R->Calls _ _ _ _ _):=fun W M=>zeo A R W (zdU J) M;rw[J] at O;have T:Hid (∀ W,Calls _ _ _ _ _):=fun W=>zcF A R x.a W hl;rw[show decide (isH x.a)=true from yG ha] at T;have D2:Hid (∀ W,Calls _ _ _ _ _):=fun W=>zsQ x.k W hk;have U:Hid _:=zgM w A R x M;clear M ha J hl hk;obtain⟨xk,xa,xb,xc,xn⟩:=x;obtain⟨a0,a1,a2,a3,c0,c1,c2,c3⟩:=A;dsimp only[rlV,acV] at *
 go_enter Tryz.func148,Tryz.ntmps148
 go_wp2_with fail
 refine ye (O.out _ U.out.rl) ?_;rintro e V1 ⟨rfl,F⟩;have D:Hid _:=U.out.below F;clear F O U;obtain⟨r0,r1,r2,r3,rf,rl⟩:=zak D.out.r;obtain⟨z0,z1,z2,z3,zf,zl⟩:=zak D.out.z;obtain⟨y0,y1,y2,y3,y4,yl⟩:=zau D.out.x
 go_wp2_with fail
 refine ye (T.out _) ?_;rintro e V2 ⟨rfl,F⟩;have E:Hid _:=D.out.below F;clear r0 r1 r2 r3 rf rl z0 z1 z2 z3 zf zl y0 y1 y2 y3 y4 yl;clear F T D;obtain⟨r0,r1,r2,r3,rf,rl⟩:=zak E.out.r;obtain⟨z0,z1,z2,z3,zf,zl⟩:=zak E.out.z;obtain⟨y0,y1,y2,y3,y4,yl⟩:=zau E.out.x;have a6:∀ w:World,(binOp BinOp.eql 209 Value.nilFunc Value.nilFunc).run Tryz.prog w=.ok (.bool true) w:=fun _=>by kernel_rfl
 go_wp2_with fail
 refine ye (D2.out _) ?_;rintro e w6 ⟨rfl,I⟩;have a5:=I.symm;clear I;subst a5
 go_wp2
 obtain⟨X,Z⟩:∃ X,(((V2.setCell ⟨w.heap.size+1+1,0,none⟩ (.slice none 0 0)).setCell ⟨w.heap.size+1+1,1,none⟩ (.slice none 0 0)).setCell ⟨w.heap.size+1+1,2,none⟩ (.slice none 0 0)).setCell ⟨w.heap.size+1+1,3,none⟩ (.slice none 0 0)=X:=⟨_,rfl⟩;have x0:X.heap[w.heap.size+1+1]?=some (.cells #[.slice none 0 0,.slice none 0 0,.slice none 0 0,.slice none 0 0] 50 (0,0)):=by rw[<- Z];exact zcL E.out.z
 have xb:Below w.heap.size w X:=by rw[<- Z];exact(((E.out.bel.setCell (by simp;omega) _).setCell (by simp;omega) _).setCell (by simp;omega) _).setCell (by simp;omega) _
 rw[Z];obtain⟨m0,m1,m2,m3,mf,ml⟩:=zak x0;exact yw (v:=.tuple #[.agg #[.slice none 0 0,.slice none 0 0,.slice none 0 0,.slice none 0 0],.int .i64 0,.int .i64 3]) (by simp[results,Tryz.results148,go_sem,m0,m1,m2,m3]) rfl ⟨⟨none,none,none,none,0,0,0,0⟩,rfl,xb,zjF _ _⟩
theorem zbb{R:Rl}{x:Ac}{q:Rs}{k:Int}{G F:Nat}(J:x.k=k)(E:∀ args w,(callFunc G args).run Tryz.prog w=.ok (.enter G args) w)
  (h:∀ W,yM 162 #[.int .i64 k] W fun e w' => ∃ D,e=.returned (.func (.func G) #[] #[.pointer (some ⟨D,0,none⟩)])/\Below W.heap.size W w' /\ w'.cell? ⟨D,0,none⟩=some (.func (.func F) #[] #[]))
  (hd:∀ D (w:World),w.cell? ⟨D,0,none⟩=some (.func (.func F) #[] #[])->zmh G #[.pointer (some ⟨D,0,none⟩)] w R x q):zku R x q:=fun W=>by
 rw[J];refine(h W).mono ?_;rintro e w' ⟨D,rfl,I,hc⟩;exact⟨G,_,rfl,I,E,fun M h0=>hd D M ((h0.cell (yd _ _ hc)).trans hc)⟩
theorem zie{R:Rl}{x:Ac}{q:Rs}{k:Int}{G:Nat}(E:x.k=k)(D:∀ args w,(callFunc G args).run Tryz.prog w=.ok (.enter G args) w)
  (h:∀ W,yM 162 #[.int .i64 k] W fun e w' => e=.returned (.func (.func G) #[] #[])/\w' = W) (hd:∀ w:World,zmh G #[] w R x q):zku R x q:=fun W=>by
 rw[E];refine(h W).mono ?_;rintro e w' ⟨rfl,rfl⟩;exact⟨G,_,rfl,yk _ _,D,fun F _=>hd F⟩
theorem zxV{R:Rl}{a n:Int}(h:zfr R.s n=0):zsl R a n=⟨0,⟨rS (zfr R.s n) (mkS R.s n),R.hs.set a.toNat (rH (zfr R.s n) (mkH R.s)),R.i,R.t⟩,0⟩:=by
 unfold zsl;rw[zlj h,h];rfl
theorem zxU{R:Rl}{b:Int}{h:Int × Int}{c:Bool}(e:zwd R.s h.1 h.2=0):zsk R b h c=⟨0,⟨rS (zwd R.s h.1 h.2) (zzU R.s h.1 c),R.hs.set b.toNat (rH (zwd R.s h.1 h.2) (mkH R.s)),R.i,R.t⟩,0⟩:=by
 unfold zsk;rw[zlj e,e];rfl
theorem zAV(R:Rl)(x:Ac)(hR:zaF R=0)(ha:isH x.a)(hk:¬ (x.k≠1/\x.k≠2/\x.k≠4/\x.k≠6/\x.k≠5/\x.k≠11/\x.k≠14/\x.k≠15/\x.k≠3/\x.k≠7/\x.k≠8)):zku R x (doG R x):=by
 obtain⟨wf,hl,hg,_⟩:=zaB hR;have M:=(zdj hg).1;unfold doG;rw[yb ha];by_cases k1:x.k=1
 ·rw[yb k1];exact zie k1 (yK Tryz.func165 (by kernel_rfl) rfl) zvC (fun w=>zne w R x hl ha _ _ _ (zyG R.s x.n wf) _ (zlk _ _ _) zxV)
 rw[ya k1];by_cases k2:x.k=2
 ·rw[yb k2];exact zbb k2 (yK Tryz.func183 (by kernel_rfl) rfl) zvD (fun D w hc=>zkA _ (yK Tryz.func167 (by kernel_rfl) rfl) D w hc R x hl ha _ _ (zvU R.s (hd R x.a) wf))
 rw[ya k2];by_cases k4:x.k=4
 ·rw[yb k4];exact zbb k4 (yK Tryz.func183 (by kernel_rfl) rfl) zvE (fun D w hc=>zkA _ (yK Tryz.func168 (by kernel_rfl) rfl) D w hc R x hl ha _ _ (zrz R.s (hd R x.a) wf))
 rw[ya k4];by_cases k6:x.k=6
 ·rw[yb k6];exact zie k6 (yK Tryz.func169 (by kernel_rfl) rfl) zvG (fun w=>znw w R x wf hl ha)
 rw[ya k6];by_cases k5:x.k=5
 ·rw[yb k5];exact zbb k5 (yK Tryz.func187 (by kernel_rfl) rfl) zvF (fun D w hc=>zpL _ (yK Tryz.func171 (by kernel_rfl) rfl) D w hc R x wf hl ha x.n (fun a c W _=>zlQ a _ c x.n W))
 rw[ya k5];by_cases J:x.k=11
 ·rw[yb J];unfold zvt;by_cases hn:0<=x.n/\x.n<R.i.length
  ·rw[yb hn];obtain⟨j,hj⟩:∃ j:Nat,x.n=j:=⟨x.n.toNat,by omega⟩;refine zbb J (yK Tryz.func187 (by kernel_rfl) rfl) zmz (fun D w hc=>zpL _ (yK Tryz.func172 (by kernel_rfl) rfl) D w hc R x wf hl ha _ (fun a c W Z=>?_));rw[hj,yi];exact zkb a c R.i j W Z (by omega) M
  ·rw[ya hn];exact zbb J (yK Tryz.func187 (by kernel_rfl) rfl) zmz (fun D w hc=>zyH _ (yK Tryz.func172 (by kernel_rfl) rfl) D w hc R x wf hl ha 4 0 (by decide) (fun a c W _=>zlm a _ c x.n W hn M))
 rw[ya J];by_cases O:x.k=14
 ·rw[yb O];exact zbb O (yK Tryz.func188 (by kernel_rfl) rfl) zsO (fun D w hc=>zjP _ (yK Tryz.func174 (by kernel_rfl) rfl) D w hc R x hl ha _ _ (fun a c W Z=>zkj R.s (hd R x.a) x wf a c W Z))
 rw[ya O];by_cases T:x.k=15
 ·rw[yb T];exact zbb T (yK Tryz.func188 (by kernel_rfl) rfl) zsP (fun D w hc=>zjP _ (yK Tryz.func175 (by kernel_rfl) rfl) D w hc R x hl ha _ _ (fun a c W Z=>zly R.s (hd R x.a) x wf a c W Z))
 rw[ya T];have kk:x.k=3\/x.k=7\/x.k=8:=by omega
 rw[yb kk];have U:(∀ args w,(callFunc 191 args).run Tryz.prog w=.ok (.enter 191 args) w):=yK Tryz.func191 (by kernel_rfl) rfl;have eh:=yK Tryz.func178 (by kernel_rfl) rfl;have eu:=yK Tryz.func179 (by kernel_rfl) rfl;have ei:=yK Tryz.func177 (by kernel_rfl) rfl;by_cases E:isH x.b
 ·rw[yb E];by_cases k7:x.k=7
  ·rw[yb k7];exact zbb k7 U zps (fun D w hc=>zjS _ eh D w hc R x hl E _ (zwe w R x hl ha E _ _ _ (zyC R.s (hd R x.a) (decide (x.n=1)) wf) _ (zlk _ _ _) zxU))
  rw[ya k7];by_cases k8:x.k=8
  ·rw[yb k8];exact zbb k8 U zpt (fun D w hc=>zjS _ eu D w hc R x hl E _ (zAz w R x wf hl ha E))
  rw[ya k8];have k3:x.k=3:=by omega
  refine zbb k3 U zpr (fun D w hc=>zjS _ ei D w hc R x hl E _ ?_);by_cases F:x.c<0
  ·rw[yb F];exact zwn w R x wf hl ha E F
  rw[ya F];by_cases I:isH x.c
  ·rw[yb I];exact zwo w R x wf hl ha E I
  ·rw[ya I];exact ztw w R x wf hl ha E F I
 ·rw[ya E];rcases kk with k3|k7|k8
  ·exact zbb k3 U zpr (fun D w hc=>zmf _ ei D w hc R x hl E)
  ·exact zbb k7 U zps (fun D w hc=>zmf _ eh D w hc R x hl E)
  ·exact zbb k8 U zpt (fun D w hc=>zmf _ eu D w hc R x hl E)
def zzt:Prop:=∀ (A:RA) (R:Rl) (x:Ac) (w:World),zvf R->zcZ w A R ->
 yM 148 #[rlV A R,acV x] w fun e w' => ∃ B:RA,e=.returned (.tuple #[rlV B (doF R x).r,.int .i64 (doF R x).o,.int .i64 (doF R x).e])/\Below w.heap.size w w' /\ zcZ w' B (doF R x).r/\((doF R x).e=0->RlO w.heap.size w' B (doF R x).r)
theorem zyl:zzt:=fun A R x w hB I=>by
 by_cases D:zaF R=0
 ·have e:doF R x=doG R x:=yb D;rw[e];by_cases ha:isH x.a
  ·by_cases U:x.k≠1/\x.k≠2/\x.k≠4/\x.k≠6/\x.k≠5/\x.k≠11/\x.k≠14/\x.k≠15/\x.k≠3/\x.k≠7/\x.k≠8
   ·have J:doG R x=bad 3:=by
     obtain⟨h1,E,Z,h6,h5,M,O,T,F,h7,h8⟩:=U;unfold doG;rw[yb ha,ya h1,ya E,ya Z,ya h6,ya h5,ya M,ya O,ya T,ya (by omega)]
    rw[J];exact(zyp A R x w D I ha U).mono (fun e w' ⟨B,h1,E,F⟩=>⟨B,h1,E,F,fun h=>absurd h (by decide)⟩)
   ·have h:=zyo A R x _ w D I ha (zAV R x D ha U);have s:=zzB R x;by_cases h0:(doG R x).e=0
    ·rw[yb h0,yb h0] at h;exact h
    ·rw[ya h0,ya h0] at h;rw[(s h0).1,(s h0).2];exact h
  ·have J:doG R x=bad 4:=(by unfold doG;rw[ya ha]);rw[J];exact(zyn A R x w D I ha).mono (fun e w' ⟨B,h1,E,F⟩=>⟨B,h1,E,F,fun h=>absurd h (by decide)⟩)
 ·have e:doF R x=bad (zaF R):=ya D;rw[e];exact(zym A R x _ w hB I rfl D).mono (fun e w' ⟨B,h1,E,F⟩=>⟨B,h1,E,F,fun h=>absurd h D⟩)
theorem zql(w:World):(zeroValue 199).run Tryz.prog w=.ok (.agg #[.bool false,.int .i64 0,.bool false]) w:=by kernel_rfl
theorem zyJ(a:Option Addr)(c:Nat)(L:List Fr)(f t x:Int)(w:World)(hN:L.length<=9223372036854775807)(hL:zaP w a L)(hE:zfn L [f,t]≠0) :
  yM 137 #[.slice a L.length c,.int .i64 f,.int .i64 t,.int .i64 x] w fun e w' => e=.returned (.int .i64 (zdN L f t x))/\Below w.heap.size w w' := by
 have a7:∀ w:World,(Instr.index 197 (.agg #[.int .i64 f,.int .i64 t]) (.int .i64 0)).run Tryz.prog w=.ok (.int .i64 f) w:=fun _=>by kernel_rfl
 have a8:∀ w:World,(Instr.index 197 (.agg #[.int .i64 f,.int .i64 t]) (.int .i64 1)).run Tryz.prog w=.ok (.int .i64 t) w:=fun _=>by kernel_rfl
 have D:Hid _:=zdZ a c L w hN hL;have D1:Hid (∀ W,zaP W a L->_):=fun W hW=>zcB a c L f W hN hW;have D2:Hid (∀ W,zaP W a L->_):=fun W hW=>zcB a c L t W hN hW;have HL:Hid (zaP w a L):=hL;clear hL;by_cases h1:zaN L=0
 ·by_cases T:zaz L f=0
  ·have Z:zaz L t≠0:=fun Z=>hE (zih h1 T Z);rw[ztK h1 T Z];rw[h1] at D;rw[T] at D1;clear h1 T hE;generalize zaz L t=F at *;have a5:(F == 0)=false:=(by simp[Z]);have a6:decide (F=0)=false:=yF Z;generalize L.length=n at *
   go_enter Tryz.func137,Tryz.ntmps137
   go_wp2_with fail
   refine ye D.out ?_;rintro e U ⟨rfl,I⟩;have E:Hid (Below w.heap.size w U):=I;clear I
   go_wp2_with fail
   go_loopg [23] 2 (fun g s23 wr=>∃ k:Nat,k<=1/\2-k<=g/\s23=.int .i64 k/\wr=U)
   case atStart=>exact⟨0,by omega,by omega,rfl,rfl⟩
   case round =>
    obtain⟨k,hk,hg,rfl,M⟩:=hrel;have O:=M.symm;clear M;subst O;obtain rfl|rfl:k=0\/k=1:=by omega
    ·go_wp2_with fail
     refine ye (D1.out _ (HL.out.below E.out)) ?_;rintro e w2 ⟨rfl,J⟩;subst J
     go_wp2_with fail
     go_roundg 1
     case measure=>omega
     case rel=>exact⟨1,by omega,by omega,by go_num,rfl⟩
    ·go_wp2_with fail
     refine ye (D2.out _ (HL.out.below E.out)) ?_;rintro e w2 ⟨rfl,J⟩;subst J
     go_wp2_with fail
     go_ret;exact⟨rfl,E.out⟩
  ·rw[zyL h1 T];rw[h1] at D;clear h1 hE;generalize zaz L f=F at *;have a5:(F == 0)=false:=(by simp[T]);have a6:decide (F=0)=false:=yF T;generalize L.length=n at *
   go_enter Tryz.func137,Tryz.ntmps137
   go_wp2_with fail
   refine ye D.out ?_;rintro e U ⟨rfl,I⟩;have E:Hid (Below w.heap.size w U):=I;clear I
   go_wp2_with fail
   go_loopg [23] 2 (fun g s23 wr=>∃ k:Nat,k<=0/\2-k<=g/\s23=.int .i64 k/\wr=U)
   case atStart=>exact⟨0,by omega,by omega,rfl,rfl⟩
   case round =>
    obtain⟨k,hk,hg,rfl,M⟩:=hrel;have O:=M.symm;clear M;subst O;obtain rfl:k=0:=by omega
    go_wp2_with fail
    refine ye (D1.out _ (HL.out.below E.out)) ?_;rintro e w2 ⟨rfl,J⟩;subst J
    go_wp2_with fail
    go_ret;exact⟨rfl,E.out⟩
 ·rw[zyK h1];clear hE;generalize zaN L=F at *;have a5:(F == 0)=false:=by simp[h1]
  have a6:decide (F=0)=false:=yF h1;generalize L.length=n at *
  go_enter Tryz.func137,Tryz.ntmps137
  go_wp2_with fail
  refine ye D.out ?_;rintro e U ⟨rfl,I⟩;have E:Hid (Below w.heap.size w U):=I;clear I
  go_wp2_with fail
  go_ret;exact⟨rfl,E.out⟩
theorem zAk(a:Option Addr)(c:Nat)(L:List Fr)(f t x:Int)(w:World)(hx:(Lit.int .i64 x).wf=true)(hN:L.length<=9223372036854775807)(hL:zaP w a L)(hE:zfn L [f,t]=0) :
  yM 137 #[.slice a L.length c,.int .i64 f,.int .i64 t,.int .i64 x] w fun e w' => e=.returned (.int .i64 (zdN L f t x))/\Below w.heap.size w w' := by
 obtain⟨h1,h2,h3⟩:=zgc hE;have R:=zds.1 h1;rw[zwH h1 h2 h3];obtain⟨p,rfl,hp,_⟩:=zfI h2;obtain⟨q,rfl,hq,_⟩:=zfI h3;have b1:∀ w:World,(Instr.index 197 (.agg #[.int .i64 (p:Int),.int .i64 (q:Int)]) (.int .i64 0)).run Tryz.prog w=.ok (.int .i64 (p:Int)) w:=fun _=>by kernel_rfl
 have b2:∀ w:World,(Instr.index 197 (.agg #[.int .i64 (p:Int),.int .i64 (q:Int)]) (.int .i64 1)).run Tryz.prog w=.ok (.int .i64 (q:Int)) w:=fun _=>by kernel_rfl
 have D:Hid _:=zdZ a c L w hN hL;have D1:Hid (∀ W,zaP W a L->_):=fun W hW=>zcB a c L p W hN hW;have D2:Hid (∀ W,zaP W a L->_):=fun W hW=>zcB a c L q W hN hW;have D4:Hid (∀ M nd O W,zaP W a L->_):=fun M nd O W hW=>zww a c L p q M nd O W (by have:=R.few;omega) hW hp hq;have HL:Hid (zaP w a L):=hL;rw[h1] at D;rw[h2] at D1;rw[h3] at D2;have LA:Hid (∀ M nd O,zhe x=some (M,nd,O)->ztC L p q M nd O=zsq L p q x):=fun M nd O h=>zwx R hp h;clear hL h1 h2 h3 hE;have a9:=R.few;generalize zsq L p q x=A at *;obtain⟨n,hn⟩:∃ n,L.length=n:=⟨_,rfl⟩;rw[hn] at D D1 D2 D4 hp hq hN a9 |-;clear hn;by_cases hr:1<=x/\x<=5
 ·rw[ya (yJ hr)]
  obtain⟨⟨M,nd,O⟩,a7⟩:∃ r,zhe x=some r:=by
   cases h:zhe x with
   | none=>exact absurd hr (zjI.1 h)
   | some r=>exact⟨r,rfl⟩
  have D5:Hid (∀ W,zaP W a L->_):=fun W hW=>D4.out M nd O W hW;rw[LA.out M nd O a7] at D5;have HR:Hid (zfd 5 (.int .i64 x)=some (rv (M,nd,O))):=(by rw[znn,yb hr.2,a7];rfl:zfd 5 (.int .i64 x)=some (rv (M,nd,O)));clear D4 LA a7 hr;cases A
  all_goals
   simp only[if_true,if_false,Bool.false_eq_true]
   go_enter Tryz.func137,Tryz.ntmps137
   go_wp2_with fail
   refine ye D.out ?_;rintro e w1 ⟨rfl,T⟩;have F:Hid (Below w.heap.size w w1):=T;clear T
   go_wp2_with fail
   go_loopg [23] 2 (fun g s23 wr=>∃ k:Nat,k<=2/\2-k<=g/\s23=.int .i64 k/\wr=w1)
   case atStart=>exact⟨0,by omega,by omega,rfl,rfl⟩
   case round =>
    obtain⟨k,hk,hg,rfl,Z⟩:=hrel;have a5:=Z.symm;clear Z;subst a5;obtain rfl|rfl|rfl:k=0\/k=1\/k=2:=by omega
    ·go_wp2_with fail
     refine ye (D1.out _ (HL.out.below F.out)) ?_;rintro e w2 ⟨rfl,I⟩;subst I
     go_wp2_with fail
     go_roundg 1
     case measure=>omega
     case rel=>exact⟨1,by omega,by omega,by go_num,rfl⟩
    ·go_wp2_with fail
     refine ye (D2.out _ (HL.out.below F.out)) ?_;rintro e w2 ⟨rfl,I⟩;subst I
     go_wp2_with fail
     go_roundg 0
     case measure=>omega
     case rel=>exact⟨2,by omega,by omega,by go_num,rfl⟩
    ·go_wp2_with fail
     refine ye (zno _) ?_;rintro e w2 ⟨b,rfl,hm,U⟩;have E:=hm.look_ok (Maps.int_keyed Tryz.underlying3) (t:=201) Tryz.underlying201 (zql w2) (zgs hx) trivial;rw[HR.out] at E;dsimp only[Option.getD,Option.isSome,rv] at E;have J:Hid (Below w.heap.size w w2):=F.out.trans (U.mono F.out.size);clear hm U
     go_wp2_with fail
     have a6:∀ o:Obj,Below w.heap.size w (w2.alloc o):=fun o=>J.out.alloc J.out.size o;refine ye (D5.out _ (HL.out.below (a6 _))) ?_;rintro e w3 ⟨rfl,a8⟩;have b0:Hid (Below w.heap.size w w3):=(a6 _).trans (a8.mono (a6 _).size);clear a6 a8
     go_wp2_with fail
     go_ret;exact⟨rfl,b0.out⟩
 ·rw[yb hr];have HR:Hid (zfd 5 (.int .i64 x)=none):=(by rw[znn,zjI.2 hr];split <;> rfl:zfd 5 (.int .i64 x)=none);clear D4 LA hr
  go_enter Tryz.func137,Tryz.ntmps137
  go_wp2_with fail
  refine ye D.out ?_;rintro e w1 ⟨rfl,T⟩;have F:Hid (Below w.heap.size w w1):=T;clear T
  go_wp2_with fail
  go_loopg [23] 2 (fun g s23 wr=>∃ k:Nat,k<=2/\2-k<=g/\s23=.int .i64 k/\wr=w1)
  case atStart=>exact⟨0,by omega,by omega,rfl,rfl⟩
  case round =>
   obtain⟨k,hk,hg,rfl,Z⟩:=hrel;have a5:=Z.symm;clear Z;subst a5;obtain rfl|rfl|rfl:k=0\/k=1\/k=2:=by omega
   ·go_wp2_with fail
    refine ye (D1.out _ (HL.out.below F.out)) ?_;rintro e w2 ⟨rfl,I⟩;subst I
    go_wp2_with fail
    go_roundg 1
    case measure=>omega
    case rel=>exact⟨1,by omega,by omega,by go_num,rfl⟩
   ·go_wp2_with fail
    refine ye (D2.out _ (HL.out.below F.out)) ?_;rintro e w2 ⟨rfl,I⟩;subst I
    go_wp2_with fail
    go_roundg 0
    case measure=>omega
    case rel=>exact⟨2,by omega,by omega,by go_num,rfl⟩
   ·go_wp2_with fail
    refine ye (zno _) ?_;rintro e w2 ⟨b,rfl,hm,U⟩;have E:=hm.look_ok (Maps.int_keyed Tryz.underlying3) (t:=201) Tryz.underlying201 (zql w2) (zgs hx) trivial;rw[HR.out] at E;dsimp only[Option.getD,Option.isSome] at E;have J:Hid (Below w.heap.size w w2):=F.out.trans (U.mono F.out.size);clear hm U
    go_wp2_with fail
    go_ret;exact⟨rfl,J.out.alloc J.out.size _⟩
theorem zyI(a:Option Addr)(c:Nat)(L:List Fr)(f t x:Int)(w:World)(F:(Lit.int .i64 x).wf=true)(E:L.length<=9223372036854775807)(D:zaP w a L) :
  yM 137 #[.slice a L.length c,.int .i64 f,.int .i64 t,.int .i64 x] w fun e w' => e=.returned (.int .i64 (zdN L f t x))/\Below w.heap.size w w' := by
 by_cases h:zfn L [f,t]=0
 ·exact zAk a c L f t x w F E D h
 ·exact zyJ a c L f t x w E D h
end Go.Proofs.YtcbcpomacdngmaaGreat
