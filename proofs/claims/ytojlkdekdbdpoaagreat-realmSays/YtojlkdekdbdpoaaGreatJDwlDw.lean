/-
  x
-/
import Derived.Test.YtojlkdekdbdpoaaGreatJDwdDwk
import Derived.Test.YtojlkdekdbdpoaaGreatJDweDwf
import Derived.Test.YtojlkdekdbdpoaaGreatJDwg
import Derived.Test.YtojlkdekdbdpoaaGreatJDwiDwjDwn
namespace Go.Proofs.YtojlkdekdbdpoaaGreat
set_option maxRecDepth 100000
set_option maxHeartbeats 4000000
open Go.RowKit Go.ChangeShapes Go.WideShapes
set_option linter.unusedVariables false
theorem zgW(S:List Nd)(h:Int × Int)(x:Ac)(wf:WF S)(a:Option Addr)(c:Nat)(W:World)(hW:NdsAt W a S):Calls Tryz.prog 51 #[.agg #[.slice a S.length c],hdV h,acV x] W fun e w' => ∃ a' c' n,e=.returned (.tuple #[.slice a' n c', .int .i64 (findE S h.1 h.2)])∧Below W.heap.size W w' ∧(findE S h.1 h.2=0→n=(flatF S h.1.toNat).length):=by
 have D:Hid (∀ o1 o2 o3:Obj,_):=fun o1 o2 o3=>zow S h wf a c (((W.alloc o1).alloc o2).alloc o3) (hW.below (zaj _ _ _ _))
 clear hW
 obtain⟨P,U⟩:=h
 dsimp only[hdV,acV] at D ⊢
 obtain⟨E,hE⟩:∃ E,findE S P U=E:=⟨_,rfl⟩
 rw[hE] at D ⊢
 obtain⟨N,hN⟩:∃ N,(flatF S P.toNat).length=N:=⟨_,rfl⟩
 rw[hN] at D ⊢
 generalize S.length=ns at *
 clear hE hN
 go_enter Tryz.func51,Tryz.ntmps51
 go_wp2_with fail
 refine Calls.mono (D.out _ _ _) ?_
 rintro e V ⟨a', c', n,rfl,hb,hn⟩
 have HB:Hid (Below W.heap.size W V):=(zaj W _ _ _).trans (hb.mono (by simp;omega))
 have HN:Hid (E=0→n=N):=fun h=>by rw[hn,if_pos h]
 clear hb hn D
 go_wp2
 exact bodyPost_ret (v:=.tuple #[.slice a' n c', .int .i64 E]) (by simp[results,Tryz.results51,go_sem]) rfl ⟨a', c', n,rfl,HB.out,HN.out⟩
theorem zfZ(S:List Nd)(h:Int × Int)(x:Ac)(wf:WF S)(a:Option Addr)(c:Nat)(W:World)(hW:NdsAt W a S):Calls Tryz.prog 50 #[.agg #[.slice a S.length c],hdV h,acV x] W fun e w' => ∃ a' c' n,e=.returned (.tuple #[.slice a' n c', .int .i64 (cntE S h.1 h.2 [⟨x.b,x.n,false⟩])])∧Below W.heap.size W w' ∧(cntE S h.1 h.2 [⟨x.b,x.n,false⟩]=0→n=(zcq S h.1.toNat [⟨x.b,x.n,false⟩]).length):=by
 have D:Hid (∀ o1 o2 o3:Obj,_):=fun o1 o2 o3=>zmL S h x.b x.n (some ⟨W.heap.size+1+1+1,0,none⟩) 1 wf a c ((((W.alloc o1).alloc o2).alloc o3).alloc (.cells #[.int .i64 x.b,.int .i64 x.n,.bool false] 77)) ((hW.below (zaj _ _ _ _)).below (zab _ _)) (fun i hi=>by
  obtain rfl:i=0:=by simpa using hi
  have e:(((W.alloc o1).alloc o2).alloc o3).heap.size=W.heap.size+1+1+1:=by simp
  refine⟨W.heap.size+1+1+1,0,rfl,?_,?_,?_⟩
  all_goals rw[← e]
  ·exact zac _ _ _ 0 rfl
  ·exact zac _ _ _ 1 rfl
  ·exact zac _ _ _ 2 rfl)
 clear hW
 obtain⟨P,U⟩:=h
 obtain⟨xk,xa,xb,xc,xn⟩:=x
 dsimp only[hdV,acV] at D ⊢
 obtain⟨E,hE⟩:∃ E,cntE S P U [⟨xb,xn,false⟩]=E:=⟨_,rfl⟩
 rw[hE] at D ⊢
 obtain⟨N,hN⟩:∃ N,(zcq S P.toNat [⟨xb,xn,false⟩]).length=N:=⟨_,rfl⟩
 rw[hN] at D ⊢
 generalize S.length=ns at *
 clear hE hN
 go_enter Tryz.func50,Tryz.ntmps50
 go_wp2_with fail
 refine Calls.mono (D.out _ _ _) ?_
 rintro e V ⟨a', c', n,rfl,hb,hn⟩
 have HB:Hid (Below W.heap.size W V):=(zaj W _ _ _).trans (((zab _ _).trans (hb.mono (by simp))).mono (by simp;omega))
 have HN:Hid (E=0→n=N):=fun h=>by rw[hn,if_pos h]
 clear hb hn D
 go_wp2
 exact bodyPost_ret (v:=.tuple #[.slice a' n c', .int .i64 E]) (by simp[results,Tryz.results50,go_sem]) rfl ⟨a', c', n,rfl,HB.out,HN.out⟩
theorem zoa(W:World):Calls Tryz.prog 15 #[.int .i64 2] W fun e w' => ∃ cb,e=.returned (.func (.func 86) #[] #[.pointer (some ⟨cb,0,none⟩)])∧Below W.heap.size W w' ∧ w'.cell? ⟨cb,0,none⟩=some (.func (.func 43) #[] #[]):=by
 have D:Hid (∀ W,Calls _ _ _ _ _):=fun W=>zeZ 43 W
 go_enter Tryz.func15,Tryz.ntmps15
 go_wp2_with fail
 refine Calls.mono (D.out _) ?_
 rintro e V ⟨rfl,hb,hc⟩
 have HB:Hid _:=hb
 have HC:Hid _:=hc
 clear hb hc D
 go_wp2
 go_ret
 exact⟨_,rfl,HB.out,HC.out⟩
theorem zoq(W:World):Calls Tryz.prog 15 #[.int .i64 4] W fun e w' => ∃ cb,e=.returned (.func (.func 86) #[] #[.pointer (some ⟨cb,0,none⟩)])∧Below W.heap.size W w' ∧ w'.cell? ⟨cb,0,none⟩=some (.func (.func 44) #[] #[]):=by
 have D:Hid (∀ W,Calls _ _ _ _ _):=fun W=>zeZ 44 W
 go_enter Tryz.func15,Tryz.ntmps15
 go_wp2_with fail
 refine Calls.mono (D.out _) ?_
 rintro e V ⟨rfl,hb,hc⟩
 have HB:Hid _:=hb
 have HC:Hid _:=hc
 clear hb hc D
 go_wp2
 go_ret
 exact⟨_,rfl,HB.out,HC.out⟩
theorem znY(W:World):Calls Tryz.prog 15 #[.int .i64 5] W fun e w' => ∃ cb,e=.returned (.func (.func 92) #[] #[.pointer (some ⟨cb,0,none⟩)])∧Below W.heap.size W w' ∧ w'.cell? ⟨cb,0,none⟩=some (.func (.func 47) #[] #[]):=by
 have D:Hid (∀ W,Calls _ _ _ _ _):=fun W=>zgp 47 W
 go_enter Tryz.func15,Tryz.ntmps15
 go_wp2_with fail
 refine Calls.mono (D.out _) ?_
 rintro e V ⟨rfl,hb,hc⟩
 have HB:Hid _:=hb
 have HC:Hid _:=hc
 clear hb hc D
 go_wp2
 go_ret
 exact⟨_,rfl,HB.out,HC.out⟩
theorem zhu(W:World):Calls Tryz.prog 15 #[.int .i64 11] W fun e w' => ∃ cb,e=.returned (.func (.func 92) #[] #[.pointer (some ⟨cb,0,none⟩)])∧Below W.heap.size W w' ∧ w'.cell? ⟨cb,0,none⟩=some (.func (.func 48) #[] #[]):=by
 have D:Hid (∀ W,Calls _ _ _ _ _):=fun W=>zgp 48 W
 go_enter Tryz.func15,Tryz.ntmps15
 go_wp2_with fail
 refine Calls.mono (D.out _) ?_
 rintro e V ⟨rfl,hb,hc⟩
 have HB:Hid _:=hb
 have HC:Hid _:=hc
 clear hb hc D
 go_wp2
 go_ret
 exact⟨_,rfl,HB.out,HC.out⟩
theorem zng(W:World):Calls Tryz.prog 15 #[.int .i64 14] W fun e w' => ∃ cb,e=.returned (.func (.func 93) #[] #[.pointer (some ⟨cb,0,none⟩)])∧Below W.heap.size W w' ∧ w'.cell? ⟨cb,0,none⟩=some (.func (.func 50) #[] #[]):=by
 have D:Hid (∀ W,Calls _ _ _ _ _):=fun W=>zcU 50 W
 go_enter Tryz.func15,Tryz.ntmps15
 go_wp2_with fail
 refine Calls.mono (D.out _) ?_
 rintro e V ⟨rfl,hb,hc⟩
 have HB:Hid _:=hb
 have HC:Hid _:=hc
 clear hb hc D
 go_wp2
 go_ret
 exact⟨_,rfl,HB.out,HC.out⟩
theorem zmD(W:World):Calls Tryz.prog 15 #[.int .i64 15] W fun e w' => ∃ cb,e=.returned (.func (.func 93) #[] #[.pointer (some ⟨cb,0,none⟩)])∧Below W.heap.size W w' ∧ w'.cell? ⟨cb,0,none⟩=some (.func (.func 51) #[] #[]):=by
 have D:Hid (∀ W,Calls _ _ _ _ _):=fun W=>zcU 51 W
 go_enter Tryz.func15,Tryz.ntmps15
 go_wp2_with fail
 refine Calls.mono (D.out _) ?_
 rintro e V ⟨rfl,hb,hc⟩
 have HB:Hid _:=hb
 have HC:Hid _:=hc
 clear hb hc D
 go_wp2
 go_ret
 exact⟨_,rfl,HB.out,HC.out⟩
theorem zjy(W:World):Calls Tryz.prog 15 #[.int .i64 3] W fun e w' => ∃ cb,e=.returned (.func (.func 96) #[] #[.pointer (some ⟨cb,0,none⟩)])∧Below W.heap.size W w' ∧ w'.cell? ⟨cb,0,none⟩=some (.func (.func 53) #[] #[]):=by
 have D:Hid (∀ W,Calls _ _ _ _ _):=fun W=>zct 53 W
 go_enter Tryz.func15,Tryz.ntmps15
 go_wp2_with fail
 refine Calls.mono (D.out _) ?_
 rintro e V ⟨rfl,hb,hc⟩
 have HB:Hid _:=hb
 have HC:Hid _:=hc
 clear hb hc D
 go_wp2
 go_ret
 exact⟨_,rfl,HB.out,HC.out⟩
theorem zkb(W:World):Calls Tryz.prog 15 #[.int .i64 7] W fun e w' => ∃ cb,e=.returned (.func (.func 96) #[] #[.pointer (some ⟨cb,0,none⟩)])∧Below W.heap.size W w' ∧ w'.cell? ⟨cb,0,none⟩=some (.func (.func 54) #[] #[]):=by
 have D:Hid (∀ W,Calls _ _ _ _ _):=fun W=>zct 54 W
 go_enter Tryz.func15,Tryz.ntmps15
 go_wp2_with fail
 refine Calls.mono (D.out _) ?_
 rintro e V ⟨rfl,hb,hc⟩
 have HB:Hid _:=hb
 have HC:Hid _:=hc
 clear hb hc D
 go_wp2
 go_ret
 exact⟨_,rfl,HB.out,HC.out⟩
theorem zjH(W:World):Calls Tryz.prog 15 #[.int .i64 8] W fun e w' => ∃ cb,e=.returned (.func (.func 96) #[] #[.pointer (some ⟨cb,0,none⟩)])∧Below W.heap.size W w' ∧ w'.cell? ⟨cb,0,none⟩=some (.func (.func 55) #[] #[]):=by
 have D:Hid (∀ W,Calls _ _ _ _ _):=fun W=>zct 55 W
 go_enter Tryz.func15,Tryz.ntmps15
 go_wp2_with fail
 refine Calls.mono (D.out _) ?_
 rintro e V ⟨rfl,hb,hc⟩
 have HB:Hid _:=hb
 have HC:Hid _:=hc
 clear hb hc D
 go_wp2
 go_ret
 exact⟨_,rfl,HB.out,HC.out⟩
theorem znX(W:World):Calls Tryz.prog 15 #[.int .i64 1] W fun e w' => e=.returned (.func (.func 41) #[] #[])∧w' = W:=by
 go_enter Tryz.func15,Tryz.ntmps15
 go_wp2
 go_ret
 exact⟨rfl,rfl⟩
theorem zoj(W:World):Calls Tryz.prog 15 #[.int .i64 6] W fun e w' => e=.returned (.func (.func 45) #[] #[])∧w' = W:=by
 go_enter Tryz.func15,Tryz.ntmps15
 go_wp2
 go_ret
 exact⟨rfl,rfl⟩
theorem zmz(k:Int)(W:World)(h:k≠1∧k≠2∧k≠4∧k≠6∧k≠5∧k≠11∧k≠14∧k≠15∧k≠3∧k≠7∧k≠8):Calls Tryz.prog 15 #[.int .i64 k] W fun e w' => e=.returned .nilFunc∧w' = W:=by
 obtain⟨h1,h2,h4,h6,h5,h11,h14,h15,h3,h7,h8⟩:=h
 have b1:(k == 1)=false:=by simp[h1]
 have b2:(k == 2)=false:=by simp[h2]
 have b4:(k == 4)=false:=by simp[h4]
 have b6:(k == 6)=false:=by simp[h6]
 have b5:(k == 5)=false:=by simp[h5]
 have b11:(k == 11)=false:=by simp[h11]
 have b14:(k == 14)=false:=by simp[h14]
 have b15:(k == 15)=false:=by simp[h15]
 have b3:(k == 3)=false:=by simp[h3]
 have b7:(k == 7)=false:=by simp[h7]
 have b8:(k == 8)=false:=by simp[h8]
 clear h1 h2 h4 h6 h5 h11 h14 h15 h3 h7 h8
 go_enter Tryz.func15,Tryz.ntmps15
 go_wp2
 go_ret
 exact⟨rfl,rfl⟩
end Go.Proofs.YtojlkdekdbdpoaaGreat

namespace Go.Proofs.YtojlkdekdbdpoaaGreat
set_option maxRecDepth 100000
set_option maxHeartbeats 4000000
open Go.RowKit Go.ChangeShapes Go.WideShapes
set_option linter.unusedVariables false
theorem zpE(A:RA)(R:Rl)(x:Ac)(E:Int)(w:World)(hB:BigR R)(hW:RlAt w A R)(hE:zay R=E)(hE0:E≠0) :
  Calls Tryz.prog 5 #[rlV A R,acV x] w fun e w' => ∃ B:RA,e=.returned (.tuple #[rlV B zaR,.int .i64 0,.int .i64 E])∧Below w.heap.size w w' ∧ RlAt w' B zaR:=by
 have D0:Hid (∀ W,RlAt W A R→Calls _ _ _ _ _):=fun W hW=>zcM A R W hB hW
 rw[hE] at D0
 have hz:(E == 0)=false:=by simp[hE0]
 have I0:Hid _:=zex w A R x hW
 clear hW hE hB hE0
 obtain⟨xk,xa,xb,xc,xn⟩:=x
 obtain⟨a0,a1,a2,a3,c0,c1,c2,c3⟩:=A
 dsimp only[rlV,acV] at *
 go_enter Tryz.func5,Tryz.ntmps5
 go_wp2_with fail
 refine Calls.mono (D0.out _ I0.out.rl) ?_
 rintro e V1 ⟨rfl,hb⟩
 have I1:Hid _:=I0.out.below hb
 clear hb D0 I0
 obtain⟨r0,r1,r2,r3,rf,rl⟩:=zaa I1.out.r
 obtain⟨z0,z1,z2,z3,zf,zl⟩:=zaa I1.out.z
 obtain⟨y0,y1,y2,y3,y4,yl⟩:=zbz I1.out.x
 go_wp2
 obtain⟨X,hX⟩:∃ X,(((V1.setCell ⟨w.heap.size+1+1,0,none⟩ (.slice none 0 0)).setCell ⟨w.heap.size+1+1,1,none⟩ (.slice none 0 0)).setCell ⟨w.heap.size+1+1,2,none⟩ (.slice none 0 0)).setCell ⟨w.heap.size+1+1,3,none⟩ (.slice none 0 0)=X:=⟨_,rfl⟩
 have x0:X.heap[w.heap.size+1+1]?=some (.cells #[.slice none 0 0,.slice none 0 0,.slice none 0 0,.slice none 0 0] 31 (0,0)):=by rw[← hX];exact zbc I1.out.z
 have xb:Below w.heap.size w X:=by rw[← hX];exact(((I1.out.bel.setCell (by simp;omega) _).setCell (by simp;omega) _).setCell (by simp;omega) _).setCell (by simp;omega) _
 rw[hX]
 obtain⟨m0,m1,m2,m3,mf,ml⟩:=zaa x0
 exact bodyPost_ret (v:=.tuple #[.agg #[.slice none 0 0,.slice none 0 0,.slice none 0 0,.slice none 0 0],.int .i64 0,.int .i64 E]) (by simp[results,Tryz.results5,go_sem,m0,m1,m2,m3]) rfl ⟨⟨none,none,none,none,0,0,0,0⟩,rfl,xb,zaI _ _⟩
theorem zpB(A:RA)(R:Rl)(x:Ac)(w:World)(hR:zay R=0)(hW:RlAt w A R)(ha:¬ isH x.a) :
  Calls Tryz.prog 5 #[rlV A R,acV x] w fun e w' => ∃ B:RA,e=.returned (.tuple #[rlV B zaR,.int .i64 0,.int .i64 4])∧Below w.heap.size w w' ∧ RlAt w' B zaR:=by
 have hl:=(zau hR).2.1
 have D0:Hid (∀ W,RlAt W A R→Calls _ _ _ _ _):=fun W hW=>zcM A R W (zdB hR) hW
 rw[hR] at D0
 have D1:Hid (∀ W,Calls _ _ _ _ _):=fun W=>zcf A R x.a W hl
 rw[show decide (isH x.a)=false from decide_eq_false ha] at D1
 have I0:Hid _:=zex w A R x hW
 clear hW ha hR hl
 obtain⟨xk,xa,xb,xc,xn⟩:=x
 obtain⟨a0,a1,a2,a3,c0,c1,c2,c3⟩:=A
 dsimp only[rlV,acV] at *
 go_enter Tryz.func5,Tryz.ntmps5
 go_wp2_with fail
 refine Calls.mono (D0.out _ I0.out.rl) ?_
 rintro e V1 ⟨rfl,hb⟩
 have I1:Hid _:=I0.out.below hb
 clear hb D0 I0
 obtain⟨r0,r1,r2,r3,rf,rl⟩:=zaa I1.out.r
 obtain⟨z0,z1,z2,z3,zf,zl⟩:=zaa I1.out.z
 obtain⟨y0,y1,y2,y3,y4,yl⟩:=zbz I1.out.x
 go_wp2_with fail
 refine Calls.mono (D1.out _) ?_
 rintro e V2 ⟨rfl,hb⟩
 have I2:Hid _:=I1.out.below hb
 clear r0 r1 r2 r3 rf rl z0 z1 z2 z3 zf zl y0 y1 y2 y3 y4 yl
 clear hb D1 I1
 obtain⟨r0,r1,r2,r3,rf,rl⟩:=zaa I2.out.r
 obtain⟨z0,z1,z2,z3,zf,zl⟩:=zaa I2.out.z
 obtain⟨y0,y1,y2,y3,y4,yl⟩:=zbz I2.out.x
 go_wp2
 obtain⟨X,hX⟩:∃ X,(((V2.setCell ⟨w.heap.size+1+1,0,none⟩ (.slice none 0 0)).setCell ⟨w.heap.size+1+1,1,none⟩ (.slice none 0 0)).setCell ⟨w.heap.size+1+1,2,none⟩ (.slice none 0 0)).setCell ⟨w.heap.size+1+1,3,none⟩ (.slice none 0 0)=X:=⟨_,rfl⟩
 have x0:X.heap[w.heap.size+1+1]?=some (.cells #[.slice none 0 0,.slice none 0 0,.slice none 0 0,.slice none 0 0] 31 (0,0)):=by rw[← hX];exact zbc I2.out.z
 have xb:Below w.heap.size w X:=by rw[← hX];exact(((I2.out.bel.setCell (by simp;omega) _).setCell (by simp;omega) _).setCell (by simp;omega) _).setCell (by simp;omega) _
 rw[hX]
 obtain⟨m0,m1,m2,m3,mf,ml⟩:=zaa x0
 exact bodyPost_ret (v:=.tuple #[.agg #[.slice none 0 0,.slice none 0 0,.slice none 0 0,.slice none 0 0],.int .i64 0,.int .i64 4]) (by simp[results,Tryz.results5,go_sem,m0,m1,m2,m3]) rfl ⟨⟨none,none,none,none,0,0,0,0⟩,rfl,xb,zaI _ _⟩
theorem zpv(A:RA)(R:Rl)(x:Ac)(w:World)(hR:zay R=0)(hW:RlAt w A R)(ha:isH x.a)(hk:x.k≠1∧x.k≠2∧x.k≠4∧x.k≠6∧x.k≠5∧x.k≠11∧x.k≠14∧x.k≠15∧x.k≠3∧x.k≠7∧x.k≠8) :
  Calls Tryz.prog 5 #[rlV A R,acV x] w fun e w' => ∃ B:RA,e=.returned (.tuple #[rlV B zaR,.int .i64 0,.int .i64 3])∧Below w.heap.size w w' ∧ RlAt w' B zaR:=by
 have hl:=(zau hR).2.1
 have D0:Hid (∀ W,RlAt W A R→Calls _ _ _ _ _):=fun W hW=>zcM A R W (zdB hR) hW
 rw[hR] at D0
 have D1:Hid (∀ W,Calls _ _ _ _ _):=fun W=>zcf A R x.a W hl
 rw[show decide (isH x.a)=true from decide_eq_true ha] at D1
 have D2:Hid (∀ W,Calls _ _ _ _ _):=fun W=>zmz x.k W hk
 have I0:Hid _:=zex w A R x hW
 clear hW ha hR hl hk
 obtain⟨xk,xa,xb,xc,xn⟩:=x
 obtain⟨a0,a1,a2,a3,c0,c1,c2,c3⟩:=A
 dsimp only[rlV,acV] at *
 go_enter Tryz.func5,Tryz.ntmps5
 go_wp2_with fail
 refine Calls.mono (D0.out _ I0.out.rl) ?_
 rintro e V1 ⟨rfl,hb⟩
 have I1:Hid _:=I0.out.below hb
 clear hb D0 I0
 obtain⟨r0,r1,r2,r3,rf,rl⟩:=zaa I1.out.r
 obtain⟨z0,z1,z2,z3,zf,zl⟩:=zaa I1.out.z
 obtain⟨y0,y1,y2,y3,y4,yl⟩:=zbz I1.out.x
 go_wp2_with fail
 refine Calls.mono (D1.out _) ?_
 rintro e V2 ⟨rfl,hb⟩
 have I2:Hid _:=I1.out.below hb
 clear r0 r1 r2 r3 rf rl z0 z1 z2 z3 zf zl y0 y1 y2 y3 y4 yl
 clear hb D1 I1
 obtain⟨r0,r1,r2,r3,rf,rl⟩:=zaa I2.out.r
 obtain⟨z0,z1,z2,z3,zf,zl⟩:=zaa I2.out.z
 obtain⟨y0,y1,y2,y3,y4,yl⟩:=zbz I2.out.x
 have hnf:∀ w:World,(binOp BinOp.eql 50 Value.nilFunc Value.nilFunc).run Tryz.prog w=.ok (.bool true) w:=fun _=>by kernel_rfl
 go_wp2_with fail
 refine Calls.mono (D2.out _) ?_
 rintro e w6 ⟨rfl,hw6⟩
 have hw7:=hw6.symm
 clear hw6
 subst hw7
 go_wp2
 obtain⟨X,hX⟩:∃ X,(((V2.setCell ⟨w.heap.size+1+1,0,none⟩ (.slice none 0 0)).setCell ⟨w.heap.size+1+1,1,none⟩ (.slice none 0 0)).setCell ⟨w.heap.size+1+1,2,none⟩ (.slice none 0 0)).setCell ⟨w.heap.size+1+1,3,none⟩ (.slice none 0 0)=X:=⟨_,rfl⟩
 have x0:X.heap[w.heap.size+1+1]?=some (.cells #[.slice none 0 0,.slice none 0 0,.slice none 0 0,.slice none 0 0] 31 (0,0)):=by rw[← hX];exact zbc I2.out.z
 have xb:Below w.heap.size w X:=by rw[← hX];exact(((I2.out.bel.setCell (by simp;omega) _).setCell (by simp;omega) _).setCell (by simp;omega) _).setCell (by simp;omega) _
 rw[hX]
 obtain⟨m0,m1,m2,m3,mf,ml⟩:=zaa x0
 exact bodyPost_ret (v:=.tuple #[.agg #[.slice none 0 0,.slice none 0 0,.slice none 0 0,.slice none 0 0],.int .i64 0,.int .i64 3]) (by simp[results,Tryz.results5,go_sem,m0,m1,m2,m3]) rfl ⟨⟨none,none,none,none,0,0,0,0⟩,rfl,xb,zaI _ _⟩
theorem zaQ{R:Rl}{x:Ac}{q:Rs}{k:Int}{G F:Nat}(hk:x.k=k)(eg:∀ args w,(callFunc G args).run Tryz.prog w=.ok (.enter G args) w)
  (h:∀ W,Calls Tryz.prog 15 #[.int .i64 k] W fun e w' => ∃ cb,e=.returned (.func (.func G) #[] #[.pointer (some ⟨cb,0,none⟩)])∧Below W.heap.size W w' ∧ w'.cell? ⟨cb,0,none⟩=some (.func (.func F) #[] #[]))
  (hd:∀ cb (w:World),w.cell? ⟨cb,0,none⟩=some (.func (.func F) #[] #[])→Deed G #[.pointer (some ⟨cb,0,none⟩)] w R x q):zgB R x q:=fun W=>by
 rw[hk]
 refine(h W).mono ?_
 rintro e w' ⟨cb,rfl,hb,hc⟩
 exact⟨G,_,rfl,hb,eg,fun w0 h0=>hd cb w0 ((h0.cell (World.block_lt_of_cell? _ _ hc)).trans hc)⟩
theorem zfa{R:Rl}{x:Ac}{q:Rs}{k:Int}{G:Nat}(hk:x.k=k)(eg:∀ args w,(callFunc G args).run Tryz.prog w=.ok (.enter G args) w)
  (h:∀ W,Calls Tryz.prog 15 #[.int .i64 k] W fun e w' => e=.returned (.func (.func G) #[] #[])∧w' = W) (hd:∀ w:World,Deed G #[] w R x q):zgB R x q:=fun W=>by
 rw[hk]
 refine(h W).mono ?_
 rintro e w' ⟨rfl,rfl⟩
 exact⟨G,_,rfl,Below.refl _ _,eg,fun w0 _=>hd w0⟩
theorem zpr{R:Rl}{a n:Int}(h:makeE R.s n=0):aMake R a n=⟨0,⟨rS (makeE R.s n) (mkS R.s n),R.hs.set a.toNat (rH (makeE R.s n) (mkH R.s)),R.i,R.t⟩,0⟩:=by
 unfold aMake
 rw[ans_0 h,h]
 rfl
theorem zpb{R:Rl}{b:Int}{h:Int × Int}{c:Bool}(e:hosE R.s h.1 h.2=0):aHost R b h c=⟨0,⟨rS (hosE R.s h.1 h.2) (hosS R.s h.1 c),R.hs.set b.toNat (rH (hosE R.s h.1 h.2) (mkH R.s)),R.i,R.t⟩,0⟩:=by
 unfold aHost
 rw[ans_0 e,e]
 rfl
theorem deeds(R:Rl)(x:Ac)(hR:zay R=0)(ha:isH x.a)(hk:¬ (x.k≠1∧x.k≠2∧x.k≠4∧x.k≠6∧x.k≠5∧x.k≠11∧x.k≠14∧x.k≠15∧x.k≠3∧x.k≠7∧x.k≠8)):zgB R x (doG R x):=by
 obtain⟨wf,hl,hg,_⟩:=zau hR
 have hg24:=(zdG hg).1
 unfold doG
 rw[if_pos ha]
 by_cases k1:x.k=1
 ·rw[if_pos k1]
  exact zfa k1 (enters_of Tryz.func41 (by kernel_rfl) rfl) znX (fun w=>zhP w R x hl ha _ _ _ (zpn R.s x.n wf) _ (ans_e _ _ _) zpr)
 rw[if_neg k1]
 by_cases k2:x.k=2
 ·rw[if_pos k2]
  exact zaQ k2 (enters_of Tryz.func86 (by kernel_rfl) rfl) zoa (fun cb w hc=>zgy _ (enters_of Tryz.func43 (by kernel_rfl) rfl) cb w hc R x hl ha _ _ (zoc R.s (hd R x.a) wf))
 rw[if_neg k2]
 by_cases k4:x.k=4
 ·rw[if_pos k4]
  exact zaQ k4 (enters_of Tryz.func86 (by kernel_rfl) rfl) zoq (fun cb w hc=>zgy _ (enters_of Tryz.func44 (by kernel_rfl) rfl) cb w hc R x hl ha _ _ (zkv R.s (hd R x.a) wf))
 rw[if_neg k4]
 by_cases k6:x.k=6
 ·rw[if_pos k6]
  exact zfa k6 (enters_of Tryz.func45 (by kernel_rfl) rfl) zoj (fun w=>zik w R x wf hl ha)
 rw[if_neg k6]
 by_cases k5:x.k=5
 ·rw[if_pos k5]
  exact zaQ k5 (enters_of Tryz.func92 (by kernel_rfl) rfl) znY (fun cb w hc=>zjx _ (enters_of Tryz.func47 (by kernel_rfl) rfl) cb w hc R x wf hl ha x.n (fun a c W _=>zgQ a _ c x.n W))
 rw[if_neg k5]
 by_cases k11:x.k=11
 ·rw[if_pos k11]
  unfold aTake
  by_cases hn:0≤x.n∧x.n<R.i.length
  ·rw[if_pos hn]
   obtain⟨j,hj⟩:∃ j:Nat,x.n=j:=⟨x.n.toNat,by omega⟩
   refine zaQ k11 (enters_of Tryz.func92 (by kernel_rfl) rfl) zhu (fun cb w hc=>zjx _ (enters_of Tryz.func48 (by kernel_rfl) rfl) cb w hc R x wf hl ha _ (fun a c W hW=>?_))
   rw[hj,Int.toNat_natCast]
   exact zfV a c R.i j W hW (by omega) hg24
  ·rw[if_neg hn]
   exact zaQ k11 (enters_of Tryz.func92 (by kernel_rfl) rfl) zhu (fun cb w hc=>zph _ (enters_of Tryz.func48 (by kernel_rfl) rfl) cb w hc R x wf hl ha 4 0 (by decide) (fun a c W _=>zgS a _ c x.n W hn hg24))
 rw[if_neg k11]
 by_cases k14:x.k=14
 ·rw[if_pos k14]
  exact zaQ k14 (enters_of Tryz.func93 (by kernel_rfl) rfl) zng (fun cb w hc=>zfK _ (enters_of Tryz.func50 (by kernel_rfl) rfl) cb w hc R x hl ha _ _ (fun a c W hW=>zfZ R.s (hd R x.a) x wf a c W hW))
 rw[if_neg k14]
 by_cases k15:x.k=15
 ·rw[if_pos k15]
  exact zaQ k15 (enters_of Tryz.func93 (by kernel_rfl) rfl) zmD (fun cb w hc=>zfK _ (enters_of Tryz.func51 (by kernel_rfl) rfl) cb w hc R x hl ha _ _ (fun a c W hW=>zgW R.s (hd R x.a) x wf a c W hW))
 rw[if_neg k15]
 have kk:x.k=3∨x.k=7∨x.k=8:=by omega
 rw[if_pos kk]
 have wb:(∀ args w,(callFunc 96 args).run Tryz.prog w=.ok (.enter 96 args) w):=enters_of Tryz.func96 (by kernel_rfl) rfl
 have eh:=enters_of Tryz.func54 (by kernel_rfl) rfl
 have eu:=enters_of Tryz.func55 (by kernel_rfl) rfl
 have ei:=enters_of Tryz.func53 (by kernel_rfl) rfl
 by_cases hb:isH x.b
 ·rw[if_pos hb]
  by_cases k7:x.k=7
  ·rw[if_pos k7]
   exact zaQ k7 wb zkb (fun cb w hc=>zfJ _ eh cb w hc R x hl hb _ (znM w R x hl ha hb _ _ _ (zpp R.s (hd R x.a) (decide (x.n=1)) wf) _ (ans_e _ _ _) zpb))
  rw[if_neg k7]
  by_cases k8:x.k=8
  ·rw[if_pos k8]
   exact zaQ k8 wb zjH (fun cb w hc=>zfJ _ eu cb w hc R x hl hb _ (zpL w R x wf hl ha hb))
  rw[if_neg k8]
  have k3:x.k=3:=by omega
  refine zaQ k3 wb zjy (fun cb w hc=>zfJ _ ei cb w hc R x hl hb _ ?_)
  by_cases hc0:x.c<0
  ·rw[if_pos hc0]
   exact zos w R x wf hl ha hb hc0
  rw[if_neg hc0]
  by_cases hc1:isH x.c
  ·rw[if_pos hc1]
   exact zoe w R x wf hl ha hb hc1
  ·rw[if_neg hc1]
   exact zmH w R x wf hl ha hb hc0 hc1
 ·rw[if_neg hb]
  rcases kk with k3|k7|k8
  ·exact zaQ k3 wb zjy (fun cb w hc=>zhg _ ei cb w hc R x hl hb)
  ·exact zaQ k7 wb zkb (fun cb w hc=>zhg _ eh cb w hc R x hl hb)
  ·exact zaQ k8 wb zjH (fun cb w hc=>zhg _ eu cb w hc R x hl hb)
theorem zpM:DoAns:=fun A R x w hB hW=>by
 by_cases hR:zay R=0
 ·have e:doF R x=doG R x:=if_pos hR
  rw[e]
  by_cases ha:isH x.a
  ·by_cases hk:x.k≠1∧x.k≠2∧x.k≠4∧x.k≠6∧x.k≠5∧x.k≠11∧x.k≠14∧x.k≠15∧x.k≠3∧x.k≠7∧x.k≠8
   ·have e2:doG R x=bad 3:=by
     obtain⟨h1,h2,h4,h6,h5,h11,h14,h15,h3,h7,h8⟩:=hk
     unfold doG
     rw[if_pos ha,if_neg h1,if_neg h2,if_neg h4,if_neg h6,if_neg h5,if_neg h11,if_neg h14,if_neg h15,if_neg (by omega)]
    rw[e2]
    exact zpv A R x w hR hW ha hk
   ·have h:=zpg A R x _ w hR hW ha (deeds R x hR ha hk)
    have s:=zoT R x
    by_cases h0:(doG R x).e=0
    ·rw[if_pos h0,if_pos h0] at h
     exact h
    ·rw[if_neg h0,if_neg h0] at h
     rw[(s h0).1,(s h0).2]
     exact h
  ·have e2:doG R x=bad 4:=by unfold doG;rw[if_neg ha]
   rw[e2]
   exact zpB A R x w hR hW ha
 ·have e:doF R x=bad (zay R):=if_neg hR
  rw[e]
  exact zpE A R x _ w hB hW rfl hR
end Go.Proofs.YtojlkdekdbdpoaaGreat
