/-
  x
-/
import Derived.Test.YtcbcpomacdngmaaGreatQ45
namespace Go.Proofs.YtcbcpomacdngmaaGreat
set_option maxRecDepth 100000
set_option maxHeartbeats 4000000
set_option linter.unusedVariables false
open Go.RowKit Go.ChangeShapes Go.WideShapes
def zke(me:Nat)(W:Wl)(x:Ac)(F:World)(e:Ending)(V:World):Prop:=∃ (K:Nat) (D:Array Value) (C:World->Prop),e=.returned (.func (.func K) #[] D)/\Below F.heap.size F V/\C V/\(∀ V E,C V->Below V.heap.size V E->C E)/\(∀ args w,(callFunc K args).run Tryz.prog w=.ok (.enter K args) w)/\zhv K D C me W x (zdQ W me x)
def zmv(I J:Nat)(D:Array Value)(E:Int)(F:World)(e:Ending)(V:World):Prop:=∃ c1 c2 c3,e=.returned (.func (.func 136) #[] #[.pointer (some ⟨c1,0,none⟩),.pointer (some ⟨c2,0,none⟩),.pointer (some ⟨c3,0,none⟩)])/\Below F.heap.size F V/\V.cell? ⟨c1,0,none⟩=some (.func (.func I) #[] #[])/\V.cell? ⟨c2,0,none⟩=some (.int .i64 E)/\V.cell? ⟨c3,0,none⟩=some (.func (.func J) #[] D)
theorem zeq(E:Int)(Es:List Int)(W V:Wl)(o:Int):zfh (E :: Es) W V o=if E=0 then zfh Es W V o else ⟨E,W,0⟩:=by
 unfold zfh;by_cases h:E=0
 ·subst h;rfl
 ·have e:zao (E :: Es)=E:=ya h;rw[e,ya h,ya h]
theorem zke.may{I J:Nat}{E:Array Value}{D t:Int}{me:Nat}{W:Wl}{x:Ac}{Z V:World}{e:Ending}{C:World->Prop}{q:Ws}(hv:zmv I J E D Z e V)(c:C V)(O:∀ args w,(callFunc I args).run Tryz.prog w=.ok (.enter I args) w)(T:∀ args w,(callFunc J args).run Tryz.prog w=.ok (.enter J args) w)(hw:(Lit.int .i64 D).wf=true)(h1:∀ V,Calls Tryz.prog I #[acV x] V fun e w' => e=.returned (.int .i64 t)/\Below V.heap.size V w')(hC:∀ V M,C V->Below V.heap.size V M->C M)(U:zdK W.fs me t D=0->zhv J E C me W x q)(hq:zdQ W me x=if zdK W.fs me t D=0 then q else ⟨zdK W.fs me t D,W,0⟩):zke me W x Z e V:=by
 obtain⟨c1,c2,c3,he,F,v1,v2,v3⟩:=hv;exact⟨_,_,_,he,F,⟨v1,v2,v3,c⟩,fun V M ⟨h1,U,h3,h4⟩ F=>⟨zab h1 F,zab U F,zab h3 F,hC V M h4 F⟩,(enters_of Tryz.func136 (by kernel_rfl) rfl),hq ▸ zqV I J c1 c2 c3 E D t O T me W x hw h1 C hC q U⟩
theorem zcE(F I:Nat)(D:Array Value)(E:Int)(W:World):Calls Tryz.prog 110 #[.int .i64 E,.func (.func F) #[] #[],.func (.func I) #[] D] W (zmv F I D E W):=by
 go_enter Tryz.func110,Tryz.ntmps110
 go_wp2
 go_ret;exact⟨_,_,_,rfl,((zaa _ _).trans ((zaa _ _).mono (by simp))).trans ((zaa _ _).mono (by simp;omega)),by go_simp,by go_simp,by go_simp⟩
theorem zcd(F:Nat)(W:World):Calls Tryz.prog 119 #[.func (.func F) #[] #[]] W fun e w' => e=.returned (.func (.func 143) #[] #[.pointer (some ⟨W.heap.size,0,none⟩)])/\Below W.heap.size W w' /\ w'.cell? ⟨W.heap.size,0,none⟩=some (.func (.func F) #[] #[]):=by
 go_enter Tryz.func119,Tryz.ntmps119
 go_wp2
 go_ret;exact⟨rfl,zaa _ _,zac _ _ _ 0 rfl⟩
theorem ztE(W:World):Calls Tryz.prog 79 #[.int .i64 9] W (zmv 111 112 #[] 2 W):=by
 have D:Hid (∀ W,Calls _ _ _ _ _):=fun W=>zcE 111 112 #[] 2 W
 go_enter Tryz.func79,Tryz.ntmps79
 go_wp2_with fail
 refine ye (D.out _) ?_;rintro e V ⟨c1,c2,c3,rfl,E,v1,v2,F⟩;have I:Hid _:=E;have J:Hid _:=And.intro v1 (And.intro v2 F);clear E v1 v2 F D
 go_wp2
 go_ret;exact⟨c1,c2,c3,rfl,I.out,J.out⟩
theorem zqY(W:World):Calls Tryz.prog 79 #[.int .i64 10] W (zmv 113 114 #[] 3 W):=by
 have D:Hid (∀ W,Calls _ _ _ _ _):=fun W=>zcE 113 114 #[] 3 W
 go_enter Tryz.func79,Tryz.ntmps79
 go_wp2_with fail
 refine ye (D.out _) ?_;rintro e V ⟨c1,c2,c3,rfl,E,v1,v2,F⟩;have I:Hid _:=E;have J:Hid _:=And.intro v1 (And.intro v2 F);clear E v1 v2 F D
 go_wp2
 go_ret;exact⟨c1,c2,c3,rfl,I.out,J.out⟩
theorem zqZ(W:World):Calls Tryz.prog 79 #[.int .i64 12] W (zmv 113 115 #[] 1 W):=by
 have D:Hid (∀ W,Calls _ _ _ _ _):=fun W=>zcE 113 115 #[] 1 W
 go_enter Tryz.func79,Tryz.ntmps79
 go_wp2_with fail
 refine ye (D.out _) ?_;rintro e V ⟨c1,c2,c3,rfl,E,v1,v2,F⟩;have I:Hid _:=E;have J:Hid _:=And.intro v1 (And.intro v2 F);clear E v1 v2 F D
 go_wp2
 go_ret;exact⟨c1,c2,c3,rfl,I.out,J.out⟩
theorem zra(W:World):Calls Tryz.prog 79 #[.int .i64 13] W (zmv 111 116 #[] 4 W):=by
 have D:Hid (∀ W,Calls _ _ _ _ _):=fun W=>zcE 111 116 #[] 4 W
 go_enter Tryz.func79,Tryz.ntmps79
 go_wp2_with fail
 refine ye (D.out _) ?_;rintro e V ⟨c1,c2,c3,rfl,E,v1,v2,F⟩;have I:Hid _:=E;have J:Hid _:=And.intro v1 (And.intro v2 F);clear E v1 v2 F D
 go_wp2
 go_ret;exact⟨c1,c2,c3,rfl,I.out,J.out⟩
theorem zrg(W:World):Calls Tryz.prog 79 #[.int .i64 21] W (zmv 111 117 #[] 5 W):=by
 have D:Hid (∀ W,Calls _ _ _ _ _):=fun W=>zcE 111 117 #[] 5 W
 go_enter Tryz.func79,Tryz.ntmps79
 go_wp2_with fail
 refine ye (D.out _) ?_;rintro e V ⟨c1,c2,c3,rfl,E,v1,v2,F⟩;have I:Hid _:=E;have J:Hid _:=And.intro v1 (And.intro v2 F);clear E v1 v2 F D
 go_wp2
 go_ret;exact⟨c1,c2,c3,rfl,I.out,J.out⟩
theorem zrd(W:World):Calls Tryz.prog 79 #[.int .i64 18] W fun e w' => ∃ E,e=.returned (.func (.func 143) #[] #[.pointer (some ⟨E,0,none⟩)])/\Below W.heap.size W w' /\ w'.cell? ⟨E,0,none⟩=some (.func (.func 121) #[] #[]):=by
 have D:Hid (∀ W,Calls _ _ _ _ _):=fun W=>zcd 121 W
 go_enter Tryz.func79,Tryz.ntmps79
 go_wp2_with fail
 refine ye (D.out _) ?_;rintro e V ⟨rfl,F,hc⟩;have I:Hid _:=F;have J:Hid _:=hc;clear F hc D
 go_wp2
 go_ret;exact⟨_,rfl,I.out,J.out⟩
theorem zre(W:World):Calls Tryz.prog 79 #[.int .i64 19] W fun e w' => ∃ E,e=.returned (.func (.func 143) #[] #[.pointer (some ⟨E,0,none⟩)])/\Below W.heap.size W w' /\ w'.cell? ⟨E,0,none⟩=some (.func (.func 122) #[] #[]):=by
 have D:Hid (∀ W,Calls _ _ _ _ _):=fun W=>zcd 122 W
 go_enter Tryz.func79,Tryz.ntmps79
 go_wp2_with fail
 refine ye (D.out _) ?_;rintro e V ⟨rfl,F,hc⟩;have I:Hid _:=F;have J:Hid _:=hc;clear F hc D
 go_wp2
 go_ret;exact⟨_,rfl,I.out,J.out⟩
theorem zrf(W:World):Calls Tryz.prog 79 #[.int .i64 20] W fun e w' => ∃ E,e=.returned (.func (.func 143) #[] #[.pointer (some ⟨E,0,none⟩)])/\Below W.heap.size W w' /\ w'.cell? ⟨E,0,none⟩=some (.func (.func 123) #[] #[]):=by
 have D:Hid (∀ W,Calls _ _ _ _ _):=fun W=>zcd 123 W
 go_enter Tryz.func79,Tryz.ntmps79
 go_wp2_with fail
 refine ye (D.out _) ?_;rintro e V ⟨rfl,F,hc⟩;have I:Hid _:=F;have J:Hid _:=hc;clear F hc D
 go_wp2
 go_ret;exact⟨_,rfl,I.out,J.out⟩
theorem zrc(W:World):Calls Tryz.prog 79 #[.int .i64 17] W fun e w' => ∃ O,zmv 113 143 #[.pointer (some ⟨O,0,none⟩)] 3 W e w' /\ w'.cell? ⟨O,0,none⟩=some (.func (.func 120) #[] #[]):=by
 have D:Hid (∀ W,Calls _ _ _ _ _):=fun W=>zcd 120 W;have J:Hid (∀ E W,Calls _ _ _ _ _):=fun E W=>zcE 113 143 E 3 W
 go_enter Tryz.func79,Tryz.ntmps79
 go_wp2_with fail
 refine ye (D.out _) ?_;rintro e V ⟨rfl,I,hc⟩;have M:Hid _:=I;have U:Hid _:=hc;clear I hc D
 go_wp2_with fail
 refine ye (J.out _ _) ?_;rintro e V2 ⟨c1,c2,c3,rfl,I,v1,v2,T⟩;have F:Hid _:=I;have Z:Hid _:=And.intro v1 (And.intro v2 T);clear I v1 v2 T J
 go_wp2
 go_ret;exact⟨_,⟨c1,c2,c3,rfl,M.out.trans (F.out.mono M.out.size),Z.out⟩,zab U.out F.out⟩
theorem zrb(W:World):Calls Tryz.prog 79 #[.int .i64 16] W fun e w' => e=.returned (.func (.func 118) #[] #[])/\Below W.heap.size W w' := by
 go_enter Tryz.func79,Tryz.ntmps79
 go_wp2
 go_ret;exact⟨rfl,yk _ _⟩
theorem zrh(k:Int)(W:World)(U:k≠9/\k≠10/\k≠12/\k≠13/\k≠21/\k≠16/\k≠17/\k≠18/\k≠19/\k≠20):Calls Tryz.prog 79 #[.int .i64 k] W fun e w' => e=.returned (.func (.func 124) #[] #[])/\Below W.heap.size W w' := by
 obtain⟨h1,E,F,I,h5,J,M,O,T,D⟩:=U;have z1:(k == 9)=false:=by simp[h1]
 have z2:(k == 10)=false:=by simp[E]
 have z3:(k == 12)=false:=by simp[F]
 have z4:(k == 13)=false:=by simp[I]
 have z5:(k == 21)=false:=by simp[h5]
 have z6:(k == 16)=false:=by simp[J]
 have z7:(k == 17)=false:=by simp[M]
 have z8:(k == 18)=false:=by simp[O]
 have z9:(k == 19)=false:=by simp[T]
 have Z:(k == 20)=false:=by simp[D]
 clear h1 E F I h5 J M O T D
 go_enter Tryz.func79,Tryz.ntmps79
 go_wp2
 go_ret;exact⟨rfl,yk _ _⟩
theorem zwe:(Tryz.prog.info? 53).map (fun i=>(i.zero,i.size,i.bytes))=some (some (.agg #[.int .i64 0,.slice none 0 0]),2,32):=by kernel_rfl
theorem zBa{w:World}{b:Nat}{u0 u1:Value}(c0:w.cell? ⟨b,0,none⟩=some u0)(c1:w.cell? ⟨b,1,none⟩=some u1):∀ j u,([u0,u1]:List Value)[j]?=some u->w.cell? ((⟨b,0,none⟩:Addr).add j)=some u:=fun j u D=>by
 rw[Addr.add_lit,yz]
 match j,D with
 | 0,D=>cases D;exact c0
 | 1,D=>cases D;exact c1
theorem zuW(me:Nat)(W:Wl)(x:Ac)(hm:zdK W.fs me x.a 3=0):zhv 114 #[] (fun _=>True) me W x (zfh [zbv (rlm W me) x.n,if (que W x.a.toNat).length=16 then 1 else 0] W { W with qs:=W.qs.set x.a.toNat (que W x.a.toNat++[⟨me,zbf (rlm W me) x.n.toNat⟩]) } 0):=fun w0 d s V I _=>by
 have QI:=zeS [zbv (rlm W me) x.n,if (que W x.a.toNat).length=16 then 1 else 0] W { W with qs:=W.qs.set x.a.toNat (que W x.a.toNat++[⟨me,zbf (rlm W me) x.n.toNat⟩]) } 0;rw[zxs] at QI;obtain⟨q,e1⟩:∃ q,zfh [zbv (rlm W me) x.n,if (que W x.a.toNat).length=16 then 1 else 0] W { W with qs:=W.qs.set x.a.toNat (que W x.a.toNat++[⟨me,zbf (rlm W me) x.n.toNat⟩]) } 0=q:=⟨_,rfl⟩;rw[e1] at QI |-;clear e1;have HR:Hid (zbv (rlm W me) x.n=0->(que W x.a.toNat).length≠16->zan { W with qs:=W.qs.set x.a.toNat (que W x.a.toNat++[⟨me,zbf (rlm W me) x.n.toNat⟩]) }):=fun h1 h2=>zld I.rt I.sf (by rw[zxt,hm,h1,yb rfl,yb rfl,ya h2]);obtain⟨ka,d9,b8,_⟩:=zdt (zca hm).2.2.1;obtain⟨xk,xa,xb,xc,xn⟩:=x;have II:Hid (SW w0 d me W s V):=I;have e2:=I.lt;have e6:Hid _:=e2;obtain⟨l0,l1,l2,l3,l4,lf,ll⟩:=zak I.box;have j1:d<V.heap.size:=ll;have n8:W.fs.length<=8:=I.rt.fs.few;have h4:me<W.fs.length:=I.sf;clear e2;dsimp only at d9 QI HR |-;subst d9;rw[yi] at QI HR;clear hm;obtain⟨k0,k1,k2,k3,kf,kl⟩:=I.rcells I.sf;have cq:V.cell? ⟨s.g3,ka,none⟩=some (.slice (s.Q ka).1 (que W ka).length (s.Q ka).2):=I.r3.cell b8;have i6:(que W ka).length<=16:=(zby.1 (I.rt.qs ka b8)).1;have D:Hid (∀ V2,Below V.heap.size V V2->Calls _ _ _ _ _):=fun V2 hV=>znl (s.R me) (rlm W me) xn V2 (I.rt.rs me I.sf) ((I.rat I.sf).below hV);have j2:s.g3<V.heap.size:=I.r3.lt
 have nq:∀ j,(j=d\/j=s.g3\/V.heap.size<=j)->s.q ka≠some j:=fun j hj e=>by
  have h1:=I.ap.qq ka j e;have h2:=I.dp.lt (n:=0) I.ap j (.inr ⟨ka,e⟩);rcases hj with h|h|h
  ·exact h1.2.1 h
  ·exact h1.2.2.2.2.1 h
  ·omega
 dsimp only[rlV] at D;show Calls Tryz.prog _ #[.pointer (some ⟨d,0,none⟩),.int .i64 (me:Int),.agg #[.int .i64 xk,.int .i64 (ka:Int),.int .i64 xb,.int .i64 xc,.int .i64 xn]] V _;obtain⟨n,hn⟩:∃ n,W.fs.length=n:=⟨_,rfl⟩;have HN:Hid (W.fs.length=n):=hn;obtain⟨nt,c6⟩:∃ n,W.pt.length=n:=⟨_,rfl⟩;have i9:Hid (W.pt.length=nt):=c6;rw[c6] at l4;have g9:ka<n:=by omega
 rw[hn] at l0 l1 l2 l3 n8 h4;have MG:Hid (zbv (rlm W me) xn=0->mkG (rlm W me) xn=zbf (rlm W me) xn.toNat):=fun h=>yb h;generalize (rlm W me).s.length=r0 at *;generalize (rlm W me).hs.length=r1 at *;generalize (rlm W me).i.length=r2 at *;generalize (rlm W me).t.length=r3 at *;clear hn c6 I b8;have i8:(me:Int)<(n:Int):=by omega
 have i7:(ka:Int)<(n:Int):=by omega
 obtain⟨E1,b6⟩:∃ E,zbv (rlm W me) xn=E:=⟨_,rfl⟩;have d5:Hid (zbv (rlm W me) xn=E1):=b6;rw[b6] at MG QI HR;clear b6;obtain⟨W', b7⟩:∃ W' : Wl,({ W with qs:=W.qs.set ka (que W ka++[⟨me,zbf (rlm W me) xn.toNat⟩]) }:Wl)=W' :=⟨_,rfl⟩;have b4:Hid (_=W'):=b7;rw[b7] at QI HR;clear b7;have HI:Hid _:=QI;clear QI
 go_enter Tryz.func114,Tryz.ntmps114
 go_upto_region 1 with fail
 obtain⟨F,a5⟩:∃ F,V.alloc (.cells #[.int .i64 xk,.int .i64 (ka:Int),.int .i64 xb,.int .i64 xc,.int .i64 xn] 36)=F:=⟨_,rfl⟩;have BV:Hid (Below V.heap.size V F):=by rw[<- a5];exact zaa _ _
 have y0:F.cell? ⟨V.heap.size,0,none⟩=some (.int .i64 xk):=by rw[<- a5];exact zac _ _ _ 0 rfl
 have y1:F.cell? ⟨V.heap.size,1,none⟩=some (.int .i64 (ka:Int)):=by rw[<- a5];exact zac _ _ _ 1 rfl
 have y2:F.cell? ⟨V.heap.size,2,none⟩=some (.int .i64 xb):=by rw[<- a5];exact zac _ _ _ 2 rfl
 have y3:F.cell? ⟨V.heap.size,3,none⟩=some (.int .i64 xc):=by rw[<- a5];exact zac _ _ _ 3 rfl
 have y4:F.cell? ⟨V.heap.size,4,none⟩=some (.int .i64 xn):=by rw[<- a5];exact zac _ _ _ 4 rfl
 have sV:V.heap.size<F.heap.size:=yd _ _ y0;rw[a5];clear a5;replace l0:=zab l0 BV.out;replace l1:=zab l1 BV.out;replace l2:=zab l2 BV.out;replace l3:=zab l3 BV.out;replace l4:=zab l4 BV.out;replace k0:=zab k0 BV.out;replace k1:=zab k1 BV.out;replace k2:=zab k2 BV.out;replace k3:=zab k3 BV.out;have n0:¬ F.heap.size=d:=by omega
 have o0:¬ d=F.heap.size:=by omega
 have n1:¬ F.heap.size=s.g1:=by omega
 have o1:¬ s.g1=F.heap.size:=by omega
 have n2:¬ F.heap.size=V.heap.size:=by omega
 have o2:¬ V.heap.size=F.heap.size:=by omega
 have j4:d<F.heap.size:=by omega
 have j5:s.g1<F.heap.size:=by omega
 obtain⟨GG,d6⟩:∃ G,mkG (rlm W me) xn=G:=⟨_,rfl⟩;have a7:Hid (mkG (rlm W me) xn=GG):=d6;clear d6;have d4:Hid _:=cq;have e5:Hid _:=nq;clear cq nq
 go_cut [8,9] (fun s8 s9 wx=>∃ (b:Nat) (ga:Option Addr) (gc:Nat),s8=.pointer (some ⟨b,0,none⟩)/\s9=.int .i64 E1/\Hid (Below F.heap.size F wx)/\Hid (wx.heap[b]?=some (.cells #[.slice ga GG.length gc] 47 (0,0)))/\F.heap.size<=b/\Hid (St (fun b=>b<F.heap.size) (fun V=>zaG V ga GG) wx))
 case first =>
  go_region_held3 (fun T=>T.cell? ⟨d,1,none⟩=some (.slice (some ⟨s.g1,0,none⟩) n n)/\T.cell? ⟨s.g1,me*4,none⟩=some (.slice (s.R me).a0 r0 (s.R me).c0)/\T.cell? ⟨s.g1,me*4+1,none⟩=some (.slice (s.R me).a1 r1 (s.R me).c1)/\T.cell? ⟨s.g1,me*4+2,none⟩=some (.slice (s.R me).a2 r2 (s.R me).c2)/\T.cell? ⟨s.g1,me*4+3,none⟩=some (.slice (s.R me).a3 r3 (s.R me).c3)/\T.cell? ⟨V.heap.size,4,none⟩=some (.int .i64 xn)) (go_keep) (first|(go_at_call 139;refine ye (D.out F.drew BV.out.drew) ?_;rintro e w3 ⟨ga,gc,rfl,a8,a6⟩;rw[a7.out,d5.out];rw[a7.out] at a6;have Z:Hid (Below F.heap.size F w3):=(yk _ _).drew.trans a8;have C3:Hid (St (fun b=>b<F.heap.size) (fun V=>zaG V ga GG) w3):=a6;have g4:=zab l1 Z.out;have e7:=zab k0 Z.out;have e8:=zab k1 Z.out;have e9:=zab k2 Z.out;have g0:=zab k3 Z.out;have g5:=zab y4 Z.out;clear a8 a6)|(go_at_call 139;refine ye (D.out (F.alloc (.cells #[.slice none 0 0] 47)).drew (BV.out.trans ((zaa F _).mono BV.out.size)).drew) ?_;rintro e w3 ⟨ga,gc,rfl,a8,a6⟩;rw[a7.out,d5.out];rw[a7.out] at a6;have Z:Hid (Below F.heap.size F w3):=(zaa F _).drew.trans (a8.mono (by simp));have C3:Hid (St (fun b=>b<F.heap.size+1) (fun V=>zaG V ga GG) w3):=(by have h:=a6;simp only[yr,World.size_drew] at h;exact h);have g4:=zab l1 Z.out;have e7:=zab k0 Z.out;have e8:=zab k1 Z.out;have e9:=zab k2 Z.out;have g0:=zab k3 Z.out;have g5:=zab y4 Z.out;have X3:Hid (w3.heap[F.heap.size]?=some (.cells #[.slice none 0 0] 47 (0,0))):=zaD (W:=(F.alloc (.cells #[.slice none 0 0] 47)).drew) (heap_alloc_new F _) a8;have x0:=zaJ X3.out;have xf:=zaX (o:=0) X3.out;have xl:F.heap.size<w3.heap.size:=zaw X3.out;clear a8 a6))
  ·go_wp2_with fail
   go_meet
   case rel=>exact⟨_,ga,gc,rfl,rfl,Z.out.trans ((zaa _ _).mono Z.out.size),heap_alloc_new _ _,Z.out.size,C3.out.off (zaq.of_below (zaa _ _))⟩
  ·go_wp2_with fail
   go_meet
   case rel=>exact⟨_,ga,gc,rfl,rfl,Z.out.setCell (yj _) _,ziZ X3.out,yj _,(C3.out.off (zaq.set _ _ (Nat.lt_succ_self _))).less (fun b hb=>Nat.lt_succ_of_lt hb)⟩
 case rest =>
  obtain⟨b,ga,gc,rfl,rfl,HB,HX,j0,HC⟩:=hcut;have BW:Hid (Below V.heap.size V wc):=BV.out.trans (HB.out.mono BV.out.size);have I2:Hid _:=II.out.below BW.out;clear l0 l1 l2 l3 l4 k0 k1 k2 k3 D;by_cases hE:E1=0
  ·subst hE;have eG:GG=zbf (rlm W me) xn.toNat:=a7.out.symm.trans (MG.out rfl);rw[<- eG] at b4;have b5:Hid _:=b4.out;obtain⟨i1,i2,i3,c3,i4,i5,j6⟩:=zak I2.out.box;rw[HN.out] at c3;have cq:=zab d4.out BW.out;have cy:=zab y1 HB.out;have cb:=zaJ HX.out;have h6:V.heap.size<=b:=by omega
   have j3:F.heap.size<=wc.heap.size:=HB.out.size;clear eG a7 MG d4 y0 y1 y2 y3 y4 i1 i2 i3 i4 i5;obtain⟨m,b9⟩:∃ m,(que W ka).length=m:=⟨_,rfl⟩;have b3:Hid (_=m):=b9;rw[b9] at cq i6 HR HI;clear b9;by_cases a9:m=16
   ·subst a9;have U:=HI.out;rw[yb rfl,yb rfl] at U;have hN:q.e=1/\q.w=W:=⟨U.1,U.2.2 (by decide)⟩;have O:Hid _:=hN;clear HI U hN
    go_wp2_with fail
    go_region
    go_wp2
    exact yv (v:=.tuple #[.int .i64 0,.int .i64 1]) (by simp[results,Tryz.results114,go_sem]) rfl ⟨0,s,by rw[O.out.1],fun h=>absurd (O.out.1.symm.trans h) (by decide),by rw[O.out.2];exact I2.out.below (yk _ _).drew⟩
   ·have hz:((m:Int) == 16)=false:=by simp;omega
    have U:=HI.out;rw[yb rfl,ya a9] at U;have hN:q.e=0/\q.w=W' /\ q.o=0:=⟨U.1,U.2.1 rfl⟩;have O:Hid _:=hN;clear HI U hN;have nq:=e5.out;generalize d7:GG.length=gl at *;have e4:Hid (GG.length=gl):=d7;clear d7
    go_wp2_with fail
    go_region
    go_wp2_with fail
    obtain⟨J,b1⟩:∃ J,J=wc.drew:=⟨_,rfl⟩;have B6:Hid (Below wc.heap.size wc J):=by rw[b1];exact(yk _ _).drew
    have s6:J.heap.size=wc.heap.size:=by rw[b1];simp
    rw[<- b1];clear b1;replace c3:=zab c3 B6.out;replace cy:=zab cy B6.out;replace cq:=zab cq B6.out;replace cb:=zab cb B6.out;have I7:Hid (SW w0 d me W s (J.drew.alloc (.cells #[.int .i64 me,.slice ga gl gc] 53))):=(I2.out.below B6.out).below ((yk J.heap.size J).drew.alloc (yj _) (.cells #[.int .i64 me,.slice ga gl gc] 53));obtain⟨qs,c7⟩:∃ q,zcR (que W ka) (s.G ka)=q:=⟨_,rfl⟩;have d8:ka<W.fs.length:=by rw[HN.out];exact g9
    have HA:Hid (App (SX w0.heap.size d s) w0.heap.size 53 2 (s.Q ka).1 m (s.Q ka).2 qs (s.q ka) (J.drew.alloc (.cells #[.int .i64 me,.slice ga gl gc] 53))):=by have h:=I7.out.dp.qs ka d8;rw[c7,b3.out] at h;exact h
    have c9:Hid (St (SX w0.heap.size d s) (fun V=>zaG V ga GG) (J.drew.alloc (.cells #[.int .i64 me,.slice ga gl gc] 53))):=((HC.out.off (zaq.of_below B6.out)).off (zaq.of_below ((yk J.heap.size J).drew.alloc (yj _) (.cells #[.int .i64 me,.slice ga gl gc] 53)))).less (fun b hb=>yx (e6.out b hb) BV.out.size);have g6:w0.heap.size<=(J.drew.alloc (.cells #[.int .i64 me,.slice ga gl gc] 53)).heap.size:=I7.out.bel.size;have FZ:Hid (∀ w9,(J.drew.alloc (.cells #[.int .i64 me,.slice ga gl gc] 53)).grownBy w9 (s.q ka)->w9.frozen? ⟨s.g3,ka,none⟩=false):=fun w9 hg=>(yC (hg.block s.g3 I7.out.r3.lt (fun e=>nq s.g3 (.inr (.inl rfl)) e.symm))).trans (I7.out.r3.frozen _)
    have c8:Hid (∀ g cap w9,(J.drew.alloc (.cells #[.int .i64 me,.slice ga gl gc] 53)).grownBy w9 (s.q ka)->w9.ownsRow w0.heap.size 53 2 (.slice (some ⟨g,0,none⟩) (m+1) cap) (m+1) (qs++[.int .i64 me,.slice ga gl gc])->(s.q ka=some g\/(J.drew.alloc (.cells #[.int .i64 me,.slice ga gl gc] 53)).heap.size<=g)->zdF w0 d me q (.returned (.tuple #[.int .i64 0,.int .i64 0])) (w9.setCell ⟨s.g3,ka,none⟩ (.slice (some ⟨g,0,none⟩) (m+1) cap))):=fun g cap w9 g7 e0 h3=>by
     have hR:=HR.out (by trivial) a9;rw[<- b5.out] at hR;have h1:=I7.out.mail (k:=ka) (m:=⟨me,GG⟩) (ga:=(ga,gc)) (g:=g) (cap:=cap) d8 c9.out g7 (by rw[c7,b3.out,e4.out];exact e0) h3 hR rfl;rw[b3.out,b5.out] at h1;rw[<- O.out.2.1] at h1;exact⟨0,_,by rw[O.out.1],fun _=>O.out.2.2.symm,h1⟩
    clear c7 I7 c9 HR b5 b4;generalize s.q ka=qt at *;generalize s.Q ka=Qk at *;obtain⟨qa,qc⟩:=Qk;dsimp only at cq HA;obtain⟨i0,g8,h7,h8,h9⟩:=info_parts zwe;refine wp_region_noPanic ?_;refine zeV (S:=fun T=>T.cell? ⟨d,3,none⟩=some (.slice (some ⟨s.g3,0,none⟩) n n)/\T.cell? ⟨V.heap.size,1,none⟩=some (.int .i64 (ka:Int))/\T.cell? ⟨s.g3,ka,none⟩=some (.slice qa m qc)/\T.cell? ⟨b,0,none⟩=some (.slice ga gl gc)) 20 (by kernel_rfl) (by(try dsimp only);go_keep) (fun hHeld=>?_);refine zaf (i:=0) ?_;simp[Act.put];refine zaf (i:=1) ?_;simp[Act.put];refine zaf (i:=2) ?_;simp[Act.put];refine zaf (i:=3) ?_;simp[Act.put];refine zaf (i:=4) ?_;simp[Act.put];refine zaf (i:=5) ?_;simp[Act.put];refine zaf (i:=6) ?_;simp[Act.put];refine zaf (i:=7) ?_;simp[Act.put];refine zaf (i:=8) ?_;simp[Act.put];refine zaf (i:=9) ?_;simp[Act.put];refine zaf (i:=10) ?_;simp[Act.put];refine zaf (i:=11) ?_;simp[Act.put];refine zaf (i:=12) ?_;simp[Act.put];refine zaf (i:=13) ?_;simp[Act.put];refine zaf (i:=14) ?_;simp[Act.put];refine zaf (i:=15) ?_;simp[Act.put];refine zaf (i:=16) ?_;simp[Act.put];refine zbB (i:=17) (by kernel_rfl) rfl (fun K hK=>?_);go_simp;refine hK.out _ _ ?_ (fun hHeld=>?_)
    ·exact⟨zab c3 ((yk J.heap.size J).drew.alloc (yj _) (.cells #[.int .i64 me,.slice ga gl gc] 53)),zab cy ((yk J.heap.size J).drew.alloc (yj _) (.cells #[.int .i64 me,.slice ga gl gc] 53)),zab cq ((yk J.heap.size J).drew.alloc (yj _) (.cells #[.int .i64 me,.slice ga gl gc] 53)),zab cb ((yk J.heap.size J).drew.alloc (yj _) (.cells #[.int .i64 me,.slice ga gl gc] 53))⟩
    clear hK K hHeld
    try simp[Act.put]
    refine zbB (i:=18) (by kernel_rfl) rfl (fun K hK=>?_);refine zmi (J.drew.alloc (.cells #[.int .i64 me,.slice ga gl gc] 53)) rfl (.tmp 49) (.tmp 53) 51 rfl 53 i0 (.agg #[.int .i64 0,.slice none 0 0]) 2 32 Tryz.underlying51 g8 h7 h8 h9 rfl (by decide) qa m qc qs qt HA.out g6 rfl ⟨J.heap.size,0,none⟩ 1 1 [.int .i64 me,.slice ga gl gc] (by simp[Act.eval]) rfl (zBa (zac J.drew _ _ 0 rfl) (zac J.drew _ _ 1 rfl)) (by intro u hu;simp at hu;rcases hu with rfl|rfl <;> rfl) (by decide) (by unfold maxLen;omega) (by omega) ?_;intro g cap w9 b2 M b0 j7;have t3:w9.cell? ⟨d,3,none⟩=some (.slice (some ⟨s.g3,0,none⟩) n n):=M.cell (a:=⟨d,3,none⟩) (zab c3 ((yk J.heap.size J).drew.alloc (yj _) (.cells #[.int .i64 me,.slice ga gl gc] 53))) (fun e=>nq d (.inl rfl) e.symm);have ty:w9.cell? ⟨V.heap.size,1,none⟩=some (.int .i64 (ka:Int)):=M.cell (a:=⟨V.heap.size,1,none⟩) (zab cy ((yk J.heap.size J).drew.alloc (yj _) (.cells #[.int .i64 me,.slice ga gl gc] 53))) (fun e=>nq _ (.inr (.inr (yj _))) e.symm);have tq:w9.cell? ⟨s.g3,ka,none⟩=some (.slice qa m qc):=M.cell (a:=⟨s.g3,ka,none⟩) (zab cq ((yk J.heap.size J).drew.alloc (yj _) (.cells #[.int .i64 me,.slice ga gl gc] 53))) (fun e=>nq _ (.inr (.inl rfl)) e.symm);have tb:w9.cell? ⟨b,0,none⟩=some (.slice ga gl gc):=M.cell (a:=⟨b,0,none⟩) (zab cb ((yk J.heap.size J).drew.alloc (yj _) (.cells #[.int .i64 me,.slice ga gl gc] 53))) (fun e=>nq b (.inr (.inr h6)) e.symm);have f9:w9.frozen? ⟨s.g3,ka,none⟩=false:=FZ.out w9 M
    have e3:Hid _:=c8.out g cap w9 M b2 b0;refine hK.out _ _ ?_ (fun hHeld=>?_)
    ·exact⟨t3,ty,tq,tb⟩
    clear hK K b2 M b0 c8 FZ
    try simp[Act.put]
    refine zaf (i:=19) ?_;simp[Act.put];clear hHeld;refine zeU (by kernel_rfl) rfl (fun K hK=>?_);go_simp;refine hK.out _ _ ?_;clear hK K
    try simp[Act.put]
    refine zeT (by kernel_rfl) ?_ _;refine NoPanic.normal ?_
    go_wp2
    exact yv (v:=.tuple #[.int .i64 0,.int .i64 0]) (by simp[results,Tryz.results114,go_sem]) rfl e3.out
  ·have hN:q.e=E1/\q.w=W:=⟨by rw[HI.out.1,ya hE],HI.out.2.2 (by rw[ya hE];exact hE)⟩;have O:Hid _:=hN;have hz:(E1 == 0)=false:=by simp[hE]
   clear HI hN HR
   go_wp2
   exact yv (v:=.tuple #[.int .i64 0,.int .i64 E1]) (by simp[results,Tryz.results114,go_sem]) rfl ⟨0,s,by rw[O.out.1],fun h=>absurd (O.out.1.symm.trans h) hE,by rw[O.out.2];exact I2.out⟩
theorem zmM{l:List Int}:zao (0 :: l)=zao l:=yb rfl
theorem zpC{a:Int}{l:List Int}(h:a≠0):zao (a :: l)=a:=ya h
theorem zly(A:WA)(W:Wl)(k:Int)(st:Bool)(w:World)(H:zan W)(hW:zic w A W):Calls Tryz.prog 38 #[wlV A W,.agg #[.int .i64 k,.bool st]] w fun e w' => e=.returned (.int .i64 (zao [zaA W.fs k,if bits .and .i64 (zjt W k.toNat) 1=0 then 7 else 0,if 4760<(rlm W k.toNat).t.length then 1 else 0,if st=false/\(que W k.toNat).length=0 then 8 else 0]))/\Below w.heap.size w w' := by
 obtain⟨a0,a1,a2,a3,a4,c0,c1,c2,c3,c4⟩:=A;have n8:W.fs.length<=8:=H.fs.few;have lr:=H.lr;have lq:=H.lq;have lp:=H.lp;have D:Hid (∀ V2,Below w.heap.size w V2->Calls _ _ _ _ _):=fun V2 hV=>zcB a0 c0 W.fs k V2 (by omega) (hW.fs.below hV)
 have HF:Hid (∀ i:Nat,i<W.fs.length->∃ b o,a0=some ⟨b,o,none⟩/\w.cell? ⟨b,o+i*5+2,none⟩=some (.int .i64 (zjt W i))/\b<w.heap.size):=fun i hi=>by
  obtain⟨b,o,e,h0,h1,U,_⟩:=hW.fs i hi;exact⟨b,o,e,U,yd _ _ U⟩
 have HR:Hid (∀ i:Nat,i<W.fs.length->∃ b o ta tc,a1=some ⟨b,o,none⟩/\w.cell? ⟨b,o+i*4+3,none⟩=some (.slice ta (rlm W i).t.length tc)/\b<w.heap.size):=fun i hi=>by
  obtain⟨b,o,A,e,h0,h1,U,Z,_⟩:=hW.rs i (by rw[lr];exact hi);exact⟨b,o,A.a3,A.c3,e,Z,yd _ _ Z⟩
 have HQ:Hid (∀ i:Nat,i<W.fs.length->∃ b o qa qc,a3=some ⟨b,o,none⟩/\w.cell? ⟨b,o+i,none⟩=some (.slice qa (que W i).length qc)/\b<w.heap.size):=fun i hi=>by
  obtain⟨b,o,qa,qc,e,h0,_⟩:=hW.qs i (by rw[lq];exact hi);exact⟨b,o,qa,qc,e,h0,yd _ _ h0⟩
 have HK:Hid (zaA W.fs k=0->0<=k/\k<W.fs.length):=fun h=>by
  unfold zaA at h;by_cases hk:0<=k/\k<W.fs.length
  ·exact hk
  ·rw[yb hk] at h;exact absurd h (by decide)
 clear hW H;show Calls Tryz.prog _ #[.agg #[.slice a0 W.fs.length c0,.slice a1 W.rs.length c1,.slice a2 W.ps.length c2,.slice a3 W.qs.length c3,.slice a4 W.pt.length c4],.agg #[.int .i64 k,.bool st]] w _;rw[lr,lq,lp];clear lr lq lp;generalize W.fs.length=n at *;generalize W.pt.length=nt at *;generalize zaA W.fs k=E at *;obtain⟨q,I⟩:∃ q,zao [E,if bits .and .i64 (zjt W k.toNat) 1=0 then 7 else 0,if 4760<(rlm W k.toNat).t.length then 1 else 0,if st=false/\(que W k.toNat).length=0 then 8 else 0]=q:=⟨_,rfl⟩;have HE:Hid _:=I;rw[I];clear I
 go_enter Tryz.func38,Tryz.ntmps38
 go_upto_region 1 with fail
 obtain⟨O,J⟩:∃ O,(w.alloc (.cells #[.slice a0 n c0,.slice a1 n c1,.slice a2 n c2,.slice a3 n c3,.slice a4 nt c4] 28)).alloc (.cells #[.int .i64 k,.bool st] 40)=O:=⟨_,rfl⟩;have M:Hid (Below w.heap.size w O):=by rw[<- J];exact(zaa _ _).trans ((zaa _ _).mono (by simp))
 have l0:O.cell? ⟨w.heap.size,0,none⟩=some (.slice a0 n c0):=by rw[<- J];exact zay _ _ _ 0 _ rfl
 have l1:O.cell? ⟨w.heap.size,1,none⟩=some (.slice a1 n c1):=by rw[<- J];exact zay _ _ _ 1 _ rfl
 have l3:O.cell? ⟨w.heap.size,3,none⟩=some (.slice a3 n c3):=by rw[<- J];exact zay _ _ _ 3 _ rfl
 have y0:O.cell? ⟨w.heap.size+1,0,none⟩=some (.int .i64 k):=by rw[<- J];exact zaz _ _ _ 0 _ rfl
 have y1:O.cell? ⟨w.heap.size+1,1,none⟩=some (.bool st):=by rw[<- J];exact zaz _ _ _ 1 _ rfl
 have T:Hid (Calls _ _ _ _ _):=D.out O M.out;clear D;rw[J];clear J;by_cases h0:E=0
 ·subst h0;obtain⟨a6,b0⟩:=HK.out rfl;obtain⟨i,rfl⟩:∃ i:Nat,k=i:=⟨k.toNat,(Int.toNat_of_nonneg a6).symm⟩;have hi:i<n:=by omega
  obtain⟨fb,fo,rfl,f2,fl⟩:=HF.out i hi;obtain⟨rb,ro,ta,tc,rfl,r3,rl⟩:=HR.out i hi;obtain⟨qb,qo,qa,qc,rfl,q0,ql⟩:=HQ.out i hi;replace f2:=zab f2 M.out;replace r3:=zab r3 M.out;replace q0:=zab q0 M.out;have I:=HE.out;rw[zmM,yi] at I;clear HF HR HQ HK HE;generalize zjt W i=mm at *;generalize (rlm W i).t.length=tl at *;generalize (que W i).length=qn at *;by_cases h1:bits .and .i64 mm 1=0
  ·rw[yb h1,zpC (by decide)] at I;subst I
   go_wp2_with (go_at_call 70;refine ye T.out ?_;rintro e w3 ⟨rfl,F⟩;subst F)
   go_ret;exact⟨rfl,M.out⟩
  ·rw[ya h1,zmM] at I;have a8:(bits .and .i64 mm 1 == 0)=false:=by simp[h1]
   by_cases U:4760<tl
   ·rw[yb U,zpC (by decide)] at I;subst I;have a5:(4760:Int)<(tl:Int):=by omega
    go_wp2_with (go_at_call 70;refine ye T.out ?_;rintro e w3 ⟨rfl,F⟩;subst F)
    go_ret;exact⟨rfl,M.out⟩
   ·rw[ya U,zmM] at I;have a5:¬ (4760:Int)<(tl:Int):=by omega
    cases st
    ·by_cases Z:qn=0
     ·subst Z;rw[yb ⟨rfl,rfl⟩,zpC (by decide)] at I;subst I
      go_wp2_with (go_at_call 70;refine ye T.out ?_;rintro e w3 ⟨rfl,F⟩;subst F)
      go_ret;exact⟨rfl,M.out⟩
     ·rw[ya (fun h=>Z h.2),zmM] at I;change (0:Int)=q at I;subst I;have a9:((qn:Int) == 0)=false:=by simp[Z]
      go_wp2_with (go_at_call 70;refine ye T.out ?_;rintro e w3 ⟨rfl,F⟩;subst F)
      go_ret;exact⟨rfl,M.out⟩
    ·rw[ya (fun h=>absurd h.1 (by decide)),zmM] at I;change (0:Int)=q at I;subst I
     go_wp2_with (go_at_call 70;refine ye T.out ?_;rintro e w3 ⟨rfl,F⟩;subst F)
     go_ret;exact⟨rfl,M.out⟩
 ·have I:=HE.out;rw[zpC h0] at I;subst I;clear HF HR HQ HK;have a7:(E == 0)=false:=by simp[h0]
  go_wp2_with (go_at_call 70;refine ye T.out ?_;rintro e w3 ⟨rfl,F⟩;subst F)
  go_ret;exact⟨rfl,M.out⟩
theorem zgD(m:Ml)(r:List Ml)(G:Nat->Option Addr × Nat):zcR (m :: r) G=[Value.int .i64 m.f,.slice (G 0).1 m.g.length (G 0).2] ++ zcR r (fun j=>G (j+1)):=by
 unfold zcR;rw[List.length_cons,List.range_succ_eq_map,List.flatMap_cons,List.flatMap_map];rfl
theorem zqJ{W:Wl}(H:zan W){k:Nat}(D:k<W.fs.length):zan { W with qs:=W.qs.set k ((que W k).drop 1) }:=by
 obtain⟨I,F⟩:=zby.1 (H.qs k D);exact zan.queue (q:=(que W k).drop 1) H D (zby.2 ⟨by rw[List.length_drop];omega,fun m E=>F m (List.mem_of_mem_drop E)⟩)
theorem SW.no_row3{M:W0}{d me:Nat}{W:Wl}{s:SD}{V:World}(I:SW M d me W s V){b o:Nat}{v:Value}(h:V.cell? ⟨b,o,none⟩=some v)(J:∀ a n c,v≠.slice a n c):¬ s.g3=b:=fun e=>by
 subst e;obtain⟨c,hc,hl,F⟩:=I.r3;simp only[World.cell?,hc] at h
 have D:o<W.fs.length:=by
  rcases Nat.lt_or_ge o W.fs.length with E|E
  ·exact E
  ·rw[Array.getElem?_eq_none (by omega)] at h;cases h
 rw[F o D] at h;cases h;exact J _ _ _ rfl
theorem SW.take{J:W0}{d me:Nat}{W:Wl}{s:SD}{V:World}(I:SW J d me W s V)(hq:s.q me=none)(hl:(que W me).length≠0) :
  ∃ b o,s.Q me=(some ⟨b,o,none⟩,(que W me).length)/\¬ s.g3=b/\V.cell? ⟨b,o+1,none⟩=some (.slice (s.G me 0).1 ((que W me).getD 0 ⟨0,[]⟩).g.length (s.G me 0).2)/\St (SX J.heap.size d s) (fun V=>zaG V (s.G me 0).1 ((que W me).getD 0 ⟨0,[]⟩).g) V /\
   ∀ E M,SW J d me W s E->(M=some ⟨b,o+2,none⟩\/((que W me).length=1/\∀ D,M=some D->∃ b o,D=⟨b,o,none⟩)) ->
    ∃ U,SW J d me { W with qs:=W.qs.set me ((que W me).drop 1) } U (E.setCell ⟨s.g3,me,none⟩ (.slice M ((que W me).length-1) ((que W me).length-1)))/\U.g1=s.g1/\U.R=s.R/\∀ b,SX J.heap.size d U b->SX J.heap.size d s b:=by
 have HR:=zqJ I.rt I.sf;have hg:=fun E (h:SW J d me W s E)=>h.dp.qg me I.sf;have hA:=fun E (h:SW J d me W s E)=>(h.dp.qs me I.sf).2
 have key:∀ E,SW J d me W s E->(s.Q me).2=(que W me).length/\(((s.Q me).1=none->(que W me).length=0)/\∀ D,(s.Q me).1=some D->∃ b o,D=⟨b,o,none⟩)/\St (SX J.heap.size d s) (fun V=>∀ D,(s.Q me).1=some D->∀ j u,(zcR (que W me) (s.G me))[j]?=some u->V.cell? (D.add j)=some u) E:=fun E h=>by
  rcases hA E h with ⟨_,O,h3,h4⟩ |⟨b,h1,_⟩
  ·exact⟨O,h3,h4⟩
  ·rw[hq] at h1;cases h1
 obtain⟨k1,k2,k3⟩:=key V I
 obtain⟨D,F⟩:∃ D,(s.Q me).1=some D:=by
  cases h:(s.Q me).1 with
  | none=>exact absurd (k2.1 h) hl
  | some D=>exact⟨D,rfl⟩
 obtain⟨b,o,rfl⟩:=k2.2 D F
 obtain⟨m,r,Z⟩:∃ m r,que W me=m :: r:=by
  cases h:que W me with
  | nil=>rw[h] at hl;exact absurd rfl hl
  | cons m r=>exact⟨m,r,rfl⟩
 rw[Z] at hg key k1 k3 HR |-;refine⟨b,o,Prod.ext F k1,I.no_row3 (k3.at _ F 0 (.int .i64 m.f) (by rw[zgD];rfl)) (fun _ _ _ h=>by cases h),?_,hg V I 0 (by simp),fun E M O T=>?_⟩
 ·have:=k3.at _ F 1 (.slice (s.G me 0).1 m.g.length (s.G me 0).2) (by rw[zgD];rfl);exact this
 ·have hs:=O.queue (k:=me) (c:=r.length) (a:=M) (q:=r) (G:=fun j=>s.G me (j+1)) I.sf ?_ ?_ rfl (fun j hj=>hg E O (j+1) (by simp;omega)) HR
  ·refine⟨_,hs,rfl,rfl,fun b hb=>?_⟩;rcases hb with h|h|h|h|h|h |⟨i,h⟩
   ·exact .inl h
   ·exact .inr (.inl h)
   ·exact .inr (.inr (.inl h))
   ·exact .inr (.inr (.inr (.inl h)))
   ·exact .inr (.inr (.inr (.inr (.inl h))))
   ·exact .inr (.inr (.inr (.inr (.inr (.inl h)))))
   ·refine .inr (.inr (.inr (.inr (.inr (.inr ⟨i,?_⟩)))));dsimp only at h
    split at h
    ·cases h
    ·exact h
  ·intro V3 ho D hd j u hu;rcases T with rfl |⟨hr,_⟩
   ·cases hd;have:=(key E O).2.2 V3 ho _ F (j+2) u (by rw[zgD,List.getElem?_append_right (by simp)];exact hu)
    have e:(⟨b,o,none⟩:Addr).add (j+2)=(⟨b,o+2,none⟩:Addr).add j:=by
     have e1:o+(j+2)=o+2+j:=by omega
     first|(show (⟨b,o+(j+2),none⟩:Addr)=⟨b,o+2+j,none⟩;rw[e1])|(unfold Addr.add;simp[e1])
    rw[<- e];exact this
   ·have:r=[]:=by
     cases r with
     | nil=>rfl
     | cons _ _=>simp at hr
    subst this;simp[zcR] at hu
  ·rcases T with rfl |⟨hr,hs⟩
   ·exact⟨(fun h=>by cases h),fun D h=>by cases h;exact⟨_,_,rfl⟩⟩
   ·exact⟨fun _=>by simpa using hr,hs⟩
theorem zyK{S D:List Nd}(hl:S.length=D.length)(h:∀ i,i<S.length->nd S i=nd D i):S=D :=
 List.ext_getElem hl fun i hi E=>by
  have:=h i hi
  rwa [zbi hi,zbi E] at this
theorem ztX(x y:Nd):x=y↔(x.u=y.u/\x.n=y.n/\x.t=y.t/\x.m=y.m/\x.p=y.p/\x.ks=y.ks/\x.h=y.h/\x.c=y.c):=by
 constructor
 ·rintro rfl;exact⟨rfl,rfl,rfl,rfl,rfl,rfl,rfl,rfl⟩
 ·obtain⟨a1,a2,a3,a4,D,E,F,I⟩:=x;obtain⟨J,M,O,T,U,Z,b7,b8⟩:=y;rintro⟨rfl,rfl,rfl,rfl,rfl,rfl,rfl,rfl⟩;rfl
theorem zph(x y:Nd)(ka D:Option Addr)(kc F:Nat)(w:World)(E:x.ks.length<=9223372036854775807)(h1:zaj w ka x.ks)(I:zaj w D y.ks) :
  Calls Tryz.prog 87 #[.agg #[.bool x.u,.int .i64 x.n,.int .i64 x.t,.int .i64 x.m,.int .i64 x.p,.slice ka x.ks.length kc,.int .i64 x.h,.bool x.c],.agg #[.bool y.u,.int .i64 y.n,.int .i64 y.t,.int .i64 y.m,.int .i64 y.p,.slice D y.ks.length F,.int .i64 y.h,.bool y.c]] w fun e w' => ∃ r:Bool,e=.returned (.bool r)/\Below w.heap.size w w' /\(r=true↔x=y):=by
 refine(zit x.u y.u x.n y.n x.t y.t x.m y.m x.p y.p x.ks y.ks ka D kc F x.h y.h x.c y.c w E h1 I).mono ?_;rintro e w' ⟨rfl,J⟩;exact⟨_,rfl,J,by rw[decide_eq_true_iff,ztX]⟩
theorem zkp(a a' : Option Addr)(c c' : Nat)(S D:List Nd)(w:World)(hN:S.length<=9223372036854775807)(hB:Big S)(h1:zah w a S)(h2:zah w a' D) :
  Calls Tryz.prog 86 #[.slice a S.length c,.slice a' D.length c', .func (.func 87) #[] #[]] w fun e w' => ∃ r:Bool,e=.returned (.bool r)/\Below w.heap.size w w' /\(r=true↔S=D):=by
 have eg:=enters_of Tryz.func87 (by kernel_rfl) rfl;by_cases hl:S.length=D.length
 ·have E1:Hid ((∀ i,i<S.length->nd S i=nd D i)->S=D):=fun h=>zyK hl h;have E2:Hid (∀ i,nd S i≠nd D i->S≠D):=fun i h e=>h (by rw[e]);have H1:Hid (zah w a S):=h1;have H2:Hid (zah w a' D):=h2;have HB:Hid (Big S):=hB;have HL:Hid (D.length=S.length):=hl.symm;rw[<- hl];clear h1 h2 hB hl;generalize hn:S.length=n at *;have HN:Hid _:=hn;clear hn
  go_enter Tryz.func86,Tryz.ntmps86
  go_wp2
  go_loopg [17] n (fun g s17 wr=>∃ k:Nat,k<=n/\n-k<=g/\s17=.int .i64 k/\Below w.heap.size w wr/\Hid (∀ i,i<k->nd S i=nd D i))
  case atStart=>exact⟨0,by omega,by omega,rfl,yk _ _,fun i hi=>by omega⟩
  case round =>
   obtain⟨k,hk,hg,rfl,E,A⟩:=hrel;by_cases F:k<n
   ·have a8:(k:Int)<(n:Int):=by omega
    obtain⟨b,o,rfl,c0,c1,c2,c3,c4,⟨ka,kc,c5,J⟩,c6,c7⟩:=(H1.out.below E) k (by rw[HN.out];exact F);obtain⟨b', o', rfl,e0,e1,e2,e3,e4,⟨a5,a6,e5,M⟩,e6,e7⟩:=(H2.out.below E) k (by rw[HL.out];exact F);have a9:=yd _ _ c0;have a7:=yd _ _ e0;have d1:=fun o1 o2=>zph (nd S k) (nd D k) ka a5 kc a6 ((wr.alloc o1).alloc o2) (HB.out k (by rw[HN.out];exact F)) (J.below (zbs _ _ _)) (M.below (zbs _ _ _));have EK:=E2.out k;have T:Hid _:=EK
    have KK:Hid (nd S k=nd D k->∀ i,i<k+1->nd S i=nd D i):=fun h i hi=>by
     by_cases e:i=k
     ·subst e;exact h
     ·exact A.out i (by omega)
    clear EK J M;have D1:Hid _:=d1;clear d1;generalize nd S k=x at *;generalize nd D k=y at *
    go_wp2_with fail
    refine(D1.out _ _).mono ?_;rintro e w3 ⟨r,rfl,I,O⟩
    cases r with
    | true =>
     have Z:Hid _:=O.1 rfl;clear O
     go_wp2
     go_roundg (n-(k+1))
     case measure=>omega
     case rel=>exact⟨k+1,by omega,by omega,by go_num,(E.trans ((zbs _ _ _).mono E.size)).trans (I.mono (by simp;have:=E.size;omega)),KK.out Z.out⟩
    | false =>
     have Z:Hid (S≠D):=T.out fun e=>by have:=O.2 e;cases this
     clear O
     go_wp2
     go_ret;exact⟨false,rfl,(E.trans ((zbs _ _ _).mono E.size)).trans (I.mono (by simp;have:=E.size;omega)),⟨fun h=>(by cases h),fun h=>absurd h Z.out⟩⟩
   ·have:k=n:=by omega
    subst this
    go_wp2
    go_ret;exact⟨true,rfl,E,⟨fun _=>E1.out A.out,fun _=>rfl⟩⟩
 ·have b0:¬ ((S.length:Int)=(D.length:Int)):=by omega
  have U:Hid (S≠D):=fun e=>hl (by rw[e]);clear h1 h2 hB;generalize S.length=n at *;generalize D.length=n' at *
  go_enter Tryz.func86,Tryz.ntmps86
  go_wp2
  go_ret;exact⟨false,rfl,yk _ _,⟨fun h=>(by cases h),fun h=>absurd h U.out⟩⟩
theorem zwT(a E:Option Addr)(c F:Nat)(S D:List Nd)(w:World)(U:S.length<=9223372036854775807)(J:Big S)(h1:zah w a S)(I:zah w E D) :
  Calls Tryz.prog 48 #[.agg #[.slice a S.length c],.agg #[.slice E D.length F]] w fun e w' => ∃ r:Bool,e=.returned (.bool r)/\Below w.heap.size w w' /\(r=true↔S=D):=by
 have O:Hid _:=fun o1 o2=>zkp a E c F S D ((w.alloc o1).alloc o2) U J (h1.below (zbs _ _ _)) (I.below (zbs _ _ _));clear h1 I J;generalize S.length=n at *;generalize D.length=n' at *
 go_enter Tryz.func48,Tryz.ntmps48
 go_wp2_with (go_at_call 86;refine(O.out _ _).mono ?_;rintro e w1 ⟨r,rfl,Z,M⟩;have T:Hid _:=M;clear M)
 go_ret;exact⟨r,rfl,(zbs _ _ _).trans (Z.mono (by simp;omega)),T.out⟩
theorem zvU{A B:List (Int × Int)}(hl:A.length=B.length)(h:∀ i,i<A.length->A.getD i (0,0)=B.getD i (0,0)):A=B:=by
 refine List.ext_getElem hl fun i h1 D=>?_;have:=h i h1
 rwa [zae _ _ h1,zae _ _ D] at this
theorem zko(a T:Option Addr)(c c' : Nat)(A B:List (Int × Int))(w:World)(hN:A.length<=9223372036854775807)(h1:zas w a A)(U:zas w T B) :
  Calls Tryz.prog 49 #[.slice a A.length c,.slice T B.length c'] w fun e w' => ∃ r:Bool,e=.returned (.bool r)/\Below w.heap.size w w' /\(r=true↔A=B):=by
 by_cases hl:A.length=B.length
 ·have E1:Hid ((∀ i,i<A.length->A.getD i (0,0)=B.getD i (0,0))->A=B):=fun h=>zvU hl h;have E2:Hid (∀ i,A.getD i (0,0)≠B.getD i (0,0)->A≠B):=fun i h e=>h (by rw[e]);have H1:Hid (zas w a A):=h1;have H2:Hid (zas w T B):=U;have HL:Hid (B.length=A.length):=hl.symm;rw[<- hl];clear h1 U hl;obtain⟨n,hn⟩:∃ n,A.length=n:=⟨_,rfl⟩;have HN:Hid (A.length=n):=hn;rw[hn] at hN E1 HL |-;clear hn
  go_enter Tryz.func49,Tryz.ntmps49
  go_wp2
  go_loopg [13] n (fun g s13 wr=>∃ k:Nat,k<=n/\n-k<=g/\s13=.int .i64 k/\Below w.heap.size w wr/\Hid (∀ i,i<k->A.getD i (0,0)=B.getD i (0,0)))
  case atStart=>exact⟨0,by omega,by omega,rfl,yk _ _,fun i hi=>by omega⟩
  case round =>
   obtain⟨k,hk,hg,rfl,D,AA⟩:=hrel;by_cases E:k<n
   ·have a5:(k:Int)<(n:Int):=by omega
    obtain⟨b,o,rfl,c0,c1⟩:=(H1.out.below D) k (by rw[HN.out];exact E);obtain⟨b', o', rfl,e0,e1⟩:=(H2.out.below D) k (by rw[HL.out];exact E)
    have KK:Hid (A.getD k (0,0)=B.getD k (0,0)->∀ i,i<k+1->A.getD i (0,0)=B.getD i (0,0)):=fun h i hi=>by
     by_cases e:i=k
     ·subst e;exact h
     ·exact AA.out i (by omega)
    have EE:Hid _:=E2.out k;generalize A.getD k (0,0)=x at *;generalize B.getD k (0,0)=y at *;obtain⟨Z,x1⟩:=x;obtain⟨y0,y1⟩:=y;dsimp only at c0 c1 e0 e1;by_cases I:Z=y0
    ·subst I;by_cases J:x1=y1
     ·subst J
      go_wp2_with fail
      go_quiet (fail)
      go_wp2
      go_roundg (n-(k+1))
      case measure=>omega
      case rel=>exact⟨k+1,by omega,by omega,by go_num,zod D _,KK.out trivial⟩
     ·have q2:(x1 == y1)=false:=beq_eq_false_iff_ne.2 J;have q3:decide (x1=y1)=false:=decide_eq_false J;have O:Hid (A≠B):=EE.out (fun h=>J (congrArg Prod.snd h))
      go_wp2_with fail
      go_quiet (fail)
      go_wp2
      go_ret;exact⟨false,rfl,zod D _,⟨fun h=>(by cases h),fun h=>absurd h O.out⟩⟩
    ·have q2:(Z == y0)=false:=beq_eq_false_iff_ne.2 I;have q3:decide (Z=y0)=false:=decide_eq_false I;have O:Hid (A≠B):=EE.out (fun h=>I (congrArg Prod.fst h))
     go_wp2_with fail
     go_quiet (fail)
     go_wp2
     go_ret;exact⟨false,rfl,zod D _,⟨fun h=>(by cases h),fun h=>absurd h O.out⟩⟩
   ·have:k=n:=by omega
    subst this;have Y:Hid (A=B):=E1.out AA.out
    go_wp2
    go_ret;exact⟨true,rfl,D,⟨fun _=>Y.out,fun _=>rfl⟩⟩
 ·have F:A≠B:=fun e=>hl (by rw[e]);have M:Hid (A≠B):=F;have a6:decide ((A.length:Int)=(B.length:Int))=false:=decide_eq_false (by omega);have a7:((A.length:Int) ==(B.length:Int))=false:=beq_eq_false_iff_ne.2 (by omega);have a8:(A.length == B.length)=false:=beq_eq_false_iff_ne.2 hl;clear h1 U F;generalize A.length=n at *;generalize B.length=m at *
  go_enter Tryz.func49,Tryz.ntmps49
  go_wp2
  go_ret;exact⟨false,rfl,yk _ _,⟨fun h=>(by cases h),fun h=>absurd h M.out⟩⟩
theorem zAp{R Q:Rl}:R=Q↔R.s=Q.s/\R.hs=Q.hs/\R.i=Q.i/\R.t=Q.t:=by
 cases R;cases Q;simp
end Go.Proofs.YtcbcpomacdngmaaGreat
