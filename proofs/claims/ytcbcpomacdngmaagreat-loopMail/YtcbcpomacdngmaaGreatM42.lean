/-
  x
-/
import Derived.Test.YtcbcpomacdngmaaGreatM41
namespace Go.Proofs.YtcbcpomacdngmaaGreat
set_option maxRecDepth 100000
set_option maxHeartbeats 4000000
set_option linter.unusedVariables false
open Go.RowKit Go.ChangeShapes Go.WideShapes
def zjT(me:Nat)(W:Wl)(x:Ac)(F:World)(e:Ending)(V:World):Prop:=∃ (K:Nat) (D:Array Value) (C:World->Prop),e=.returned (.func (.func K) #[] D)/\Below F.heap.size F V/\C V/\(∀ V E,C V->Below V.heap.size V E->C E)/\(∀ args w,(callFunc K args).run Tryz.prog w=.ok (.enter K args) w)/\zhn K D C me W x (zdh W me x)
def zmi(I J:Nat)(D:Array Value)(E:Int)(F:World)(e:Ending)(V:World):Prop:=∃ c1 c2 c3,e=.returned (.func (.func 136) #[] #[.pointer (some ⟨c1,0,none⟩),.pointer (some ⟨c2,0,none⟩),.pointer (some ⟨c3,0,none⟩)])/\Below F.heap.size F V/\V.cell? ⟨c1,0,none⟩=some (.func (.func I) #[] #[])/\V.cell? ⟨c2,0,none⟩=some (.int .i64 E)/\V.cell? ⟨c3,0,none⟩=some (.func (.func J) #[] D)
theorem zer(E:Int)(Es:List Int)(W V:Wl)(o:Int):zeN (E :: Es) W V o=if E=0 then zeN Es W V o else ⟨E,W,0⟩:=by
 unfold zeN;by_cases h:E=0
 ·subst h;rfl
 ·have e:zao (E :: Es)=E:=ya h;rw[e,ya h,ya h]
theorem zjT.may{I J:Nat}{E:Array Value}{D t:Int}{me:Nat}{W:Wl}{x:Ac}{Z V:World}{e:Ending}{C:World->Prop}{q:Ws}(hv:zmi I J E D Z e V)(c:C V)(O:∀ args w,(callFunc I args).run Tryz.prog w=.ok (.enter I args) w)(T:∀ args w,(callFunc J args).run Tryz.prog w=.ok (.enter J args) w)(hw:(Lit.int .i64 D).wf=true)(h1:∀ V,yL I #[acV x] V fun e w' => e=.returned (.int .i64 t)/\Below V.heap.size V w')(hC:∀ V M,C V->Below V.heap.size V M->C M)(U:zdF W.fs me t D=0->zhn J E C me W x q)(hq:zdh W me x=if zdF W.fs me t D=0 then q else ⟨zdF W.fs me t D,W,0⟩):zjT me W x Z e V:=by
 obtain⟨c1,c2,c3,he,F,v1,v2,v3⟩:=hv;exact⟨_,_,_,he,F,⟨v1,v2,v3,c⟩,fun V M ⟨h1,U,h3,h4⟩ F=>⟨zab h1 F,zab U F,zab h3 F,hC V M h4 F⟩,(yJ Tryz.func136 (by kernel_rfl) rfl),hq ▸ zqE I J c1 c2 c3 E D t O T me W x hw h1 C hC q U⟩
theorem zcD(F I:Nat)(D:Array Value)(E:Int)(W:World):yL 110 #[.int .i64 E,.func (.func F) #[] #[],.func (.func I) #[] D] W (zmi F I D E W):=by
 go_enter Tryz.func110,Tryz.ntmps110
 go_wp2
 go_ret;exact⟨_,_,_,rfl,((zaa _ _).trans ((zaa _ _).mono (by simp))).trans ((zaa _ _).mono (by simp;omega)),by go_simp,by go_simp,by go_simp⟩
theorem zce(F:Nat)(W:World):yL 119 #[.func (.func F) #[] #[]] W fun e w' => e=.returned (.func (.func 143) #[] #[.pointer (some ⟨W.heap.size,0,none⟩)])/\Below W.heap.size W w' /\ w'.cell? ⟨W.heap.size,0,none⟩=some (.func (.func F) #[] #[]):=by
 go_enter Tryz.func119,Tryz.ntmps119
 go_wp2
 go_ret;exact⟨rfl,zaa _ _,zad _ _ _ 0 rfl⟩
theorem ztl(W:World):yL 79 #[.int .i64 9] W (zmi 111 112 #[] 2 W):=by
 have D:Hid (∀ W,Calls _ _ _ _ _):=fun W=>zcD 111 112 #[] 2 W
 go_enter Tryz.func79,Tryz.ntmps79
 go_wp2_with fail
 refine ye (D.out _) ?_;rintro e V ⟨c1,c2,c3,rfl,E,v1,v2,F⟩;have I:Hid _:=E;have J:Hid _:=And.intro v1 (And.intro v2 F);clear E v1 v2 F D
 go_wp2
 go_ret;exact⟨c1,c2,c3,rfl,I.out,J.out⟩
theorem zqH(W:World):yL 79 #[.int .i64 10] W (zmi 113 114 #[] 3 W):=by
 have D:Hid (∀ W,Calls _ _ _ _ _):=fun W=>zcD 113 114 #[] 3 W
 go_enter Tryz.func79,Tryz.ntmps79
 go_wp2_with fail
 refine ye (D.out _) ?_;rintro e V ⟨c1,c2,c3,rfl,E,v1,v2,F⟩;have I:Hid _:=E;have J:Hid _:=And.intro v1 (And.intro v2 F);clear E v1 v2 F D
 go_wp2
 go_ret;exact⟨c1,c2,c3,rfl,I.out,J.out⟩
theorem zqI(W:World):yL 79 #[.int .i64 12] W (zmi 113 115 #[] 1 W):=by
 have D:Hid (∀ W,Calls _ _ _ _ _):=fun W=>zcD 113 115 #[] 1 W
 go_enter Tryz.func79,Tryz.ntmps79
 go_wp2_with fail
 refine ye (D.out _) ?_;rintro e V ⟨c1,c2,c3,rfl,E,v1,v2,F⟩;have I:Hid _:=E;have J:Hid _:=And.intro v1 (And.intro v2 F);clear E v1 v2 F D
 go_wp2
 go_ret;exact⟨c1,c2,c3,rfl,I.out,J.out⟩
theorem zqJ(W:World):yL 79 #[.int .i64 13] W (zmi 111 116 #[] 4 W):=by
 have D:Hid (∀ W,Calls _ _ _ _ _):=fun W=>zcD 111 116 #[] 4 W
 go_enter Tryz.func79,Tryz.ntmps79
 go_wp2_with fail
 refine ye (D.out _) ?_;rintro e V ⟨c1,c2,c3,rfl,E,v1,v2,F⟩;have I:Hid _:=E;have J:Hid _:=And.intro v1 (And.intro v2 F);clear E v1 v2 F D
 go_wp2
 go_ret;exact⟨c1,c2,c3,rfl,I.out,J.out⟩
theorem zqP(W:World):yL 79 #[.int .i64 21] W (zmi 111 117 #[] 5 W):=by
 have D:Hid (∀ W,Calls _ _ _ _ _):=fun W=>zcD 111 117 #[] 5 W
 go_enter Tryz.func79,Tryz.ntmps79
 go_wp2_with fail
 refine ye (D.out _) ?_;rintro e V ⟨c1,c2,c3,rfl,E,v1,v2,F⟩;have I:Hid _:=E;have J:Hid _:=And.intro v1 (And.intro v2 F);clear E v1 v2 F D
 go_wp2
 go_ret;exact⟨c1,c2,c3,rfl,I.out,J.out⟩
theorem zqM(W:World):yL 79 #[.int .i64 18] W fun e w' => ∃ E,e=.returned (.func (.func 143) #[] #[.pointer (some ⟨E,0,none⟩)])/\Below W.heap.size W w' /\ w'.cell? ⟨E,0,none⟩=some (.func (.func 121) #[] #[]):=by
 have D:Hid (∀ W,Calls _ _ _ _ _):=fun W=>zce 121 W
 go_enter Tryz.func79,Tryz.ntmps79
 go_wp2_with fail
 refine ye (D.out _) ?_;rintro e V ⟨rfl,F,hc⟩;have I:Hid _:=F;have J:Hid _:=hc;clear F hc D
 go_wp2
 go_ret;exact⟨_,rfl,I.out,J.out⟩
theorem zqN(W:World):yL 79 #[.int .i64 19] W fun e w' => ∃ E,e=.returned (.func (.func 143) #[] #[.pointer (some ⟨E,0,none⟩)])/\Below W.heap.size W w' /\ w'.cell? ⟨E,0,none⟩=some (.func (.func 122) #[] #[]):=by
 have D:Hid (∀ W,Calls _ _ _ _ _):=fun W=>zce 122 W
 go_enter Tryz.func79,Tryz.ntmps79
 go_wp2_with fail
 refine ye (D.out _) ?_;rintro e V ⟨rfl,F,hc⟩;have I:Hid _:=F;have J:Hid _:=hc;clear F hc D
 go_wp2
 go_ret;exact⟨_,rfl,I.out,J.out⟩
theorem zqO(W:World):yL 79 #[.int .i64 20] W fun e w' => ∃ E,e=.returned (.func (.func 143) #[] #[.pointer (some ⟨E,0,none⟩)])/\Below W.heap.size W w' /\ w'.cell? ⟨E,0,none⟩=some (.func (.func 123) #[] #[]):=by
 have D:Hid (∀ W,Calls _ _ _ _ _):=fun W=>zce 123 W
 go_enter Tryz.func79,Tryz.ntmps79
 go_wp2_with fail
 refine ye (D.out _) ?_;rintro e V ⟨rfl,F,hc⟩;have I:Hid _:=F;have J:Hid _:=hc;clear F hc D
 go_wp2
 go_ret;exact⟨_,rfl,I.out,J.out⟩
theorem zqL(W:World):yL 79 #[.int .i64 17] W fun e w' => ∃ O,zmi 113 143 #[.pointer (some ⟨O,0,none⟩)] 3 W e w' /\ w'.cell? ⟨O,0,none⟩=some (.func (.func 120) #[] #[]):=by
 have D:Hid (∀ W,Calls _ _ _ _ _):=fun W=>zce 120 W;have J:Hid (∀ E W,Calls _ _ _ _ _):=fun E W=>zcD 113 143 E 3 W
 go_enter Tryz.func79,Tryz.ntmps79
 go_wp2_with fail
 refine ye (D.out _) ?_;rintro e V ⟨rfl,I,hc⟩;have M:Hid _:=I;have U:Hid _:=hc;clear I hc D
 go_wp2_with fail
 refine ye (J.out _ _) ?_;rintro e V2 ⟨c1,c2,c3,rfl,I,v1,v2,T⟩;have F:Hid _:=I;have Z:Hid _:=And.intro v1 (And.intro v2 T);clear I v1 v2 T J
 go_wp2
 go_ret;exact⟨_,⟨c1,c2,c3,rfl,M.out.trans (F.out.mono M.out.size),Z.out⟩,zab U.out F.out⟩
theorem zqK(W:World):yL 79 #[.int .i64 16] W fun e w' => e=.returned (.func (.func 118) #[] #[])/\Below W.heap.size W w' := by
 go_enter Tryz.func79,Tryz.ntmps79
 go_wp2
 go_ret;exact⟨rfl,yk _ _⟩
theorem zqQ(k:Int)(W:World)(U:k≠9/\k≠10/\k≠12/\k≠13/\k≠21/\k≠16/\k≠17/\k≠18/\k≠19/\k≠20):yL 79 #[.int .i64 k] W fun e w' => e=.returned (.func (.func 124) #[] #[])/\Below W.heap.size W w' := by
 obtain⟨h1,E,F,I,h5,J,M,O,T,D⟩:=U;have z1:(k == 9)=false:=by simp[h1]
 have z2:(k == 10)=false:=by simp[E]
 have z3:(k == 12)=false:=by simp[F]
 have z4:(k == 13)=false:=by simp[I]
 have z5:(k == 21)=false:=by simp[h5]
 have z6:(k == 16)=false:=by simp[J]
 have z7:(k == 17)=false:=by simp[M]
 have z8:(k == 18)=false:=by simp[O]
 have z9:(k == 19)=false:=by simp[T]
 have Z:(k == 20)=false:=by simp[D]
 clear h1 E F I h5 J M O T D
 go_enter Tryz.func79,Tryz.ntmps79
 go_wp2
 go_ret;exact⟨rfl,yk _ _⟩
theorem zjV.mk{O:W0}{d me:Nat}{W:Wl}{E:Int}{L M:List Pt}{s:SD}{V D:World}{F:Option Addr}{J:Nat}(I:SW O d me W s D)(Z:Below V.heap.size V D)(U:E=0->M=L)(T:zbN (SX O.heap.size d s) D F M)(hs:SlA F M.length J):zjV O d me W W E L s.g1 V (.returned (.tuple #[.slice F M.length J,.int .i64 E])) D :=
 ⟨F,J,M,s,rfl,zar.of_below Z,fun h=>by have e:=U h;rw[e] at T hs;exact⟨e,I,T,hs⟩,fun _=>I⟩
theorem zyF(me:Nat)(W:Wl)(x:Ac):PBy 123 me W x W (zaU W.pt (many W) x.n me (zaB W me)) (zhS W.pt x.n):=fun w0 d s V I=>by
 obtain⟨xk,xa,xb,xc,J⟩:=x;have II:Hid (SW w0 d me W s V):=I;have b0:=I.lt;have b1:Hid _:=b0;obtain⟨l0,l1,l2,l3,l4,lf,ll⟩:=zaj I.box;have b9:d<V.heap.size:=ll;have n8:W.fs.length<=8:=I.rt.fs.few;have b3:me<W.fs.length:=I.sf;clear b0;dsimp only;have a6:∀ T,Below V.heap.size V T->∀ b,SX w0.heap.size d s b->b<T.heap.size:=fun T hV b hb=>yx (b1.out b hb) hV.size;have F:=I.big;have D:Hid (∀ T,Below V.heap.size V T->Calls _ _ _ _ _):=fun T hV=>zuw (SX w0.heap.size d s) s.a4 s.c4 W.pt (many W) J me (zaB W me) T (a6 T hV) F.1 F.2 I.dp.pc (I.dp.pt.off (zar.of_below hV));have EP:Hid (zaU W.pt (many W) J me (zaB W me)=0->zhQ W.pt (many W) J me (zaB W me)=zhS W.pt J):=fun h=>yb h;show yL _ #[.pointer (some ⟨d,0,none⟩),.int .i64 (me:Int),.int .i64 (zaB W me),.agg #[.int .i64 xk,.int .i64 xa,.int .i64 xb,.int .i64 xc,.int .i64 J]] V _;obtain⟨n,hn⟩:∃ n,W.fs.length=n:=⟨_,rfl⟩;have HN:Hid (W.fs.length=n):=hn;obtain⟨nt,U⟩:∃ n,W.pt.length=n:=⟨_,rfl⟩;have b5:Hid (W.pt.length=nt):=U;rw[U] at l4 D;rw[hn] at l0 l1 l2 l3 n8 b3;rw[show many W=(n:Int) from by rw[<- hn];rfl] at D EP |-;generalize zaB W me=tn at *;generalize zaU W.pt n J me tn=E at *;generalize zhQ W.pt n J me tn=M at *;generalize zhS W.pt J=L at *;clear hn U I a6 F;have b4:(me:Int)<(n:Int):=by omega
 go_enter Tryz.func123,Tryz.ntmps123
 go_upto_region 1 with fail
 obtain⟨V1,a5,O,y0,y1,y2,y3,y4,sV⟩:=zcx V xk xa xb xc J;rw[a5];clear a5;replace l0:=zab l0 O.out;replace l1:=zab l1 O.out;replace l2:=zab l2 O.out;replace l3:=zab l3 O.out;replace l4:=zab l4 O.out
 go_region_held3 (fun Z=>Z.cell? ⟨d,0,none⟩=some (.slice s.a0 n s.c0)/\Z.cell? ⟨d,4,none⟩=some (.slice s.a4 nt s.c4)/\Z.cell? ⟨V.heap.size,4,none⟩=some (.int .i64 J)) (go_keep) (first|(go_at_call 147;refine ye (D.out V1.drew O.out.drew) ?_;rintro e w3 ⟨va,vc,rfl,a7,a9,a8⟩;have B3:Hid (Below V1.heap.size V1 w3):=(yk _ _).drew.trans a7;have b6:=zab l0 B3.out;have b7:=zab l4 B3.out;have b8:=zab y4 B3.out;have b2:Hid _:=a9;have HP:Hid _:=a8;clear a7 a9 a8))
 have BW:Hid (Below V.heap.size V w3):=O.out.trans (B3.out.mono O.out.size)
 go_wp2
 exact yv (v:=.tuple #[.slice va M.length vc,.int .i64 E]) (by simp[results,Tryz.results123,go_sem]) rfl (zjV.mk (II.out.below BW.out) BW.out EP.out HP.out b2.out)
theorem zyz(me:Nat)(W:Wl)(x:Ac)(hm:zax W.fs x.a=0):PBy 120 me W x W (zkm W.pt (many W) x.n me (zaB W me) x.a (zaB W x.a)) (zhG W.pt x.n x.a (zaB W x.a)):=fun w0 d s V I=>by
 obtain⟨xk,xa,xb,xc,O⟩:=x;have II:Hid (SW w0 d me W s V):=I;have b1:=I.lt;have b3:Hid _:=b1;obtain⟨l0,l1,l2,l3,l4,lf,ll⟩:=zaj I.box;have d4:d<V.heap.size:=ll;have n8:W.fs.length<=8:=I.rt.fs.few;have b5:me<W.fs.length:=I.sf;clear b1;dsimp only;have a6:∀ U,Below V.heap.size V U->∀ b,SX w0.heap.size d s b->b<U.heap.size:=fun U hV b hb=>yx (b3.out b hb) hV.size;have F:=I.big;obtain⟨qa,a9,b6,_⟩:=zdy hm;dsimp only at a9;subst a9;obtain⟨fb,fo,ea,_,ft,fl⟩:=I.fcell b6;rw[ea] at l0;have TA:=zlY W qa;obtain⟨ta,b2⟩:∃ t,(fr W.fs qa).t=t:=⟨_,rfl⟩;rw[b2] at ft TA;clear b2 ea hm;have D:Hid (∀ U,Below V.heap.size V U->Calls _ _ _ _ _):=fun U hV=>ztU (SX w0.heap.size d s) s.a4 s.c4 W.pt (many W) O me (zaB W me) qa ta U (a6 U hV) F.1 F.2 I.dp.pc (I.dp.pt.off (zar.of_below hV));have EP:Hid (zkm W.pt (many W) O me (zaB W me) qa ta=0->zhN W.pt (many W) O me (zaB W me) qa ta=zhG W.pt O qa ta):=fun h=>yb h;rw[TA];show yL _ #[.pointer (some ⟨d,0,none⟩),.int .i64 (me:Int),.int .i64 (zaB W me),.agg #[.int .i64 xk,.int .i64 qa,.int .i64 xb,.int .i64 xc,.int .i64 O]] V _;obtain⟨n,hn⟩:∃ n,W.fs.length=n:=⟨_,rfl⟩;have HN:Hid (W.fs.length=n):=hn;obtain⟨nt,Z⟩:∃ n,W.pt.length=n:=⟨_,rfl⟩;have b8:Hid (W.pt.length=nt):=Z;rw[Z] at l4 D;rw[hn] at l0 l1 l2 l3 n8 b5;rw[show many W=(n:Int) from by rw[<- hn];rfl] at D EP |-;have d6:(qa:Int)<(n:Int):=by omega
 generalize zaB W me=tn at *;generalize zkm W.pt n O me tn qa ta=E at *;generalize zhN W.pt n O me tn qa ta=M at *;generalize zhG W.pt O qa ta=L at *;clear hn Z I a6 F;have b7:(me:Int)<(n:Int):=by omega
 go_enter Tryz.func120,Tryz.ntmps120
 go_upto_region 1 with fail
 obtain⟨V1,a5,T,y0,y1,y2,y3,y4,sV⟩:=zcx V xk qa xb xc O;rw[a5];clear a5;replace l0:=zab l0 T.out;replace l1:=zab l1 T.out;replace l2:=zab l2 T.out;replace l3:=zab l3 T.out;replace l4:=zab l4 T.out;replace ft:=zab ft T.out;have d5:fb<V1.heap.size:=by omega
 go_region_held3 (fun J=>J.cell? ⟨d,0,none⟩=some (.slice (some ⟨fb,fo,none⟩) n s.c0)/\J.cell? ⟨d,4,none⟩=some (.slice s.a4 nt s.c4)/\J.cell? ⟨V.heap.size,1,none⟩=some (.int .i64 qa)/\J.cell? ⟨V.heap.size,4,none⟩=some (.int .i64 O)/\J.cell? ⟨fb,fo+qa*5+3,none⟩=some (.int .i64 ta)) (go_keep) (first|(go_at_call 144;refine ye (D.out V1.drew T.out.drew) ?_;rintro e w3 ⟨va,vc,rfl,a7,b0,a8⟩;have B3:Hid (Below V1.heap.size V1 w3):=(yk _ _).drew.trans a7;have c6:=zab l0 B3.out;have c7:=zab l4 B3.out;have c8:=zab y1 B3.out;have c9:=zab y4 B3.out;have b9:=zab ft B3.out;have b4:Hid _:=b0;have HP:Hid _:=a8;clear a7 b0 a8))
 have BW:Hid (Below V.heap.size V w3):=T.out.trans (B3.out.mono T.out.size)
 go_wp2
 exact yv (v:=.tuple #[.slice va M.length vc,.int .i64 E]) (by simp[results,Tryz.results120,go_sem]) rfl (zjV.mk (II.out.below BW.out) BW.out EP.out HP.out b4.out)
theorem zzS{w E:World}{R:Rl}{m:Nat}(hg:E.rowIs (w.heap.size+1+1) 55 ((m+1)*2) (mkF R m (w.heap.size+1+1+1) m))(hh:E.rowIs (w.heap.size+1+1+1) 3 m (kdF m)):zaF E (some ⟨w.heap.size+1+1,0,none⟩) (zaW R m):=fun i hi=>by
 rw[zcF] at hi;refine⟨w.heap.size+1+1,0,rfl,?_⟩;rw[yz]
 match i,hi with
 | 0,_ =>
  rw[ziG];refine⟨?_,some ⟨w.heap.size+1+1+1,0,none⟩,m,?_,fun j F=>?_⟩
  ·rw[hg.cell (by omega)];rfl
  ·rw[hg.cell (by omega)];show some (Value.slice _ m m)=some (.slice _ (List.map _ (List.range m)).length m);rw[List.length_map,List.length_range]
  ·have D:j<m:=(by simpa using F);refine⟨_,0,rfl,?_⟩;rw[yz,hh.cell D];unfold kdF;rw[yb D];simp[List.getD_eq_getElem?_getD,D]
 | i+1,hi =>
  rw[ziH (by omega)];refine⟨?_,none,0,?_,fun j F=>absurd F (yw _)⟩
  ·rw[hg.cell (by omega)];unfold mkF;rw[ya (by omega),ya (by omega),yb (by omega),show (i+1)*2 / 2-1=i by omega,yb (by omega)]
  ·rw[hg.cell (by omega)];unfold mkF;rw[ya (by omega),ya (by omega),ya (by omega)];rfl
theorem MkI.cls2{w:World}{A:RA}{R:Rl}{m:Nat}{V:World}(I:MkI w A R m m V)(E:World)(D:zar (fun b=>b=w.heap.size+1) V E):St (fun b=>b<w.heap.size) (fun V=>zaF V (some ⟨w.heap.size+1+1,0,none⟩) (zaW R m)) E:=fun O F=>by
 have J:=I.g.lt;have M:=I.h.lt;exact zzS (I.g.of_block ((F.block _ (yx J D.size) (by show ¬ w.heap.size+1+1<w.heap.size;omega)).trans (D.block _ J (by show ¬ w.heap.size+1+1=w.heap.size+1;omega)))) (I.h.of_block ((F.block _ (yx M D.size) (by show ¬ w.heap.size+1+1+1<w.heap.size;omega)).trans (D.block _ M (by show ¬ w.heap.size+1+1+1=w.heap.size+1;omega))))
def zhW(w:World)(R:Rl)(n:Int)(e:Ending)(V:World):Prop:=∃ (ga:Option Addr) (gc:Nat),e=.returned (.tuple #[.agg #[.slice ga (mkG R n).length gc],.int .i64 (zbk R n)])/\Below w.heap.size w V/\St (fun b=>b<w.heap.size) (fun V=>zaF V ga (mkG R n)) V
theorem zhW.no{w V:World}{R:Rl}{n E:Int}(h:zbk R n=E)(D:E≠0)(F:Below w.heap.size w V):zhW w R n (.returned (.tuple #[.agg #[.slice none 0 0],.int .i64 E])) V:=by
 have e:mkG R n=[]:=ya (by rw[h];exact D);refine⟨none,0,by rw[e,h];rfl,F,?_⟩;rw[e];exact fun I _ i hi=>absurd hi (yw _)
theorem zhW.ok{w V:World}{R:Rl}{m:Nat}{A:RA}(D:m<=8)(I:MkI w A R m m V):zhW w R m (.returned (.tuple #[.agg #[.slice (some ⟨w.heap.size+1+1,0,none⟩) (m+1) (m+1)],.int .i64 0])) (V.setCell ⟨w.heap.size+1,0,none⟩ (.slice (some ⟨w.heap.size+1+1,0,none⟩) (m+1) (m+1))):=by
 have h:=ztx D I.ok;have e:mkG R m=zaW R m:=by unfold mkG;rw[yb h,yi]
 refine⟨_,m+1,by rw[e,h,zcF],I.bel.setCell (by simp) _,?_⟩;rw[e];exact I.cls2 _ (zar.set (X:=fun b=>b=w.heap.size+1) V _ rfl)
theorem MkI.read{w:World}{A:RA}{R:Rl}{m k:Nat}{V:World}(I:MkI w A R m k V)(M:k<m)(E:R.hs.length=16)(J:m<=8)(hh:zaw V A.a1 R.hs):∃ b o,A.a1=some ⟨b,o,none⟩/\V.cell? ⟨b,o+k*2,none⟩=some (.int .i64 (hd R k).1)/\V.cell? ⟨b,o+k*2+1,none⟩=some (.int .i64 (hd R k).2)/\b<V.heap.size:=by
 obtain⟨b,o,e,h1,F⟩:=hh k (by omega);have D:hd R (k:Int)=R.hs.getD k (0,0):=by unfold hd;rw[yi]
 rw[D];exact⟨b,o,e,h1,F,yd _ _ h1⟩
theorem zwt{w D O:World}{A:RA}{R:Rl}{m:Nat}(xr:D.heap[w.heap.size]?=some (.cells #[.slice A.a0 R.s.length A.c0,.slice A.a1 R.hs.length A.c1,.slice A.a2 R.i.length A.c2,.slice A.a3 R.t.length A.c3] 50 (0,0)))(xz:D.heap[w.heap.size+1]?=some (.cells #[.slice none 0 0] 47 (0,0)))(sz:D.heap.size=w.heap.size+1+1+1)(b3:Below w.heap.size w D)(rg:D.rowIs (w.heap.size+1+1) 55 ((m+1)*2) (fun j=>(madeCells #[.int .i64 0,.slice none 0 0] ((m+1)*2))[j]!))
  (h4:O=((D.setCell ⟨w.heap.size+1+1,0,none⟩ (.int .i64 (m:Int))).setCell ⟨w.heap.size+1+1,1,none⟩ (.slice (some ⟨D.heap.size,0,none⟩) m m)).alloc (.cells (madeCells #[.int .i64 0] m) 3)):MkI w A R m 0 O:=by
 subst h4;obtain⟨V,M⟩:∃ V,(D.setCell ⟨w.heap.size+1+1,0,none⟩ (.int .i64 (m:Int))).setCell ⟨w.heap.size+1+1,1,none⟩ (.slice (some ⟨D.heap.size,0,none⟩) m m)=V:=⟨_,rfl⟩;have hs:V.heap.size=w.heap.size+1+1+1:=by rw[<- M];simpa using sz
 have T:∀ b,b≠w.heap.size+1+1->V.heap[b]?=D.heap[b]?:=fun b h=>by rw[<- M,ys _ _ _ _ h,ys _ _ _ _ h]
 have E:=(rg.set 0 (.int .i64 (m:Int))).set 1 (.slice (some ⟨D.heap.size,0,none⟩) m m);rw[M] at E |-;have F:=zaa V (.cells (madeCells #[.int .i64 0] m) 3);have Z:=World.rowIs_made V (.int .i64 0) m 3;rw[hs] at Z;refine⟨?_,zav ((T _ (by omega)).trans xr) F,zav ((T _ (by omega)).trans xz) F,yD (E.of_block (F.block _ E.lt)) (fun j U=>?_),yD Z (fun j U=>?_),fun i hi=>absurd hi (yw _)⟩
 ·refine Below.trans ?_ (F.mono (by omega));rw[<- M];exact(b3.setCell (by simp;omega) _).setCell (by simp;omega) _
 ·unfold mkF;by_cases J:j=1
  ·rw[yb J,ya (by omega),yb J,sz]
  ·rw[ya J];by_cases I:j=0
   ·rw[yb I,yb I]
   ·rw[ya I,ya I,ya J];have e2:(madeCells #[Value.int .i64 0,.slice none 0 0] ((m+1)*2))[j]! =(#[Value.int .i64 0,.slice none 0 0]:Array Value)[j % 2]!:=(by simp[madeCells,U]);rw[e2];by_cases e3:j % 2=0
    ·rw[e3,yb rfl,ya (yw _)];rfl
    ·rw[show j % 2=1 by omega,ya (by decide)];rfl
 ·unfold kdF;rw[ya (yw _)]
theorem zna(A:RA)(R:Rl)(n:Int)(w:World)(hR:zaE R=0)(hW:zdd w A R):yL 139 #[rlV A R,.int .i64 n] w (zhW w R n):=by
 obtain⟨wf,hl,_,_⟩:=zay hR;by_cases hn:0<=n/\n<=8;rotate_left
 ·have DW:Hid (∀ V,Calls _ _ _ _ _):=fun V=>zaR n 0 8 V;rw[yE hn] at DW;have HE:Hid (zbk R n=2):=zty hn;dsimp only[rlV];clear hn;generalize R.s.length=r0 at *;generalize R.hs.length=r1 at *;generalize R.i.length=r2 at *;generalize R.t.length=r3 at *
  go_enter Tryz.func139,Tryz.ntmps139
  go_wp2_with (go_at_call 66;refine(DW.out _).mono ?_;rintro e w3 ⟨rfl,b1⟩;subst b1)
  exact yv (v:=.tuple #[.agg #[.slice none 0 0],.int .i64 2]) (by simp[results,Tryz.results139,go_sem]) rfl (zhW.no HE.out (by decide) (zam _ _ _))
 ·obtain⟨m,rfl⟩:∃ m:Nat,n=m:=⟨n.toNat,by omega⟩;have h8:m<=8:=by omega
  have DW:Hid (∀ V,Calls _ _ _ _ _):=fun V=>zaR (m:Int) 0 8 V;rw[yF hn] at DW;have hq:IntKind.i64.wrap (1+(m:Int))=((m+1:Nat):Int):=by rw[yH];omega
  have b4:=zxq (m+1) (by omega);have e1:((m+1:Nat):Int)=(m:Int)+1:=by omega
  rw[e1] at b4 hq;clear e1;have d8:=zmY m (by omega);obtain⟨a0,a1,a2,a3,c0,c1,c2,c3⟩:=A;have HW:Hid (zdd w ⟨a0,a1,a2,a3,c0,c1,c2,c3⟩ R):=hW;have HL:Hid (R.hs.length=16):=hl;have b8:Hid (WF R.s):=wf;dsimp only[rlV];rw[hl];clear hn hR hW wf hl;obtain⟨r0,a8⟩:∃ n,R.s.length=n:=⟨_,rfl⟩;have b3:Hid (R.s.length=r0):=a8;rw[a8];obtain⟨r2,a9⟩:∃ n,R.i.length=n:=⟨_,rfl⟩;have b6:Hid (R.i.length=r2):=a9;rw[a9];obtain⟨r3,b0⟩:∃ n,R.t.length=n:=⟨_,rfl⟩;have b7:Hid (R.t.length=r3):=b0;rw[b0];clear a8 a9 b0
  go_enter Tryz.func139,Tryz.ntmps139
  go_upto_region 4 with (go_at_call 66;refine(DW.out _).mono ?_;rintro e w3 ⟨rfl,b1⟩;subst b1)
  obtain⟨T,F⟩:∃ T,((w.alloc (.cells #[.slice a0 r0 c0,.slice a1 16 c1,.slice a2 r2 c2,.slice a3 r3 c3] 50)).alloc (.cells #[.slice none 0 0] 47)).alloc (.cells (madeCells #[.int .i64 0,.slice none 0 0] ((m+1)*2)) 55)=T:=⟨_,rfl⟩;have SZ:Hid (T.heap.size=w.heap.size+1+1+1):=by show _=_;rw[<- F];simp
  have RG:Hid (T.rowIs (w.heap.size+1+1) 55 ((m+1)*2) (fun j=>(madeCells #[.int .i64 0,.slice none 0 0] ((m+1)*2))[j]!)):=by
   rw[<- F];have h:=World.rowIs_alloc ((w.alloc (.cells #[.slice a0 r0 c0,.slice a1 16 c1,.slice a2 r2 c2,.slice a3 r3 c3] 50)).alloc (.cells #[.slice none 0 0] 47)) (madeCells #[.int .i64 0,.slice none 0 0] ((m+1)*2)) 55 (fun j=>(madeCells #[.int .i64 0,.slice none 0 0] ((m+1)*2))[j]!) (fun i hi=>by simp[hi]);rw[size_madeCells,yr,yr] at h;exact h
  have XR:Hid (T.heap[w.heap.size]?=some (.cells #[.slice a0 r0 c0,.slice a1 16 c1,.slice a2 r2 c2,.slice a3 r3 c3] 50 (0,0))):=by rw[<- F];exact zav (zav (zcd _ _ _ _ _ _) (zaa _ _)) (zaa _ _)
  have XZ:Hid (T.heap[w.heap.size+1]?=some (.cells #[.slice none 0 0] 47 (0,0))):=by
   rw[<- F];have h:=yK (w.alloc (.cells #[.slice a0 r0 c0,.slice a1 16 c1,.slice a2 r2 c2,.slice a3 r3 c3] 50)) (.cells #[.slice none 0 0] 47);rw[yr] at h;exact zav h (zaa _ _)
  have B3:Hid (Below w.heap.size w T):=by rw[<- F];exact(zam _ _ _).alloc (by simp;omega) _
  rw[F];clear F;have g0:=RG.out.cell (i:=0) (by omega);have g1:=RG.out.cell (i:=1) (by omega);have gf:=fun o=>RG.out.frozen o;have gl:w.heap.size+1+1<T.heap.size:=RG.out.lt
  go_upto_region 5 with fail
  obtain⟨V4,a7⟩:∃ V4,((T.setCell ⟨w.heap.size+1+1,0,none⟩ (.int .i64 (m:Int))).setCell ⟨w.heap.size+1+1,1,none⟩ (.slice (some ⟨T.heap.size,0,none⟩) m m)).alloc (.cells (madeCells #[.int .i64 0] m) 3)=V4:=⟨_,rfl⟩;have I0:Hid (MkI w ⟨a0,a1,a2,a3,c0,c1,c2,c3⟩ R m 0 V4):=zwt (by rw[b3.out,HL.out,b6.out,b7.out];exact XR.out) XZ.out SZ.out B3.out RG.out a7.symm;rw[a7,SZ.out];clear a7 g0 g1 gf gl XR XZ B3 RG SZ T DW
  go_wp2_with fail
  go_loopg [24] m (fun q s24 wr=>∃ k:Nat,k<=m/\m-k<=q/\s24=.int .i64 k/\Hid (MkI w ⟨a0,a1,a2,a3,c0,c1,c2,c3⟩ R m k wr))
  case atStart=>exact⟨0,by omega,by omega,rfl,I0⟩
  case round =>
   obtain⟨k,hk,hg,rfl,O⟩:=hrel;clear I0;by_cases a5:k<m
   ·have d7:(k:Int)<(m:Int):=(by omega);have d6:(k:Int)<16:=(by omega);have hw:=HW.out.below O.out.bel;obtain⟨hb,ho,rfl,u0,u1,ul⟩:=O.out.read a5 HL.out h8 hw.2.1;have D:Hid (∀ V,Below wr.heap.size wr V->Calls _ _ _ _ _):=fun V hV=>zeC R.s (hd R (k:Int)).1 (hd R (k:Int)).2 a0 c0 V b8.out (hw.1.below hV);have KO:Hid (∀ V,Below wr.heap.size wr V->zaC R.s (hd R (k:Int)).1 (hd R (k:Int)).2=0->MkI w ⟨a0,some ⟨hb,ho,none⟩,a2,a3,c0,c1,c2,c3⟩ R m (k+1) _):=fun V hV h=>(O.out.below hV).step a5 h;have KN:Hid (zaC R.s (hd R (k:Int)).1 (hd R (k:Int)).2≠0->zbk R m=zaC R.s (hd R (k:Int)).1 (hd R (k:Int)).2):=fun h=>zwq h8 a5 O.out.ok h;clear hw;generalize hd R (k:Int)=hh at *;obtain⟨P,U⟩:=hh;dsimp only at u0 u1 D KO KN;obtain⟨E,hE⟩:∃ E,zaC R.s P U=E:=⟨_,rfl⟩;rw[hE] at D KO KN;clear hE;obtain⟨l0,l1,l2,l3,lf,ll⟩:=zai O.out.r;dsimp only at l0 l1 l2 l3;rw[b3.out] at D l0;rw[HL.out] at l1;have s1:w.heap.size+1+1+1<wr.heap.size:=O.out.h.lt;have s0:w.heap.size<wr.heap.size:=ll
    go_upto_region 8 with fail
    have n1:¬ wr.heap.size=w.heap.size:=(by omega);have d4:¬ w.heap.size=wr.heap.size:=(by omega);have n2:¬ wr.heap.size=hb:=(by omega);have d5:¬ hb=wr.heap.size:=by omega
    go_cut [8,9,24] from 24 to 57 (fun s8 s9 s24 wx=>∃ (b:Nat) (mm pp:Int),s8=.pointer (some ⟨b,0,none⟩)/\s9=.int .i64 E/\s24=.int .i64 k/\Hid (Below wr.heap.size wr wx)/\wx.cell? ⟨b,3,none⟩=some (.int .i64 mm)/\wx.cell? ⟨b,4,none⟩=some (.int .i64 pp)/\wr.heap.size<=b/\Hid (E=0->mm=(nd R.s P.toNat).m/\pp=(nd R.s P.toNat).p))
    case first =>
     go_region_held3 (fun a6=>a6.cell? ⟨w.heap.size,0,none⟩=some (.slice a0 r0 c0)/\a6.cell? ⟨w.heap.size,1,none⟩=some (.slice (some ⟨hb,ho,none⟩) 16 c1)/\a6.cell? ⟨hb,ho+k*2,none⟩=some (.int .i64 P)/\a6.cell? ⟨hb,ho+k*2+1,none⟩=some (.int .i64 U)) (go_keep) (first|(go_at_call 14;refine ye (D.out wr.drew (yk _ _).drew) ?_;rintro e w5 ⟨nx,ka,kl,kc,rfl,I,Z,b2⟩;have M:Hid (Below wr.heap.size wr w5):=(yk _ _).drew.trans I;have HX:Hid _:=Z;have b9:=zab l0 M.out;have c6:=zab l1 M.out;have c7:=zab u0 M.out;have c8:=zab u1 M.out;clear I Z b2)|(go_at_call 14;refine ye (D.out (wr.alloc (.cells #[.bool false,.int .i64 0,.int .i64 0,.int .i64 0,.int .i64 0,.slice none 0 0,.int .i64 0,.bool false] 57)).drew (zaa wr _).drew) ?_;rintro e w5 ⟨nx,ka,kl,kc,rfl,I,Z,b2⟩;have M:Hid (Below wr.heap.size wr w5):=(zaa wr _).drew.trans (I.mono (by simp));have HX:Hid _:=Z;have b9:=zab l0 M.out;have c6:=zab l1 M.out;have c7:=zab u0 M.out;have c8:=zab u1 M.out;have X3:Hid (w5.heap[wr.heap.size]?=some (.cells #[.bool false,.int .i64 0,.int .i64 0,.int .i64 0,.int .i64 0,.slice none 0 0,.int .i64 0,.bool false] 57 (0,0))):=zav (W:=(wr.alloc (.cells #[.bool false,.int .i64 0,.int .i64 0,.int .i64 0,.int .i64 0,.slice none 0 0,.int .i64 0,.bool false] 57)).drew) (yK wr _) I;obtain⟨x0,x1,x2,x3,x4,x5,x6,x7,xf,xl⟩:=zdk X3.out;clear I Z b2))
     ·go_wp2_with fail
      go_meet
      case rel =>
       have r:=zuo nx (.slice ka kl kc) 57 (yk wr.heap.size wr) M.out;exact⟨_,_,_,rfl,rfl,rfl,r.1,r.2.1,r.2.2.1,r.2.2.2,fun h=>by rw[HX.out h];exact⟨rfl,rfl⟩⟩
     ·go_wp2_with fail
      go_meet
      case rel =>
       have r:=zup nx (.slice ka kl kc) (yk wr.heap.size wr) M.out X3.out;exact⟨_,_,_,rfl,rfl,rfl,r.1,r.2.1,r.2.2.1,r.2.2.2,fun h=>by rw[HX.out h];exact⟨rfl,rfl⟩⟩
    case rest =>
     obtain⟨b,mm,pp,rfl,rfl,rfl,HB,hm,c9,e2,HM⟩:=hcut;have J:Hid _:=O.out.below HB.out;have bl:b<wc.heap.size:=yd _ _ hm;clear l0 l1 l2 l3 lf ll u0 u1 ul D n1 d4 n2 d5 c9;by_cases hE:E=0
     ·subst hE;obtain⟨rfl,_⟩:=HM.out rfl;have KS:Hid _:=KO.out wc HB.out rfl;have g1:=J.out.g.cell (i:=1) (by omega);have g2:=J.out.g.cell (i:=(k+1)*2) (by omega);have g3:=J.out.g.cell (i:=(k+1)*2+1) (by omega);have gf:=fun o=>J.out.g.frozen o;have gl:=J.out.g.lt;have h1:=J.out.h.cell (i:=k) a5;have hf:=fun o=>J.out.h.frozen o;have hl:=J.out.h.lt;have e1:mkF R m (w.heap.size+1+1+1) k 1=.slice (some ⟨w.heap.size+1+1+1,0,none⟩) m m:=rfl;rw[e1] at g1;generalize mkF R m (w.heap.size+1+1+1) k ((k+1)*2)=v2 at g2;generalize mkF R m (w.heap.size+1+1+1) k ((k+1)*2+1)=v3 at g3;generalize kdF k k=v1 at h1;clear e1;have e5:¬ b=w.heap.size+1+1:=(by omega);have e6:¬ b=w.heap.size+1+1+1:=(by omega);have d9:¬ w.heap.size+1+1=b:=(by omega);have e0:¬ w.heap.size+1+1+1=b:=(by omega);have e3:((k:Int)+1)<((m:Int)+1):=(by omega);have e4:IntKind.i64.wrap ((k:Int)+1)=(k:Int)+1:=by rw[yH];omega
      go_wp2_with fail
      go_roundg (m-(k+1))
      case measure=>omega
      case rel=>exact⟨k+1,by omega,by omega,by go_num,KS⟩
     ·have hz:(E == 0)=false:=(by simp[hE]);have b5:Hid _:=KN.out hE;obtain⟨z0,zf,zl⟩:wc.cell? ⟨w.heap.size+1,0,none⟩=some (.slice none 0 0)/\(∀ o,wc.frozen? ⟨w.heap.size+1,o,none⟩=false)/\w.heap.size+1<wc.heap.size:=⟨zaI J.out.z,fun o=>zaY J.out.z,zau J.out.z⟩
      go_wp2
      exact yv (v:=.tuple #[.agg #[.slice none 0 0],.int .i64 E]) (by simp[results,Tryz.results139,go_sem,z0]) rfl (zhW.no b5.out hE (J.out.bel.setCell (by simp) _))
   ·obtain rfl:k=m:=by omega
    obtain⟨z0,zf,zl⟩:wr.cell? ⟨w.heap.size+1,0,none⟩=some (.slice none 0 0)/\(∀ o,wr.frozen? ⟨w.heap.size+1,o,none⟩=false)/\w.heap.size+1<wr.heap.size:=⟨zaI O.out.z,fun o=>zaY O.out.z,zau O.out.z⟩
    go_wp2
    exact yv (v:=.tuple #[.agg #[.slice (some ⟨w.heap.size+1+1,0,none⟩) (k+1) (k+1)],.int .i64 0]) (by simp[results,Tryz.results139,go_sem,z0]) rfl (zhW.ok h8 O.out)
theorem zxj{a b:Int}:zao [a,b]=if a=0 then b else a:=by
 show (if a=0 then (if b=0 then 0 else b) else a)=_;by_cases h:b=0
 ·rw[yb h,h]
 ·rw[ya h]
theorem zrj(me:Nat)(W:Wl)(x:Ac)(hm:zax W.fs x.a=0)(q:Ws)(QI:QIs q (zao [if isH x.b then 0 else 4,zaC (rlm W x.a.toNat).s (hd (rlm W x.a.toNat) x.b).1 (hd (rlm W x.a.toNat) x.b).2]) W W (nd (rlm W x.a.toNat).s (hd (rlm W x.a.toNat) x.b).1.toNat).m):zhn 115 #[] (fun _=>True) me W x q:=fun w0 d s V I _=>by
 rw[zxj] at QI;obtain⟨xk,xa,xb,xc,xn⟩:=x;have II:Hid (SW w0 d me W s V):=I;have b6:=I.lt;have c9:Hid _:=b6;obtain⟨l0,l1,l2,l3,l4,lf,ll⟩:=zaj I.box;have d7:d<V.heap.size:=ll;have n8:W.fs.length<=8:=I.rt.fs.few;have c6:me<W.fs.length:=I.sf;clear b6;obtain⟨qa,b4,a5,_⟩:=zdy hm;dsimp only at b4 QI;subst b4;rw[yi] at QI;obtain⟨wf,hl,_,_⟩:=zay (I.rt.rs qa a5);obtain⟨k0,k1,k2,k3,kf,kl⟩:=I.rcells a5;have hw:=I.rat a5;have HW:Hid (zdd V (s.R qa) (rlm W qa)):=hw;have D:Hid (∀ V2 P U,Below V.heap.size V V2->Calls _ _ _ _ _):=fun V2 P U hV=>zeC (rlm W qa).s P U (s.R qa).a0 (s.R qa).c0 V2 wf (hw.1.below hV)
 have HH:Hid (∀ p:Nat,p<16->∃ b o,(s.R qa).a1=some ⟨b,o,none⟩/\V.cell? ⟨b,o+p*2,none⟩=some (.int .i64 (hd (rlm W qa) p).1)/\V.cell? ⟨b,o+p*2+1,none⟩=some (.int .i64 (hd (rlm W qa) p).2)/\b<V.heap.size):=fun p hp=>by
  obtain⟨b,o,e,h1,h2⟩:=hw.2.1 p (by omega);have e2:hd (rlm W qa) (p:Int)=(rlm W qa).hs.getD p (0,0):=by unfold hd;rw[yi]
  rw[e2];exact⟨b,o,e,h1,h2,yd _ _ h1⟩
 have DW:Hid (∀ V2,Calls _ _ _ _ _):=fun V2=>zaR xb 0 15 V2;rw[hl] at k1;clear hw hm wf hl;show yL _ #[.pointer (some ⟨d,0,none⟩),.int .i64 (me:Int),.agg #[.int .i64 xk,.int .i64 qa,.int .i64 xb,.int .i64 xc,.int .i64 xn]] V _;obtain⟨n,hn⟩:∃ n,W.fs.length=n:=⟨_,rfl⟩;have HN:Hid (W.fs.length=n):=hn;obtain⟨nt,b0⟩:∃ n,W.pt.length=n:=⟨_,rfl⟩;have c8:Hid (W.pt.length=nt):=b0;rw[b0] at l4;rw[hn] at l0 l1 l2 l3 n8 c6 a5;clear hn b0 I;have c7:(me:Int)<(n:Int):=by omega
 have e0:(qa:Int)<(n:Int):=by omega
 obtain⟨r0,b5⟩:∃ n,(rlm W qa).s.length=n:=⟨_,rfl⟩;rw[b5] at D k0;clear b5;generalize (rlm W qa).i.length=r2 at *;generalize (rlm W qa).t.length=r3 at *;obtain⟨qe,qw,qo⟩:=q;obtain⟨a6,Q0,Q1⟩:=QI;dsimp only at a6 Q0 Q1 |-;rw[<- a6] at Q0 Q1;have Q0:Hid _:=Q0;have Q1:Hid _:=Q1;have a8:Hid _:=a6;clear a6
 go_enter Tryz.func115,Tryz.ntmps115
 go_upto_region 1 with fail
 obtain⟨M,b3,O,y0,y1,y2,y3,y4,sV⟩:=zcx V xk qa xb xc xn;rw[b3];clear b3;replace l0:=zab l0 O.out;replace l1:=zab l1 O.out;replace l2:=zab l2 O.out;replace l3:=zab l3 O.out;replace l4:=zab l4 O.out;replace k0:=zab k0 O.out;replace k1:=zab k1 O.out;replace k2:=zab k2 O.out;replace k3:=zab k3 O.out;have n0:¬ M.heap.size=d:=by omega
 have o0:¬ d=M.heap.size:=by omega
 have n1:¬ M.heap.size=s.g1:=by omega
 have o1:¬ s.g1=M.heap.size:=by omega
 have n2:¬ M.heap.size=V.heap.size:=by omega
 have o2:¬ V.heap.size=M.heap.size:=by omega
 have e3:d<M.heap.size:=by omega
 have e4:s.g1<M.heap.size:=by omega
 go_cut [8] (fun s8 wx=>∃ (b:Nat),s8=.pointer (some ⟨b,0,none⟩)/\Hid (Below M.heap.size M wx)/\Hid (wx.heap[b]?=some (.cells #[.slice (s.R qa).a0 r0 (s.R qa).c0,.slice (s.R qa).a1 16 (s.R qa).c1,.slice (s.R qa).a2 r2 (s.R qa).c2,.slice (s.R qa).a3 r3 (s.R qa).c3] 50 (0,0)))/\M.heap.size<=b)
 case first =>
  go_region
  go_wp2_with fail
  go_meet
  case rel=>exact⟨_,rfl,(zaa M _).drew,zcd _ _ _ _ _ _,yj _⟩
 case rest =>
  obtain⟨b,rfl,HB,HX,d5⟩:=hcut;have BW:Hid (Below V.heap.size V wc):=O.out.trans (HB.out.mono O.out.size);have I2:Hid _:=II.out.below BW.out;obtain⟨m0,m1,m2,m3,ml⟩:=zxI HX.out;have a7:=zab y2 HB.out;have e8:V.heap.size<wc.heap.size:=yd _ _ a7;clear l0 l1 l2 l3 l4 k0 k1 k2 k3 n0 o0 n1 o1 n2 o2;by_cases J:isH xb
  ·obtain⟨p,rfl,hp⟩:=zmh J;have hq:=a8.out;rw[show (if isH (p:Int) then (0:Int) else 4)=0 from yb J,yb rfl] at hq;rw[show decide (0<=(p:Int)/\(p:Int)<=15)=true from yF J] at DW;clear a8;obtain⟨hb,ho,ea,u0,u1,ul⟩:=HH.out p hp;replace u0:=zab u0 BW.out;replace u1:=zab u1 BW.out;rw[ea] at m1;clear ea HH;generalize hd (rlm W qa) (p:Int)=hh at *;obtain⟨P,U⟩:=hh;dsimp only at u0 u1 hq Q0 Q1;have DD:Hid (∀ V2,Below wc.heap.size wc V2->Calls _ _ _ _ _):=fun V2 hV=>D.out V2 P U (BW.out.trans (hV.mono BW.out.size));clear D;rw[<- hq] at DD;have HQ:Hid _:=hq;clear hq J;have d8:(p:Int)<16:=(by omega);have e1:hb<wc.heap.size:=yd _ _ u0
   go_upto_region 4 with (go_at_call 66;refine(DW.out _).mono ?_;rintro e w3 ⟨rfl,b1⟩;subst b1)
   have n1:¬ w3.heap.size=b:=(by omega);have e5:¬ b=w3.heap.size:=(by omega);have n2:¬ w3.heap.size=hb:=(by omega);have e6:¬ hb=w3.heap.size:=(by omega);have n3:¬ w3.heap.size=V.heap.size:=(by omega);have e7:¬ V.heap.size=w3.heap.size:=by omega
   go_cut [9,10] (fun s9 s10 wx=>∃ (c:Nat) (mm pp:Int),s9=.pointer (some ⟨c,0,none⟩)/\s10=.int .i64 qe/\Hid (Below w3.heap.size w3 wx)/\wx.cell? ⟨c,3,none⟩=some (.int .i64 mm)/\wx.cell? ⟨c,4,none⟩=some (.int .i64 pp)/\w3.heap.size<=c/\Hid (qe=0->mm=(nd (rlm W qa).s P.toNat).m/\pp=(nd (rlm W qa).s P.toNat).p))
   case first =>
    go_region_held3 (fun Z=>Z.cell? ⟨b,0,none⟩=some (.slice (s.R qa).a0 r0 (s.R qa).c0)/\Z.cell? ⟨b,1,none⟩=some (.slice (some ⟨hb,ho,none⟩) 16 (s.R qa).c1)/\Z.cell? ⟨V.heap.size,2,none⟩=some (.int .i64 p)/\Z.cell? ⟨hb,ho+p*2,none⟩=some (.int .i64 P)/\Z.cell? ⟨hb,ho+p*2+1,none⟩=some (.int .i64 U)) (go_keep) (first|(go_at_call 14;refine ye (DD.out w3.drew (yk _ _).drew) ?_;rintro e w5 ⟨nx,ka,kl,kc,rfl,F,T,b2⟩;have E:Hid (Below w3.heap.size w3 w5):=(yk _ _).drew.trans F;have a9:Hid _:=T;have g0:=zab m0 E.out;have g1:=zab m1 E.out;have gy:=zab a7 E.out;have b8:=zab u0 E.out;have b9:=zab u1 E.out;clear F T b2)|(go_at_call 14;refine ye (DD.out (w3.alloc (.cells #[.bool false,.int .i64 0,.int .i64 0,.int .i64 0,.int .i64 0,.slice none 0 0,.int .i64 0,.bool false] 57)).drew (zaa w3 _).drew) ?_;rintro e w5 ⟨nx,ka,kl,kc,rfl,F,T,b2⟩;have E:Hid (Below w3.heap.size w3 w5):=(zaa w3 _).drew.trans (F.mono (by simp));have a9:Hid _:=T;have g0:=zab m0 E.out;have g1:=zab m1 E.out;have gy:=zab a7 E.out;have b8:=zab u0 E.out;have b9:=zab u1 E.out;have X3:Hid (w5.heap[w3.heap.size]?=some (.cells #[.bool false,.int .i64 0,.int .i64 0,.int .i64 0,.int .i64 0,.slice none 0 0,.int .i64 0,.bool false] 57 (0,0))):=zav (W:=(w3.alloc (.cells #[.bool false,.int .i64 0,.int .i64 0,.int .i64 0,.int .i64 0,.slice none 0 0,.int .i64 0,.bool false] 57)).drew) (yK w3 _) F;obtain⟨x0,x1,x2,x3,x4,x5,x6,x7,xf,xl⟩:=zdk X3.out;clear F T b2))
    ·go_wp2_with fail
     go_meet
     case rel =>
      have r:=zuo nx (.slice ka kl kc) 57 (yk w3.heap.size w3) E.out;exact⟨_,_,_,rfl,rfl,r.1,r.2.1,r.2.2.1,r.2.2.2,fun h=>by rw[a9.out h];exact⟨rfl,rfl⟩⟩
    ·go_wp2_with fail
     go_meet
     case rel =>
      have r:=zup nx (.slice ka kl kc) (yk w3.heap.size w3) E.out X3.out;exact⟨_,_,_,rfl,rfl,r.1,r.2.1,r.2.2.1,r.2.2.2,fun h=>by rw[a9.out h];exact⟨rfl,rfl⟩⟩
   case rest =>
    obtain⟨c,mm,pp,rfl,rfl,b7,hm,d9,d6,HM⟩:=hcut;have I4:Hid _:=I2.out.below b7.out;have d4:c<wc.heap.size:=yd _ _ hm;clear m0 m1 m2 m3 u0 u1 a7
    go_wp2
    refine yv (v:=.tuple #[.int .i64 mm,.int .i64 qe]) (by simp[results,Tryz.results115,go_sem]) rfl ?_;by_cases hE:qe=0
    ·obtain⟨h1,h2⟩:=Hid.out Q0 hE;subst hE;rw[(HM.out rfl).1,h1,h2];exact zdM.ok I4.out
    ·rw[Hid.out Q1 hE];exact zdM.no I4.out hE
  ·have hq:=a8.out;rw[show (if isH xb then (0:Int) else 4)=4 from ya J,ya (by decide)] at hq;rw[show decide (0<=xb/\xb<=15)=false from yE J] at DW;subst hq;obtain rfl:=Hid.out Q1 (by decide);clear D HH
   go_wp2_with (go_at_call 66;refine(DW.out _).mono ?_;rintro e w3 ⟨rfl,b1⟩;subst b1)
   exact yv (v:=.tuple #[.int .i64 0,.int .i64 4]) (by simp[results,Tryz.results115,go_sem]) rfl (zdM.no I2.out (by decide))
theorem zmD{l:List Int}:zao (0 :: l)=zao l:=yb rfl
theorem zph{a:Int}{l:List Int}(h:a≠0):zao (a :: l)=a:=ya h
theorem zln(A:WA)(W:Wl)(k:Int)(st:Bool)(w:World)(H:zan W)(hW:zgb w A W):yL 38 #[wlV A W,.agg #[.int .i64 k,.bool st]] w fun e w' => e=.returned (.int .i64 (zao [zax W.fs k,if bits .and .i64 (ziu W k.toNat) 1=0 then 7 else 0,if 4760<(rlm W k.toNat).t.length then 1 else 0,if st=false/\(que W k.toNat).length=0 then 8 else 0]))/\Below w.heap.size w w' := by
 obtain⟨a0,a1,a2,a3,a4,c0,c1,c2,c3,c4⟩:=A;have n8:W.fs.length<=8:=H.fs.few;have lr:=H.lr;have lq:=H.lq;have lp:=H.lp;have D:Hid (∀ V2,Below w.heap.size w V2->Calls _ _ _ _ _):=fun V2 hV=>zcz a0 c0 W.fs k V2 (by omega) (hW.fs.below hV)
 have HF:Hid (∀ i:Nat,i<W.fs.length->∃ b o,a0=some ⟨b,o,none⟩/\w.cell? ⟨b,o+i*5+2,none⟩=some (.int .i64 (ziu W i))/\b<w.heap.size):=fun i hi=>by
  obtain⟨b,o,e,h0,h1,U,_⟩:=hW.fs i hi;exact⟨b,o,e,U,yd _ _ U⟩
 have HR:Hid (∀ i:Nat,i<W.fs.length->∃ b o ta tc,a1=some ⟨b,o,none⟩/\w.cell? ⟨b,o+i*4+3,none⟩=some (.slice ta (rlm W i).t.length tc)/\b<w.heap.size):=fun i hi=>by
  obtain⟨b,o,A,e,h0,h1,U,Z,_⟩:=hW.rs i (by rw[lr];exact hi);exact⟨b,o,A.a3,A.c3,e,Z,yd _ _ Z⟩
 have HQ:Hid (∀ i:Nat,i<W.fs.length->∃ b o qa qc,a3=some ⟨b,o,none⟩/\w.cell? ⟨b,o+i,none⟩=some (.slice qa (que W i).length qc)/\b<w.heap.size):=fun i hi=>by
  obtain⟨b,o,qa,qc,e,h0,_⟩:=hW.qs i (by rw[lq];exact hi);exact⟨b,o,qa,qc,e,h0,yd _ _ h0⟩
 have HK:Hid (zax W.fs k=0->0<=k/\k<W.fs.length):=fun h=>by
  unfold zax at h;by_cases hk:0<=k/\k<W.fs.length
  ·exact hk
  ·rw[yb hk] at h;exact absurd h (by decide)
 clear hW H;show yL _ #[.agg #[.slice a0 W.fs.length c0,.slice a1 W.rs.length c1,.slice a2 W.ps.length c2,.slice a3 W.qs.length c3,.slice a4 W.pt.length c4],.agg #[.int .i64 k,.bool st]] w _;rw[lr,lq,lp];clear lr lq lp;generalize W.fs.length=n at *;generalize W.pt.length=nt at *;generalize zax W.fs k=E at *;obtain⟨q,I⟩:∃ q,zao [E,if bits .and .i64 (ziu W k.toNat) 1=0 then 7 else 0,if 4760<(rlm W k.toNat).t.length then 1 else 0,if st=false/\(que W k.toNat).length=0 then 8 else 0]=q:=⟨_,rfl⟩;have HE:Hid _:=I;rw[I];clear I
 go_enter Tryz.func38,Tryz.ntmps38
 go_upto_region 1 with fail
 obtain⟨O,J⟩:∃ O,(w.alloc (.cells #[.slice a0 n c0,.slice a1 n c1,.slice a2 n c2,.slice a3 n c3,.slice a4 nt c4] 28)).alloc (.cells #[.int .i64 k,.bool st] 40)=O:=⟨_,rfl⟩;have M:Hid (Below w.heap.size w O):=by rw[<- J];exact(zaa _ _).trans ((zaa _ _).mono (by simp))
 have l0:O.cell? ⟨w.heap.size,0,none⟩=some (.slice a0 n c0):=by rw[<- J];exact zaM _ _ _ 0 _ rfl
 have l1:O.cell? ⟨w.heap.size,1,none⟩=some (.slice a1 n c1):=by rw[<- J];exact zaM _ _ _ 1 _ rfl
 have l3:O.cell? ⟨w.heap.size,3,none⟩=some (.slice a3 n c3):=by rw[<- J];exact zaM _ _ _ 3 _ rfl
 have y0:O.cell? ⟨w.heap.size+1,0,none⟩=some (.int .i64 k):=by rw[<- J];exact zaN _ _ _ 0 _ rfl
 have y1:O.cell? ⟨w.heap.size+1,1,none⟩=some (.bool st):=by rw[<- J];exact zaN _ _ _ 1 _ rfl
 have T:Hid (Calls _ _ _ _ _):=D.out O M.out;clear D;rw[J];clear J;by_cases h0:E=0
 ·subst h0;obtain⟨a6,b0⟩:=HK.out rfl;obtain⟨i,rfl⟩:∃ i:Nat,k=i:=⟨k.toNat,(Int.toNat_of_nonneg a6).symm⟩;have hi:i<n:=by omega
  obtain⟨fb,fo,rfl,f2,fl⟩:=HF.out i hi;obtain⟨rb,ro,ta,tc,rfl,r3,rl⟩:=HR.out i hi;obtain⟨qb,qo,qa,qc,rfl,q0,ql⟩:=HQ.out i hi;replace f2:=zab f2 M.out;replace r3:=zab r3 M.out;replace q0:=zab q0 M.out;have I:=HE.out;rw[zmD,yi] at I;clear HF HR HQ HK HE;generalize ziu W i=mm at *;generalize (rlm W i).t.length=tl at *;generalize (que W i).length=qn at *;by_cases h1:bits .and .i64 mm 1=0
  ·rw[yb h1,zph (by decide)] at I;subst I
   go_wp2_with (go_at_call 70;refine ye T.out ?_;rintro e w3 ⟨rfl,F⟩;subst F)
   go_ret;exact⟨rfl,M.out⟩
  ·rw[ya h1,zmD] at I;have a8:(bits .and .i64 mm 1 == 0)=false:=(by simp[h1]);by_cases U:4760<tl
   ·rw[yb U,zph (by decide)] at I;subst I;have a5:(4760:Int)<(tl:Int):=by omega
    go_wp2_with (go_at_call 70;refine ye T.out ?_;rintro e w3 ⟨rfl,F⟩;subst F)
    go_ret;exact⟨rfl,M.out⟩
   ·rw[ya U,zmD] at I;have a5:¬ (4760:Int)<(tl:Int):=(by omega);cases st
    ·by_cases Z:qn=0
     ·subst Z;rw[yb ⟨rfl,rfl⟩,zph (by decide)] at I;subst I
      go_wp2_with (go_at_call 70;refine ye T.out ?_;rintro e w3 ⟨rfl,F⟩;subst F)
      go_ret;exact⟨rfl,M.out⟩
     ·rw[ya (fun h=>Z h.2),zmD] at I;change (0:Int)=q at I;subst I;have a9:((qn:Int) == 0)=false:=by simp[Z]
      go_wp2_with (go_at_call 70;refine ye T.out ?_;rintro e w3 ⟨rfl,F⟩;subst F)
      go_ret;exact⟨rfl,M.out⟩
    ·rw[ya (fun h=>absurd h.1 (by decide)),zmD] at I;change (0:Int)=q at I;subst I
     go_wp2_with (go_at_call 70;refine ye T.out ?_;rintro e w3 ⟨rfl,F⟩;subst F)
     go_ret;exact⟨rfl,M.out⟩
 ·have I:=HE.out;rw[zph h0] at I;subst I;clear HF HR HQ HK;have a7:(E == 0)=false:=by simp[h0]
  go_wp2_with (go_at_call 70;refine ye T.out ?_;rintro e w3 ⟨rfl,F⟩;subst F)
  go_ret;exact⟨rfl,M.out⟩
end Go.Proofs.YtcbcpomacdngmaaGreat
