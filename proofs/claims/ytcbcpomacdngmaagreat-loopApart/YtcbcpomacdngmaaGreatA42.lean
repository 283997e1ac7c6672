/-
  x
-/
import Derived.Test.YtcbcpomacdngmaaGreatA41
namespace Go.Proofs.YtcbcpomacdngmaaGreat
set_option maxRecDepth 100000
set_option maxHeartbeats 4000000
set_option linter.unusedVariables false
open Go.RowKit Go.ChangeShapes Go.WideShapes Tryz
variable{me:Nat}{W:Wl}{V:Wd}{l:List Int}
def oF(me:Nat)(W:Wl)(x:Ac)(F:Wd)(e:Ending)(V:Wd):Prop:=∃ (K:Nat) (D:Array Value) (C:World->Prop),e=.returned (.func (.func K) #[] D)/\Below F.heap.size F V/\C V/\(∀ V E,C V->Bl V E->C E)/\(∀ args w,(callFunc K args).run prog w=.ok (.enter K args) w)/\lV K D C me W x (bD W me x)
def qZ(I J:Nat)(D:Array Value)(E:Int)(F:Wd)(e:Ending)(V:Wd):Prop:=∃ c1 c2 c3,e=.returned (.func (.func 136) #[] #[.pointer (some ⟨c1,0,none⟩),.pointer (some ⟨c2,0,none⟩),.pointer (some ⟨c3,0,none⟩)])/\Below F.heap.size F V/\V.cell? ⟨c1,0,none⟩=some (.func (.func I) #[] #[])/\V.cell? ⟨c2,0,none⟩=some (.int .i64 E)/\V.cell? ⟨c3,0,none⟩=some (.func (.func J) #[] D)
theorem wC(E:Int)(Es:List Int)(W V:Wl)(o:Int):bP (E :: Es) W V o=if E=0 then bP Es W V o else ⟨E,W,0⟩:=by
 unfold bP;by_cases h:E=0
 ·subst h;rfl
 ·have e:aQ (E :: Es)=E:=yd h;rw[e,yd h,yd h]
theorem oF.may{F I:Nat}{E:Array Value}{D t:Int}{x:Ac}{U:Wd}{e:Ending}{C:World->Prop}{q:Ws}(hv:qZ F I E D U e V)(c:C V)(M:∀ args w,(callFunc F args).run prog w=.ok (.enter F args) w)(O:∀ args w,(callFunc I args).run prog w=.ok (.enter I args) w)(hw:(Lit.int .i64 D).wf=true)(h1:∀ V,yO F #[acV x] V fun e w' => e=.returned (.int .i64 t)/\Below V.heap.size V w')(Z:∀ V J,C V->Bl V J->C J)(T:bG W.fs me t D=0->lV I E C me W x q)(hq:bD W me x=if bG W.fs me t D=0 then q else ⟨bG W.fs me t D,W,0⟩):oF me W x U e V:=by
 obtain⟨c1,c2,c3,he,hb,v1,v2,v3⟩:=hv;exact⟨_,_,_,he,hb,⟨v1,v2,v3,c⟩,fun V J ⟨h1,T,h3,h4⟩ hb=>⟨aA h1 hb,aA T hb,aA h3 hb,Z V J h4 hb⟩,(yM func136 oad rfl),hq ▸ Xl F I c1 c2 c3 E D t M O me W x hw h1 C Z q T⟩
theorem wD(F I:Nat)(D:Array Value)(E:Int)(W:Wd):yO 110 #[.int .i64 E,.func (.func F) #[] #[],.func (.func I) #[] D] W (qZ F I D E W):=by
 go_enter func110,ntmps110
 go_wp2
 go_ret;exact⟨_,_,_,rfl,((aB _ _).trans ((aB _ _).mono oac)).trans ((aB _ _).mono oab),oaf,oaf,oaf⟩
theorem GV(F:Nat)(W:Wd):yO 119 #[.func (.func F) #[] #[]] W fun e w' => e=.returned (.func (.func 143) #[] #[.pointer (some ⟨W.heap.size,0,none⟩)])/\Below W.heap.size W w' /\ w'.cell? ⟨W.heap.size,0,none⟩=some (.func (.func F) #[] #[]):=by
 go_enter func119,ntmps119
 go_wp2
 go_ret;exact⟨rfl,aB _ _,aK _ _ _ 0 rfl⟩
theorem Xp(W:Wd):yO 79 #[.int .i64 9] W (qZ 111 112 #[] 2 W):=by
 have D:Hid (∀ W,Calls _ _ _ _ _):=fun W=>wD 111 112 #[] 2 W
 go_enter func79,ntmps79
 go_wp2_with fail
 refine yj (D _) ?_;rintro e V ⟨c1,c2,c3,rfl,hb,v1,v2,E⟩;have F:Hid _:=hb;have I:Hid _:=And.intro v1 (And.intro v2 E);clear hb v1 v2 E D
 go_wp2
 go_ret;exact⟨c1,c2,c3,rfl,F.out,I.out⟩
theorem Xq(W:Wd):yO 79 #[.int .i64 10] W (qZ 113 114 #[] 3 W):=by
 have D:Hid (∀ W,Calls _ _ _ _ _):=fun W=>wD 113 114 #[] 3 W
 go_enter func79,ntmps79
 go_wp2_with fail
 refine yj (D _) ?_;rintro e V ⟨c1,c2,c3,rfl,hb,v1,v2,E⟩;have F:Hid _:=hb;have I:Hid _:=And.intro v1 (And.intro v2 E);clear hb v1 v2 E D
 go_wp2
 go_ret;exact⟨c1,c2,c3,rfl,F.out,I.out⟩
theorem Xr(W:Wd):yO 79 #[.int .i64 12] W (qZ 113 115 #[] 1 W):=by
 have D:Hid (∀ W,Calls _ _ _ _ _):=fun W=>wD 113 115 #[] 1 W
 go_enter func79,ntmps79
 go_wp2_with fail
 refine yj (D _) ?_;rintro e V ⟨c1,c2,c3,rfl,hb,v1,v2,E⟩;have F:Hid _:=hb;have I:Hid _:=And.intro v1 (And.intro v2 E);clear hb v1 v2 E D
 go_wp2
 go_ret;exact⟨c1,c2,c3,rfl,F.out,I.out⟩
theorem Xt(W:Wd):yO 79 #[.int .i64 13] W (qZ 111 116 #[] 4 W):=by
 have D:Hid (∀ W,Calls _ _ _ _ _):=fun W=>wD 111 116 #[] 4 W
 go_enter func79,ntmps79
 go_wp2_with fail
 refine yj (D _) ?_;rintro e V ⟨c1,c2,c3,rfl,hb,v1,v2,E⟩;have F:Hid _:=hb;have I:Hid _:=And.intro v1 (And.intro v2 E);clear hb v1 v2 E D
 go_wp2
 go_ret;exact⟨c1,c2,c3,rfl,F.out,I.out⟩
theorem Xu(W:Wd):yO 79 #[.int .i64 21] W (qZ 111 117 #[] 5 W):=by
 have D:Hid (∀ W,Calls _ _ _ _ _):=fun W=>wD 111 117 #[] 5 W
 go_enter func79,ntmps79
 go_wp2_with fail
 refine yj (D _) ?_;rintro e V ⟨c1,c2,c3,rfl,hb,v1,v2,E⟩;have F:Hid _:=hb;have I:Hid _:=And.intro v1 (And.intro v2 E);clear hb v1 v2 E D
 go_wp2
 go_ret;exact⟨c1,c2,c3,rfl,F.out,I.out⟩
theorem Xv(W:Wd):yO 79 #[.int .i64 18] W fun e w' => ∃ E,e=.returned (.func (.func 143) #[] #[.pointer (some ⟨E,0,none⟩)])/\Below W.heap.size W w' /\ w'.cell? ⟨E,0,none⟩=some (.func (.func 121) #[] #[]):=by
 have D:Hid (∀ W,Calls _ _ _ _ _):=fun W=>GV 121 W
 go_enter func79,ntmps79
 go_wp2_with fail
 refine yj (D _) ?_;rintro e V ⟨rfl,hb,hc⟩;have F:Hid _:=hb;have I:Hid _:=hc;clear hb hc D
 go_wp2
 go_ret;exact⟨_,rfl,F.out,I.out⟩
theorem Xw(W:Wd):yO 79 #[.int .i64 19] W fun e w' => ∃ E,e=.returned (.func (.func 143) #[] #[.pointer (some ⟨E,0,none⟩)])/\Below W.heap.size W w' /\ w'.cell? ⟨E,0,none⟩=some (.func (.func 122) #[] #[]):=by
 have D:Hid (∀ W,Calls _ _ _ _ _):=fun W=>GV 122 W
 go_enter func79,ntmps79
 go_wp2_with fail
 refine yj (D _) ?_;rintro e V ⟨rfl,hb,hc⟩;have F:Hid _:=hb;have I:Hid _:=hc;clear hb hc D
 go_wp2
 go_ret;exact⟨_,rfl,F.out,I.out⟩
theorem Xx(W:Wd):yO 79 #[.int .i64 20] W fun e w' => ∃ E,e=.returned (.func (.func 143) #[] #[.pointer (some ⟨E,0,none⟩)])/\Below W.heap.size W w' /\ w'.cell? ⟨E,0,none⟩=some (.func (.func 123) #[] #[]):=by
 have D:Hid (∀ W,Calls _ _ _ _ _):=fun W=>GV 123 W
 go_enter func79,ntmps79
 go_wp2_with fail
 refine yj (D _) ?_;rintro e V ⟨rfl,hb,hc⟩;have F:Hid _:=hb;have I:Hid _:=hc;clear hb hc D
 go_wp2
 go_ret;exact⟨_,rfl,F.out,I.out⟩
theorem Xy(W:Wd):yO 79 #[.int .i64 17] W fun e w' => ∃ M,qZ 113 143 #[.pointer (some ⟨M,0,none⟩)] 3 W e w' /\ w'.cell? ⟨M,0,none⟩=some (.func (.func 120) #[] #[]):=by
 have D:Hid (∀ W,Calls _ _ _ _ _):=fun W=>GV 120 W;have I:Hid (∀ E W,Calls _ _ _ _ _):=fun E W=>wD 113 143 E 3 W
 go_enter func79,ntmps79
 go_wp2_with fail
 refine yj (D _) ?_;rintro e V ⟨rfl,hb,hc⟩;have J:Hid _:=hb;have T:Hid _:=hc;clear hb hc D
 go_wp2_with fail
 refine yj (I _ _) ?_;rintro e Z ⟨c1,c2,c3,rfl,hb,v1,v2,O⟩;have F:Hid _:=hb;have U:Hid _:=And.intro v1 (And.intro v2 O);clear hb v1 v2 O I
 go_wp2
 go_ret;exact⟨_,⟨c1,c2,c3,rfl,J.trans (F.mono J.size),U.out⟩,aA T F⟩
theorem Xz(W:Wd):yO 79 #[.int .i64 16] W fun e w' => e=.returned (.func (.func 118) #[] #[])/\Below W.heap.size W w' := by
 go_enter func79,ntmps79
 go_wp2
 go_ret;exact⟨rfl,yv _ _⟩
theorem Ya(k:Int)(W:Wd)(U:k≠9/\k≠10/\k≠12/\k≠13/\k≠21/\k≠16/\k≠17/\k≠18/\k≠19/\k≠20):yO 79 #[.int .i64 k] W fun e w' => e=.returned (.func (.func 124) #[] #[])/\Below W.heap.size W w' := by
 obtain⟨h1,E,F,I,h5,J,M,O,T,D⟩:=U;have z1:(k == 9)=false:=by simp[h1]
 have z2:(k == 10)=false:=by simp[E]
 have z3:(k == 12)=false:=by simp[F]
 have z4:(k == 13)=false:=by simp[I]
 have z5:(k == 21)=false:=by simp[h5]
 have z6:(k == 16)=false:=by simp[J]
 have z7:(k == 17)=false:=by simp[M]
 have z8:(k == 18)=false:=by simp[O]
 have z9:(k == 19)=false:=by simp[T]
 have Z:(k == 20)=false:=by simp[D]
 clear h1 E F I h5 J M O T D
 go_enter func79,ntmps79
 go_wp2
 go_ret;exact⟨rfl,yv _ _⟩
theorem oD.mk{O:W0}{d:Nat}{E:Int}{L M:List Pt}{s:SD}{D:Wd}{F:OA}{J:Nat}(I:SW O d me W s D)(hb:Bl V D)(U:E=0->M=L)(T:bU (SX O.heap.size d s) D F M)(hs:SlA F M.length J):oD O d me W W E L s.g1 V (.returned (.tuple #[.slice F M.length J,.int .i64 E])) D :=
 ⟨F,J,M,s,rfl,aC.of_below hb,fun h=>by have e:=U h;rw[e] at T hs;exact⟨e,I,T,hs⟩,fun _=>I⟩
theorem Yb(me:Nat)(W:Wl)(x:Ac):PBy 123 me W x W (aX W.pt (many W) x.n me (aL W me)) (kL W.pt x.n):=fun w0 d s V I=>by
 obtain⟨xk,xa,xb,xc,J⟩:=x;have II:Hid (SW w0 d me W s V):=I;have b0:=I.lt;have b1:Hid _:=b0;obtain⟨l0,l1,l2,l3,l4,lf,ll⟩:=bH I.box;have b9:d<V.heap.size:=ll;have n8:W.fs.length<=8:=I.rt.fs.few;have b3:me<W.fs.length:=I.sf;clear b0;dsimp only;have a6:∀ T,Bl V T->∀ b,SX w0.heap.size d s b->b<T.heap.size:=fun T hV b hb=>yC (b1 b hb) hV.size;have F:=I.big;have D:Hid (∀ T,Bl V T->Calls _ _ _ _ _):=fun T hV=>Rt (SX w0.heap.size d s) s.a4 s.c4 W.pt (many W) J me (aL W me) T (a6 T hV) F.1 F.2 I.dp.pc (I.dp.pt.off (aC.of_below hV));have EP:Hid (aX W.pt (many W) J me (aL W me)=0->vB W.pt (many W) J me (aL W me)=kL W.pt J):=fun h=>ye h;show yO _ #[.pointer (some ⟨d,0,none⟩),.int .i64 (me:Int),.int .i64 (aL W me),.agg #[.int .i64 xk,.int .i64 xa,.int .i64 xb,.int .i64 xc,.int .i64 J]] V _;obtain⟨n,hn⟩:∃ n,W.fs.length=n:=⟨_,rfl⟩;have HN:Hid (W.fs.length=n):=hn;obtain⟨nt,U⟩:∃ n,W.pt.length=n:=⟨_,rfl⟩;have b5:Hid (W.pt.length=nt):=U;rw[U] at l4 D;rw[hn] at l0 l1 l2 l3 n8 b3;rw[show many W=(n:Int) from by rw[<- hn];rfl] at D EP |-;generalize aL W me=tn at *;generalize aX W.pt n J me tn=E at *;generalize vB W.pt n J me tn=M at *;generalize kL W.pt J=L at *;clear hn U I a6 F;have b4:(me:Int)<(n:Int):=oaa
 go_enter func123,ntmps123
 go_upto_region 1 with fail
 obtain⟨V1,a5,O,y0,y1,y2,y3,y4,sV⟩:=lU V xk xa xb xc J;rw[a5];clear a5;replace l0:=aA l0 O;replace l1:=aA l1 O;replace l2:=aA l2 O;replace l3:=aA l3 O;replace l4:=aA l4 O
 go_region_held3 (fun Z=>Z.cell? ⟨d,0,none⟩=some (.slice s.a0 n s.c0)/\Z.cell? ⟨d,4,none⟩=some (.slice s.a4 nt s.c4)/\Z.cell? ⟨V.heap.size,4,none⟩=some (.int .i64 J)) (go_keep) (first|(go_at_call 147;refine yj (D V1.drew O.drew) ?_;rintro e w3 ⟨va,vc,rfl,a7,a9,a8⟩;have B3:Hid (Bl V1 w3):=(yv _ _).drew.trans a7;have b6:=aA l0 B3;have b7:=aA l4 B3;have b8:=aA y4 B3;have b2:Hid _:=a9;have HP:Hid _:=a8;clear a7 a9 a8))
 have BW:Hid (Bl V w3):=O.trans (B3.mono O.size)
 go_wp2
 exact yz (v:=.tuple #[.slice va M.length vc,.int .i64 E]) (by simp[results,results123,go_sem]) rfl (oD.mk (II.below BW) BW.out EP.out HP.out b2.out)
theorem Yc(me:Nat)(W:Wl)(x:Ac)(hm:bC W.fs x.a=0):PBy 120 me W x W (kI W.pt (many W) x.n me (aL W me) x.a (aL W x.a)) (kJ W.pt x.n x.a (aL W x.a)):=fun w0 d s V I=>by
 obtain⟨xk,xa,xb,xc,O⟩:=x;have II:Hid (SW w0 d me W s V):=I;have b1:=I.lt;have b3:Hid _:=b1;obtain⟨l0,l1,l2,l3,l4,lf,ll⟩:=bH I.box;have d4:d<V.heap.size:=ll;have n8:W.fs.length<=8:=I.rt.fs.few;have b5:me<W.fs.length:=I.sf;clear b1;dsimp only;have a6:∀ U,Bl V U->∀ b,SX w0.heap.size d s b->b<U.heap.size:=fun U hV b hb=>yC (b3 b hb) hV.size;have F:=I.big;obtain⟨qa,a9,b6,_⟩:=iV hm;dsimp only at a9;subst a9;obtain⟨fb,fo,ea,_,ft,fl⟩:=I.fcell b6;rw[ea] at l0;have TA:=OE W qa;obtain⟨ta,b2⟩:∃ t,(fr W.fs qa).t=t:=⟨_,rfl⟩;rw[b2] at ft TA;clear b2 ea hm;have D:Hid (∀ U,Bl V U->Calls _ _ _ _ _):=fun U hV=>Ru (SX w0.heap.size d s) s.a4 s.c4 W.pt (many W) O me (aL W me) qa ta U (a6 U hV) F.1 F.2 I.dp.pc (I.dp.pt.off (aC.of_below hV));have EP:Hid (kI W.pt (many W) O me (aL W me) qa ta=0->uX W.pt (many W) O me (aL W me) qa ta=kJ W.pt O qa ta):=fun h=>ye h;rw[TA];show yO _ #[.pointer (some ⟨d,0,none⟩),.int .i64 (me:Int),.int .i64 (aL W me),.agg #[.int .i64 xk,.int .i64 qa,.int .i64 xb,.int .i64 xc,.int .i64 O]] V _;obtain⟨n,hn⟩:∃ n,W.fs.length=n:=⟨_,rfl⟩;have HN:Hid (W.fs.length=n):=hn;obtain⟨nt,Z⟩:∃ n,W.pt.length=n:=⟨_,rfl⟩;have b8:Hid (W.pt.length=nt):=Z;rw[Z] at l4 D;rw[hn] at l0 l1 l2 l3 n8 b5;rw[show many W=(n:Int) from by rw[<- hn];rfl] at D EP |-;have d6:(qa:Int)<(n:Int):=oaa
 generalize aL W me=tn at *;generalize kI W.pt n O me tn qa ta=E at *;generalize uX W.pt n O me tn qa ta=M at *;generalize kJ W.pt O qa ta=L at *;clear hn Z I a6 F;have b7:(me:Int)<(n:Int):=oaa
 go_enter func120,ntmps120
 go_upto_region 1 with fail
 obtain⟨V1,a5,T,y0,y1,y2,y3,y4,sV⟩:=lU V xk qa xb xc O;rw[a5];clear a5;replace l0:=aA l0 T;replace l1:=aA l1 T;replace l2:=aA l2 T;replace l3:=aA l3 T;replace l4:=aA l4 T;replace ft:=aA ft T;have d5:fb<V1.heap.size:=oaa
 go_region_held3 (fun J=>J.cell? ⟨d,0,none⟩=some (.slice (some ⟨fb,fo,none⟩) n s.c0)/\J.cell? ⟨d,4,none⟩=some (.slice s.a4 nt s.c4)/\J.cell? ⟨V.heap.size,1,none⟩=some (.int .i64 qa)/\J.cell? ⟨V.heap.size,4,none⟩=some (.int .i64 O)/\J.cell? ⟨fb,fo+qa*5+3,none⟩=some (.int .i64 ta)) (go_keep) (first|(go_at_call 144;refine yj (D V1.drew T.drew) ?_;rintro e w3 ⟨va,vc,rfl,a7,b0,a8⟩;have B3:Hid (Bl V1 w3):=(yv _ _).drew.trans a7;have c6:=aA l0 B3;have c7:=aA l4 B3;have c8:=aA y1 B3;have c9:=aA y4 B3;have b9:=aA ft B3;have b4:Hid _:=b0;have HP:Hid _:=a8;clear a7 b0 a8))
 have BW:Hid (Bl V w3):=T.trans (B3.mono T.size)
 go_wp2
 exact yz (v:=.tuple #[.slice va M.length vc,.int .i64 E]) (by simp[results,results120,go_sem]) rfl (oD.mk (II.below BW) BW.out EP.out HP.out b4.out)
theorem Yj(me:Nat)(W:Wl)(x:Ac):PBy 122 me W x (setR W me { rlm W me with i:=gr (pt W.pt x.n.toNat).cm 0 }) (gK W.pt (many W) x.n me (aL W me)) (jQ W.pt x.n):=fun w0 d s V I=>by
 obtain⟨xk,xa,xb,xc,J⟩:=x;have II:Hid (SW w0 d me W s V):=I;have b3:=I.lt;have b5:Hid _:=b3;obtain⟨l0,l1,l2,l3,l4,lf,ll⟩:=bH I.box;have d5:d<V.heap.size:=ll;have n8:W.fs.length<=8:=I.rt.fs.few;have c6:me<W.fs.length:=I.sf;clear b3;dsimp only;have b2:∀ V2,Bl V V2->∀ b,SX w0.heap.size d s b->b<V2.heap.size:=fun V2 hV b hb=>yC (b5 b hb) hV.size;have a5:=I.big;have D:Hid (∀ V2 z,Bl V V2->V.heap.size<=z->z<V2.heap.size->Calls _ _ _ _ _):=fun V2 z hV hz d7=>Sa (fun b=>SX w0.heap.size d s b\/b=z) s.a4 s.c4 W.pt (many W) J me (aL W me) V2 (fun b hb=>hb.elim (b2 V2 hV b) (fun e=>oaa)) a5.1 a5.2 I.dp.pc (I.dp.pt.grow (aC.of_below hV) (fun b hb hy=>hy.elim id (fun e=>oaa)));have EP:Hid (gK W.pt (many W) J me (aL W me)=0->uZ W.pt (many W) J me (aL W me)=jQ W.pt J/\xV W.pt (many W) J me (aL W me)=gr (pt W.pt J.toNat).cm 0):=fun h=>⟨ye h,ye h⟩
 have HQ:Hid (gK W.pt (many W) J me (aL W me)=0->bI { rlm W me with i:=gr (pt W.pt J.toNat).cm 0 }=0):=fun h=>by
  have h1:=(zF I.rt I.sf h).rs me I.sf;have h2:rlm (setR W me { rlm W me with i:=gr (pt W.pt J.toNat).cm 0 }) me={ rlm W me with i:=gr (pt W.pt J.toNat).cm 0 }:=by rw[gW (by rw[I.rt.lr];exact I.sf),ye rfl]
  rw[<- h2];exact h1
 obtain⟨k0,k1,k2,k3,kf,kl⟩:=I.rcells I.sf;clear k0 k1 k3 kf;show yO _ #[.pointer (some ⟨d,0,none⟩),.int .i64 (me:Int),.int .i64 (aL W me),.agg #[.int .i64 xk,.int .i64 xa,.int .i64 xb,.int .i64 xc,.int .i64 J]] V _;obtain⟨n,hn⟩:∃ n,W.fs.length=n:=⟨_,rfl⟩;have HN:Hid (W.fs.length=n):=hn;obtain⟨nt,a9⟩:∃ n,W.pt.length=n:=⟨_,rfl⟩;have c9:Hid (W.pt.length=nt):=a9;rw[a9] at l4 D;rw[hn] at l0 l1 l2 l3 n8 c6;rw[show many W=(n:Int) from by rw[<- hn];rfl] at D EP HQ |-;clear hn a9 I b2 a5;have c8:(me:Int)<(n:Int):=oaa
 generalize aL W me=tn at *;generalize gK W.pt n J me tn=E at *;generalize uZ W.pt n J me tn=M at *;generalize xV W.pt n J me tn=G at *;generalize jQ W.pt J=L at *;generalize gr (pt W.pt J.toNat).cm 0=G0 at *
 go_enter func122,ntmps122
 go_upto_region 1 with fail
 obtain⟨F,b1,T,y0,y1,y2,y3,y4,sV⟩:=lU V xk xa xb xc J;rw[b1];clear b1;replace l0:=aA l0 T;replace l1:=aA l1 T;replace l2:=aA l2 T;replace l3:=aA l3 T;replace l4:=aA l4 T;replace k2:=aA k2 T;have n0:¬ F.heap.size=d:=oaa
 have o0:¬ d=F.heap.size:=oaa
 have n2:¬ F.heap.size=V.heap.size:=oaa
 have o2:¬ V.heap.size=F.heap.size:=oaa
 have d6:d<F.heap.size:=oaa
 go_cut [10,11,12] (fun s10 s11 s12 wx=>∃ (b:Nat) (U:OA) (vc:Nat) (ga:OA) (gc:Nat),s10=.slice U M.length vc/\s11=.pointer (some ⟨b,0,none⟩)/\s12=.int .i64 E/\Hid (Bl F wx)/\Hid (wx.heap[b]?=some (.cells #[.slice ga G.length gc] 47 (0,0)))/\F.heap.size<=b/\Hid (bU (SX w0.heap.size d s) wx U M)/\Hid (SlA U M.length vc)/\Hid (St (SX w0.heap.size d s) (fun V=>aO V ga G) wx))
 case first =>
  go_region_held3 (fun b0=>b0.cell? ⟨d,0,none⟩=some (.slice s.a0 n s.c0)/\b0.cell? ⟨d,4,none⟩=some (.slice s.a4 nt s.c4)/\b0.cell? ⟨V.heap.size,4,none⟩=some (.int .i64 J)) (go_keep) (first|(go_at_call 146;refine yj (D F.drew V.heap.size T.drew (yr _) sV) ?_;rintro e w3 ⟨U,vc,ga,gc,rfl,O,a8,a7,a6⟩;have Z:Hid (Bl F w3):=(yv _ _).drew.trans O;have S3:Hid _:=a8;have P3:Hid (bU (fun b=>SX w0.heap.size d s b\/b=V.heap.size) w3 U M):=a7;have C3:Hid (St (fun b=>SX w0.heap.size d s b\/b=V.heap.size) (fun V=>aO V ga G) w3):=a6;have b7:=aA l0 Z;have b8:=aA l4 Z;have b9:=aA y4 Z;clear O a8 a7 a6)|(go_at_call 146;refine yj (D (F.alloc (.cells #[.slice none 0 0] 47)).drew F.heap.size (T.trans ((aB F _).mono T.size)).drew T.size (by show F.heap.size<(F.alloc _).heap.size;simp)) ?_;rintro e w3 ⟨U,vc,ga,gc,rfl,O,a8,a7,a6⟩;have Z:Hid (Bl F w3):=(aB F _).drew.trans (O.mono oac);have S3:Hid _:=a8;have P3:Hid (bU (fun b=>SX w0.heap.size d s b\/b=F.heap.size) w3 U M):=a7;have C3:Hid (St (fun b=>SX w0.heap.size d s b\/b=F.heap.size) (fun V=>aO V ga G) w3):=a6;have b7:=aA l0 Z;have b8:=aA l4 Z;have b9:=aA y4 Z;have X3:Hid (w3.heap[F.heap.size]?=some (.cells #[.slice none 0 0] 47 (0,0))):=aH (W:=(F.alloc (.cells #[.slice none 0 0] 47)).drew) (yN F _) O;have x0:=cZ X3.out;have xf:=iB (o:=0) X3.out;have xl:F.heap.size<w3.heap.size:=aR X3.out;clear O a8 a7 a6))
  ·go_wp2_with fail
   go_meet
   case rel=>exact⟨_,U,vc,ga,gc,rfl,rfl,rfl,Z.trans ((aB _ _).mono Z.size),yN _ _,Z.size,fun w' ho=>(P3.off (aC.of_below (aB _ _))) w' (ho.mono (fun b h=>Or.inl h)),S3.out,(C3.off (aC.of_below (aB _ _))).less (fun b h=>Or.inl h)⟩
  ·go_wp2_with fail
   go_meet
   case rel=>exact⟨_,U,vc,ga,gc,rfl,rfl,rfl,Z.setCell (yr _) _,wN X3.out,yr _,fun w' ho=>(P3.off (aC.set _ _ (Or.inr rfl))) w' (ho.mono (fun b h=>Or.inl h)),S3.out,(C3.off (aC.set _ _ (Or.inr rfl))).less (fun b h=>Or.inl h)⟩
 case rest =>
  obtain⟨b,U,vc,ga,gc,rfl,rfl,rfl,HB,HX,d4,HP,b6,HC⟩:=hcut;have BW:Hid (Bl V wc):=T.trans (HB.mono T.size);have I2:Hid _:=II.below BW;clear l0 l1 l2 l3 l4 k2 D;by_cases hE:E=0
  ·subst hE;obtain⟨rfl,rfl⟩:=EP.out rfl;have hs:=I2.setIn (c:=gc) (HQ rfl) HC.out;have HS:Hid _:=hs;have b4:Hid _:=HP.off (aC.set wc (o:=me*4+2) (.slice ga G.length gc) (show SX w0.heap.size d s s.g1 from .inr (.inr (.inl rfl))));have OX:Hid (aC (fun b=>b=s.g1) V (wc.setCell ⟨s.g1,me*4+2,none⟩ (.slice ga G.length gc))):=(aC.of_below BW.out).trans (aC.set (X:=fun b=>b=s.g1) _ _ rfl);obtain⟨e4,c7,e5,e6,e7,e8,e9⟩:=bH I2.box;rw[HN.out] at c7;obtain⟨d8,d9,e0,e1,e2,e3⟩:=I2.rcells I2.sf;have x0:=cZ HX.out;have bl:b<wc.heap.size:=aR HX.out;have ng:¬ s.g1=b:=oaa;have g0:¬ b=s.g1:=oaa;clear hs
   go_wp2_with fail
   go_region
   go_wp2
   exact yz (v:=.tuple #[.slice U M.length vc,.int .i64 0]) (by simp[results,results122,go_sem]) rfl ⟨U,vc,M,_,rfl,OX.trans (aC.of_below (yv _ _).drew),fun _=>⟨rfl,HS.below (yv _ _).drew,bU.off (X:=SX w0.heap.size d s) b4.out (aC.of_below (yv _ _).drew),b6.out⟩,fun h=>absurd rfl h⟩
  ·have hz:(E == 0)=false:=by simp[hE]
   go_wp2
   exact yz (v:=.tuple #[.slice none 0 0,.int .i64 E]) (by simp[results,results122,go_sem]) rfl ⟨none,0,[],s,rfl,aC.of_below BW.out,fun h=>absurd h hE,fun _=>I2.out⟩
theorem zV:aQ (0 :: l)=aQ l:=ye rfl
theorem GX{a:Int}(h:a≠0):aQ (a :: l)=a:=yd h
theorem Yq(A:WA)(W:Wl)(k:Int)(st:Bool)(w:Wd)(H:aI W)(hW:gP w A W):yO 38 #[wlV A W,.agg #[.int .i64 k,.bool st]] w fun e w' => e=.returned (.int .i64 (aQ [bC W.fs k,if bits .and .i64 (kN W k.toNat) 1=0 then 7 else 0,if 4760<(rlm W k.toNat).t.length then 1 else 0,if st=false/\(que W k.toNat).length=0 then 8 else 0]))/\Below w.heap.size w w' := by
 obtain⟨a0,a1,a2,a3,a4,c0,c1,c2,c3,c4⟩:=A;have n8:W.fs.length<=8:=H.fs.few;have lr:=H.lr;have lq:=H.lq;have lp:=H.lp;have D:Hid (∀ V2,Bl w V2->Calls _ _ _ _ _):=fun V2 hV=>sF a0 c0 W.fs k V2 oaa (hW.fs.below hV)
 have HF:Hid (∀ i:Nat,i<W.fs.length->∃ b o,a0=some ⟨b,o,none⟩/\w.cell? ⟨b,o+i*5+2,none⟩=some (.int .i64 (kN W i))/\b<w.heap.size):=fun i hi=>by
  obtain⟨b,o,e,h0,h1,U,_⟩:=hW.fs i hi;exact⟨b,o,e,U,yi _ _ U⟩
 have HR:Hid (∀ i:Nat,i<W.fs.length->∃ b o ta tc,a1=some ⟨b,o,none⟩/\w.cell? ⟨b,o+i*4+3,none⟩=some (.slice ta (rlm W i).t.length tc)/\b<w.heap.size):=fun i hi=>by
  obtain⟨b,o,A,e,h0,h1,U,Z,_⟩:=hW.rs i (by rw[lr];exact hi);exact⟨b,o,A.a3,A.c3,e,Z,yi _ _ Z⟩
 have HQ:Hid (∀ i:Nat,i<W.fs.length->∃ b o qa qc,a3=some ⟨b,o,none⟩/\w.cell? ⟨b,o+i,none⟩=some (.slice qa (que W i).length qc)/\b<w.heap.size):=fun i hi=>by
  obtain⟨b,o,qa,qc,e,h0,_⟩:=hW.qs i (by rw[lq];exact hi);exact⟨b,o,qa,qc,e,h0,yi _ _ h0⟩
 have HK:Hid (bC W.fs k=0->0<=k/\k<W.fs.length):=fun h=>by
  unfold bC at h;by_cases hk:0<=k/\k<W.fs.length
  ·exact hk
  ·rw[ye hk] at h;exact absurd h oae
 clear hW H;show yO _ #[.agg #[.slice a0 W.fs.length c0,.slice a1 W.rs.length c1,.slice a2 W.ps.length c2,.slice a3 W.qs.length c3,.slice a4 W.pt.length c4],.agg #[.int .i64 k,.bool st]] w _;rw[lr,lq,lp];clear lr lq lp;generalize W.fs.length=n at *;generalize W.pt.length=nt at *;generalize bC W.fs k=E at *;obtain⟨q,I⟩:∃ q,aQ [E,if bits .and .i64 (kN W k.toNat) 1=0 then 7 else 0,if 4760<(rlm W k.toNat).t.length then 1 else 0,if st=false/\(que W k.toNat).length=0 then 8 else 0]=q:=⟨_,rfl⟩;have HE:Hid _:=I;rw[I];clear I
 go_enter func38,ntmps38
 go_upto_region 1 with fail
 obtain⟨O,J⟩:∃ O,(w.alloc (.cells #[.slice a0 n c0,.slice a1 n c1,.slice a2 n c2,.slice a3 n c3,.slice a4 nt c4] 28)).alloc (.cells #[.int .i64 k,.bool st] 40)=O:=⟨_,rfl⟩;have M:Hid (Bl w O):=by rw[<- J];exact(aB _ _).trans ((aB _ _).mono oac)
 have l0:O.cell? ⟨w.heap.size,0,none⟩=some (.slice a0 n c0):=by rw[<- J];exact fE _ _ _ 0 _ rfl
 have l1:O.cell? ⟨w.heap.size,1,none⟩=some (.slice a1 n c1):=by rw[<- J];exact fE _ _ _ 1 _ rfl
 have l3:O.cell? ⟨w.heap.size,3,none⟩=some (.slice a3 n c3):=by rw[<- J];exact fE _ _ _ 3 _ rfl
 have y0:O.cell? ⟨w.heap.size+1,0,none⟩=some (.int .i64 k):=by rw[<- J];exact fF _ _ _ 0 _ rfl
 have y1:O.cell? ⟨w.heap.size+1,1,none⟩=some (.bool st):=by rw[<- J];exact fF _ _ _ 1 _ rfl
 have T:Hid (Calls _ _ _ _ _):=D.out O M.out;clear D;rw[J];clear J;by_cases h0:E=0
 ·subst h0;obtain⟨a6,b0⟩:=HK.out rfl;obtain⟨i,rfl⟩:∃ i:Nat,k=i:=⟨k.toNat,(Int.toNat_of_nonneg a6).symm⟩;have hi:i<n:=oaa
  obtain⟨fb,fo,rfl,f2,fl⟩:=HF.out i hi;obtain⟨rb,ro,ta,tc,rfl,r3,rl⟩:=HR.out i hi;obtain⟨qb,qo,qa,qc,rfl,q0,ql⟩:=HQ.out i hi;replace f2:=aA f2 M;replace r3:=aA r3 M;replace q0:=aA q0 M;have I:=HE.out;rw[zV,yk] at I;clear HF HR HQ HK HE;generalize kN W i=mm at *;generalize (rlm W i).t.length=tl at *;generalize (que W i).length=qn at *;by_cases h1:bits .and .i64 mm 1=0
  ·rw[ye h1,GX oae] at I;subst I
   go_wp2_with (go_at_call 70;refine yj T.out ?_;rintro e w3 ⟨rfl,F⟩;subst F)
   go_ret;exact⟨rfl,M.out⟩
  ·rw[yd h1,zV] at I;have a8:(bits .and .i64 mm 1 == 0)=false:=(by simp[h1]);by_cases U:4760<tl
   ·rw[ye U,GX oae] at I;subst I;have a5:(4760:Int)<(tl:Int):=oaa
    go_wp2_with (go_at_call 70;refine yj T.out ?_;rintro e w3 ⟨rfl,F⟩;subst F)
    go_ret;exact⟨rfl,M.out⟩
   ·rw[yd U,zV] at I;have a5:¬ (4760:Int)<(tl:Int):=oaa;cases st
    ·by_cases Z:qn=0
     ·subst Z;rw[ye ⟨rfl,rfl⟩,GX oae] at I;subst I
      go_wp2_with (go_at_call 70;refine yj T.out ?_;rintro e w3 ⟨rfl,F⟩;subst F)
      go_ret;exact⟨rfl,M.out⟩
     ·rw[yd (fun h=>Z h.2),zV] at I;change (0:Int)=q at I;subst I;have a9:((qn:Int) == 0)=false:=by simp[Z]
      go_wp2_with (go_at_call 70;refine yj T.out ?_;rintro e w3 ⟨rfl,F⟩;subst F)
      go_ret;exact⟨rfl,M.out⟩
    ·rw[yd (fun h=>absurd h.1 oae),zV] at I;change (0:Int)=q at I;subst I
     go_wp2_with (go_at_call 70;refine yj T.out ?_;rintro e w3 ⟨rfl,F⟩;subst F)
     go_ret;exact⟨rfl,M.out⟩
 ·have I:=HE.out;rw[GX h0] at I;subst I;clear HF HR HQ HK;have a7:(E == 0)=false:=by simp[h0]
  go_wp2_with (go_at_call 70;refine yj T.out ?_;rintro e w3 ⟨rfl,F⟩;subst F)
  go_ret;exact⟨rfl,M.out⟩
