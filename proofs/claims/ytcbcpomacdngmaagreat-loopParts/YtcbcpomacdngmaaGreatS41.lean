/-
  x
-/
import Derived.Test.YtcbcpomacdngmaaGreatS40
namespace Go.Proofs.YtcbcpomacdngmaaGreat
set_option maxRecDepth 100000
set_option maxHeartbeats 4000000
set_option linter.unusedVariables false
open Go.RowKit Go.ChangeShapes Go.WideShapes
def zjY(me:Nat)(W:Wl)(x:Ac)(F:World)(e:Ending)(V:World):Prop:=∃ (K:Nat) (D:Array Value) (C:World->Prop),e=.returned (.func (.func K) #[] D)/\Below F.heap.size F V/\C V/\(∀ V E,C V->Below V.heap.size V E->C E)/\(∀ args w,(callFunc K args).run Tryz.prog w=.ok (.enter K args) w)/\zhp K D C me W x (zdT W me x)
def zml(I J:Nat)(D:Array Value)(E:Int)(F:World)(e:Ending)(V:World):Prop:=∃ c1 c2 c3,e=.returned (.func (.func 136) #[] #[.pointer (some ⟨c1,0,none⟩),.pointer (some ⟨c2,0,none⟩),.pointer (some ⟨c3,0,none⟩)])/\Below F.heap.size F V/\V.cell? ⟨c1,0,none⟩=some (.func (.func I) #[] #[])/\V.cell? ⟨c2,0,none⟩=some (.int .i64 E)/\V.cell? ⟨c3,0,none⟩=some (.func (.func J) #[] D)
theorem zeu(E:Int)(Es:List Int)(W V:Wl)(o:Int):zfe (E :: Es) W V o=if E=0 then zfe Es W V o else ⟨E,W,0⟩:=by
 unfold zfe;by_cases h:E=0
 ·subst h;rfl
 ·have e:zan (E :: Es)=E:=ya h;rw[e,ya h,ya h]
theorem zjY.may{I J:Nat}{E:Array Value}{D t:Int}{me:Nat}{W:Wl}{x:Ac}{Z V:World}{e:Ending}{C:World->Prop}{q:Ws}(hv:zml I J E D Z e V)(c:C V)(O:∀ args w,(callFunc I args).run Tryz.prog w=.ok (.enter I args) w)(T:∀ args w,(callFunc J args).run Tryz.prog w=.ok (.enter J args) w)(hw:(Lit.int .i64 D).wf=true)(h1:∀ V,yM I #[acV x] V fun e w' => e=.returned (.int .i64 t)/\Below V.heap.size V w')(hC:∀ V M,C V->Below V.heap.size V M->C M)(U:zdN W.fs me t D=0->zhp J E C me W x q)(hq:zdT W me x=if zdN W.fs me t D=0 then q else ⟨zdN W.fs me t D,W,0⟩):zjY me W x Z e V:=by
 obtain⟨c1,c2,c3,he,F,v1,v2,v3⟩:=hv;exact⟨_,_,_,he,F,⟨v1,v2,v3,c⟩,fun V M ⟨h1,U,h3,h4⟩ F=>⟨zab h1 F,zab U F,zab h3 F,hC V M h4 F⟩,(yK Tryz.func136 (by kernel_rfl) rfl),hq ▸ zqQ I J c1 c2 c3 E D t O T me W x hw h1 C hC q U⟩
theorem zcE(F I:Nat)(D:Array Value)(E:Int)(W:World):yM 110 #[.int .i64 E,.func (.func F) #[] #[],.func (.func I) #[] D] W (zml F I D E W):=by
 go_enter Tryz.func110,Tryz.ntmps110
 go_wp2
 go_ret;exact⟨_,_,_,rfl,((zaa _ _).trans ((zaa _ _).mono (by simp))).trans ((zaa _ _).mono (by simp;omega)),by go_simp,by go_simp,by go_simp⟩
theorem zcd(F:Nat)(W:World):yM 119 #[.func (.func F) #[] #[]] W fun e w' => e=.returned (.func (.func 143) #[] #[.pointer (some ⟨W.heap.size,0,none⟩)])/\Below W.heap.size W w' /\ w'.cell? ⟨W.heap.size,0,none⟩=some (.func (.func F) #[] #[]):=by
 go_enter Tryz.func119,Tryz.ntmps119
 go_wp2
 go_ret;exact⟨rfl,zaa _ _,zad _ _ _ 0 rfl⟩
theorem ztz(W:World):yM 79 #[.int .i64 9] W (zml 111 112 #[] 2 W):=by
 have D:Hid (∀ W,Calls _ _ _ _ _):=fun W=>zcE 111 112 #[] 2 W
 go_enter Tryz.func79,Tryz.ntmps79
 go_wp2_with fail
 refine ye (D.out _) ?_;rintro e V ⟨c1,c2,c3,rfl,E,v1,v2,F⟩;have I:Hid _:=E;have J:Hid _:=And.intro v1 (And.intro v2 F);clear E v1 v2 F D
 go_wp2
 go_ret;exact⟨c1,c2,c3,rfl,I.out,J.out⟩
theorem zqT(W:World):yM 79 #[.int .i64 10] W (zml 113 114 #[] 3 W):=by
 have D:Hid (∀ W,Calls _ _ _ _ _):=fun W=>zcE 113 114 #[] 3 W
 go_enter Tryz.func79,Tryz.ntmps79
 go_wp2_with fail
 refine ye (D.out _) ?_;rintro e V ⟨c1,c2,c3,rfl,E,v1,v2,F⟩;have I:Hid _:=E;have J:Hid _:=And.intro v1 (And.intro v2 F);clear E v1 v2 F D
 go_wp2
 go_ret;exact⟨c1,c2,c3,rfl,I.out,J.out⟩
theorem zqU(W:World):yM 79 #[.int .i64 12] W (zml 113 115 #[] 1 W):=by
 have D:Hid (∀ W,Calls _ _ _ _ _):=fun W=>zcE 113 115 #[] 1 W
 go_enter Tryz.func79,Tryz.ntmps79
 go_wp2_with fail
 refine ye (D.out _) ?_;rintro e V ⟨c1,c2,c3,rfl,E,v1,v2,F⟩;have I:Hid _:=E;have J:Hid _:=And.intro v1 (And.intro v2 F);clear E v1 v2 F D
 go_wp2
 go_ret;exact⟨c1,c2,c3,rfl,I.out,J.out⟩
theorem zqV(W:World):yM 79 #[.int .i64 13] W (zml 111 116 #[] 4 W):=by
 have D:Hid (∀ W,Calls _ _ _ _ _):=fun W=>zcE 111 116 #[] 4 W
 go_enter Tryz.func79,Tryz.ntmps79
 go_wp2_with fail
 refine ye (D.out _) ?_;rintro e V ⟨c1,c2,c3,rfl,E,v1,v2,F⟩;have I:Hid _:=E;have J:Hid _:=And.intro v1 (And.intro v2 F);clear E v1 v2 F D
 go_wp2
 go_ret;exact⟨c1,c2,c3,rfl,I.out,J.out⟩
theorem zrb(W:World):yM 79 #[.int .i64 21] W (zml 111 117 #[] 5 W):=by
 have D:Hid (∀ W,Calls _ _ _ _ _):=fun W=>zcE 111 117 #[] 5 W
 go_enter Tryz.func79,Tryz.ntmps79
 go_wp2_with fail
 refine ye (D.out _) ?_;rintro e V ⟨c1,c2,c3,rfl,E,v1,v2,F⟩;have I:Hid _:=E;have J:Hid _:=And.intro v1 (And.intro v2 F);clear E v1 v2 F D
 go_wp2
 go_ret;exact⟨c1,c2,c3,rfl,I.out,J.out⟩
theorem zqY(W:World):yM 79 #[.int .i64 18] W fun e w' => ∃ E,e=.returned (.func (.func 143) #[] #[.pointer (some ⟨E,0,none⟩)])/\Below W.heap.size W w' /\ w'.cell? ⟨E,0,none⟩=some (.func (.func 121) #[] #[]):=by
 have D:Hid (∀ W,Calls _ _ _ _ _):=fun W=>zcd 121 W
 go_enter Tryz.func79,Tryz.ntmps79
 go_wp2_with fail
 refine ye (D.out _) ?_;rintro e V ⟨rfl,F,hc⟩;have I:Hid _:=F;have J:Hid _:=hc;clear F hc D
 go_wp2
 go_ret;exact⟨_,rfl,I.out,J.out⟩
theorem zqZ(W:World):yM 79 #[.int .i64 19] W fun e w' => ∃ E,e=.returned (.func (.func 143) #[] #[.pointer (some ⟨E,0,none⟩)])/\Below W.heap.size W w' /\ w'.cell? ⟨E,0,none⟩=some (.func (.func 122) #[] #[]):=by
 have D:Hid (∀ W,Calls _ _ _ _ _):=fun W=>zcd 122 W
 go_enter Tryz.func79,Tryz.ntmps79
 go_wp2_with fail
 refine ye (D.out _) ?_;rintro e V ⟨rfl,F,hc⟩;have I:Hid _:=F;have J:Hid _:=hc;clear F hc D
 go_wp2
 go_ret;exact⟨_,rfl,I.out,J.out⟩
theorem zra(W:World):yM 79 #[.int .i64 20] W fun e w' => ∃ E,e=.returned (.func (.func 143) #[] #[.pointer (some ⟨E,0,none⟩)])/\Below W.heap.size W w' /\ w'.cell? ⟨E,0,none⟩=some (.func (.func 123) #[] #[]):=by
 have D:Hid (∀ W,Calls _ _ _ _ _):=fun W=>zcd 123 W
 go_enter Tryz.func79,Tryz.ntmps79
 go_wp2_with fail
 refine ye (D.out _) ?_;rintro e V ⟨rfl,F,hc⟩;have I:Hid _:=F;have J:Hid _:=hc;clear F hc D
 go_wp2
 go_ret;exact⟨_,rfl,I.out,J.out⟩
theorem zqX(W:World):yM 79 #[.int .i64 17] W fun e w' => ∃ O,zml 113 143 #[.pointer (some ⟨O,0,none⟩)] 3 W e w' /\ w'.cell? ⟨O,0,none⟩=some (.func (.func 120) #[] #[]):=by
 have D:Hid (∀ W,Calls _ _ _ _ _):=fun W=>zcd 120 W;have J:Hid (∀ E W,Calls _ _ _ _ _):=fun E W=>zcE 113 143 E 3 W
 go_enter Tryz.func79,Tryz.ntmps79
 go_wp2_with fail
 refine ye (D.out _) ?_;rintro e V ⟨rfl,I,hc⟩;have M:Hid _:=I;have U:Hid _:=hc;clear I hc D
 go_wp2_with fail
 refine ye (J.out _ _) ?_;rintro e V2 ⟨c1,c2,c3,rfl,I,v1,v2,T⟩;have F:Hid _:=I;have Z:Hid _:=And.intro v1 (And.intro v2 T);clear I v1 v2 T J
 go_wp2
 go_ret;exact⟨_,⟨c1,c2,c3,rfl,M.out.trans (F.out.mono M.out.size),Z.out⟩,zab U.out F.out⟩
theorem zqW(W:World):yM 79 #[.int .i64 16] W fun e w' => e=.returned (.func (.func 118) #[] #[])/\Below W.heap.size W w' := by
 go_enter Tryz.func79,Tryz.ntmps79
 go_wp2
 go_ret;exact⟨rfl,yk _ _⟩
theorem zrc(k:Int)(W:World)(U:k≠9/\k≠10/\k≠12/\k≠13/\k≠21/\k≠16/\k≠17/\k≠18/\k≠19/\k≠20):yM 79 #[.int .i64 k] W fun e w' => e=.returned (.func (.func 124) #[] #[])/\Below W.heap.size W w' := by
 obtain⟨h1,E,F,I,h5,J,M,O,T,D⟩:=U;have z1:(k == 9)=false:=by simp[h1]
 have z2:(k == 10)=false:=by simp[E]
 have z3:(k == 12)=false:=by simp[F]
 have z4:(k == 13)=false:=by simp[I]
 have z5:(k == 21)=false:=by simp[h5]
 have z6:(k == 16)=false:=by simp[J]
 have z7:(k == 17)=false:=by simp[M]
 have z8:(k == 18)=false:=by simp[O]
 have z9:(k == 19)=false:=by simp[T]
 have Z:(k == 20)=false:=by simp[D]
 clear h1 E F I h5 J M O T D
 go_enter Tryz.func79,Tryz.ntmps79
 go_wp2
 go_ret;exact⟨rfl,yk _ _⟩
theorem zjZ.mk{O:W0}{d me:Nat}{W:Wl}{E:Int}{L M:List Pt}{s:SD}{V D:World}{F:Option Addr}{J:Nat}(I:SW O d me W s D)(Z:Below V.heap.size V D)(U:E=0->M=L)(T:zbK (SX O.heap.size d s) D F M)(hs:SlA F M.length J):zjZ O d me W W E L s.g1 V (.returned (.tuple #[.slice F M.length J,.int .i64 E])) D :=
 ⟨F,J,M,s,rfl,zaq.of_below Z,fun h=>by have e:=U h;rw[e] at T hs;exact⟨e,I,T,hs⟩,fun _=>I⟩
theorem zyX(me:Nat)(W:Wl)(x:Ac):PBy 123 me W x W (zaU W.pt (many W) x.n me (zaD W me)) (zhX W.pt x.n):=fun w0 d s V I=>by
 obtain⟨xk,xa,xb,xc,J⟩:=x;have II:Hid (SW w0 d me W s V):=I;have b0:=I.lt;have b1:Hid _:=b0;obtain⟨l0,l1,l2,l3,l4,lf,ll⟩:=zal I.box;have b9:d<V.heap.size:=ll;have n8:W.fs.length<=8:=I.rt.fs.few;have b3:me<W.fs.length:=I.sf;clear b0;dsimp only;have a6:∀ T,Below V.heap.size V T->∀ b,SX w0.heap.size d s b->b<T.heap.size:=fun T hV b hb=>yz (b1.out b hb) hV.size;have F:=I.big;have D:Hid (∀ T,Below V.heap.size V T->Calls _ _ _ _ _):=fun T hV=>zuN (SX w0.heap.size d s) s.a4 s.c4 W.pt (many W) J me (zaD W me) T (a6 T hV) F.1 F.2 I.dp.pc (I.dp.pt.off (zaq.of_below hV));have EP:Hid (zaU W.pt (many W) J me (zaD W me)=0->zhU W.pt (many W) J me (zaD W me)=zhX W.pt J):=fun h=>yb h;show yM _ #[.pointer (some ⟨d,0,none⟩),.int .i64 (me:Int),.int .i64 (zaD W me),.agg #[.int .i64 xk,.int .i64 xa,.int .i64 xb,.int .i64 xc,.int .i64 J]] V _;obtain⟨n,hn⟩:∃ n,W.fs.length=n:=⟨_,rfl⟩;have HN:Hid (W.fs.length=n):=hn;obtain⟨nt,U⟩:∃ n,W.pt.length=n:=⟨_,rfl⟩;have b5:Hid (W.pt.length=nt):=U;rw[U] at l4 D;rw[hn] at l0 l1 l2 l3 n8 b3;rw[show many W=(n:Int) from by rw[<- hn];rfl] at D EP |-;generalize zaD W me=tn at *;generalize zaU W.pt n J me tn=E at *;generalize zhU W.pt n J me tn=M at *;generalize zhX W.pt J=L at *;clear hn U I a6 F;have b4:(me:Int)<(n:Int):=by omega
 go_enter Tryz.func123,Tryz.ntmps123
 go_upto_region 1 with fail
 obtain⟨V1,a5,O,y0,y1,y2,y3,y4,sV⟩:=zcz V xk xa xb xc J;rw[a5];clear a5;replace l0:=zab l0 O.out;replace l1:=zab l1 O.out;replace l2:=zab l2 O.out;replace l3:=zab l3 O.out;replace l4:=zab l4 O.out
 go_region_held3 (fun Z=>Z.cell? ⟨d,0,none⟩=some (.slice s.a0 n s.c0)/\Z.cell? ⟨d,4,none⟩=some (.slice s.a4 nt s.c4)/\Z.cell? ⟨V.heap.size,4,none⟩=some (.int .i64 J)) (go_keep) (first|(go_at_call 147;refine ye (D.out V1.drew O.out.drew) ?_;rintro e w3 ⟨va,vc,rfl,a7,a9,a8⟩;have B3:Hid (Below V1.heap.size V1 w3):=(yk _ _).drew.trans a7;have b6:=zab l0 B3.out;have b7:=zab l4 B3.out;have b8:=zab y4 B3.out;have b2:Hid _:=a9;have HP:Hid _:=a8;clear a7 a9 a8))
 have BW:Hid (Below V.heap.size V w3):=O.out.trans (B3.out.mono O.out.size)
 go_wp2
 exact yw (v:=.tuple #[.slice va M.length vc,.int .i64 E]) (by simp[results,Tryz.results123,go_sem]) rfl (zjZ.mk (II.out.below BW.out) BW.out EP.out HP.out b2.out)
theorem zyQ(me:Nat)(W:Wl)(x:Ac)(hm:zaz W.fs x.a=0):PBy 120 me W x W (zkr W.pt (many W) x.n me (zaD W me) x.a (zaD W x.a)) (zhJ W.pt x.n x.a (zaD W x.a)):=fun w0 d s V I=>by
 obtain⟨xk,xa,xb,xc,O⟩:=x;have II:Hid (SW w0 d me W s V):=I;have b1:=I.lt;have b3:Hid _:=b1;obtain⟨l0,l1,l2,l3,l4,lf,ll⟩:=zal I.box;have d4:d<V.heap.size:=ll;have n8:W.fs.length<=8:=I.rt.fs.few;have b5:me<W.fs.length:=I.sf;clear b1;dsimp only;have a6:∀ U,Below V.heap.size V U->∀ b,SX w0.heap.size d s b->b<U.heap.size:=fun U hV b hb=>yz (b3.out b hb) hV.size;have F:=I.big;obtain⟨qa,a9,b6,_⟩:=zdv hm;dsimp only at a9;subst a9;obtain⟨fb,fo,ea,_,ft,fl⟩:=I.fcell b6;rw[ea] at l0;have TA:=zmc W qa;obtain⟨ta,b2⟩:∃ t,(fr W.fs qa).t=t:=⟨_,rfl⟩;rw[b2] at ft TA;clear b2 ea hm;have D:Hid (∀ U,Below V.heap.size V U->Calls _ _ _ _ _):=fun U hV=>zuk (SX w0.heap.size d s) s.a4 s.c4 W.pt (many W) O me (zaD W me) qa ta U (a6 U hV) F.1 F.2 I.dp.pc (I.dp.pt.off (zaq.of_below hV));have EP:Hid (zkr W.pt (many W) O me (zaD W me) qa ta=0->zhR W.pt (many W) O me (zaD W me) qa ta=zhJ W.pt O qa ta):=fun h=>yb h;rw[TA];show yM _ #[.pointer (some ⟨d,0,none⟩),.int .i64 (me:Int),.int .i64 (zaD W me),.agg #[.int .i64 xk,.int .i64 qa,.int .i64 xb,.int .i64 xc,.int .i64 O]] V _;obtain⟨n,hn⟩:∃ n,W.fs.length=n:=⟨_,rfl⟩;have HN:Hid (W.fs.length=n):=hn;obtain⟨nt,Z⟩:∃ n,W.pt.length=n:=⟨_,rfl⟩;have b8:Hid (W.pt.length=nt):=Z;rw[Z] at l4 D;rw[hn] at l0 l1 l2 l3 n8 b5;rw[show many W=(n:Int) from by rw[<- hn];rfl] at D EP |-;have d6:(qa:Int)<(n:Int):=by omega
 generalize zaD W me=tn at *;generalize zkr W.pt n O me tn qa ta=E at *;generalize zhR W.pt n O me tn qa ta=M at *;generalize zhJ W.pt O qa ta=L at *;clear hn Z I a6 F;have b7:(me:Int)<(n:Int):=by omega
 go_enter Tryz.func120,Tryz.ntmps120
 go_upto_region 1 with fail
 obtain⟨V1,a5,T,y0,y1,y2,y3,y4,sV⟩:=zcz V xk qa xb xc O;rw[a5];clear a5;replace l0:=zab l0 T.out;replace l1:=zab l1 T.out;replace l2:=zab l2 T.out;replace l3:=zab l3 T.out;replace l4:=zab l4 T.out;replace ft:=zab ft T.out;have d5:fb<V1.heap.size:=by omega
 go_region_held3 (fun J=>J.cell? ⟨d,0,none⟩=some (.slice (some ⟨fb,fo,none⟩) n s.c0)/\J.cell? ⟨d,4,none⟩=some (.slice s.a4 nt s.c4)/\J.cell? ⟨V.heap.size,1,none⟩=some (.int .i64 qa)/\J.cell? ⟨V.heap.size,4,none⟩=some (.int .i64 O)/\J.cell? ⟨fb,fo+qa*5+3,none⟩=some (.int .i64 ta)) (go_keep) (first|(go_at_call 144;refine ye (D.out V1.drew T.out.drew) ?_;rintro e w3 ⟨va,vc,rfl,a7,b0,a8⟩;have B3:Hid (Below V1.heap.size V1 w3):=(yk _ _).drew.trans a7;have c6:=zab l0 B3.out;have c7:=zab l4 B3.out;have c8:=zab y1 B3.out;have c9:=zab y4 B3.out;have b9:=zab ft B3.out;have b4:Hid _:=b0;have HP:Hid _:=a8;clear a7 b0 a8))
 have BW:Hid (Below V.heap.size V w3):=T.out.trans (B3.out.mono T.out.size)
 go_wp2
 exact yw (v:=.tuple #[.slice va M.length vc,.int .i64 E]) (by simp[results,Tryz.results120,go_sem]) rfl (zjZ.mk (II.out.below BW.out) BW.out EP.out HP.out b4.out)
theorem zmI{l:List Int}:zan (0 :: l)=zan l:=yb rfl
theorem zpy{a:Int}{l:List Int}(h:a≠0):zan (a :: l)=a:=ya h
theorem zlr(A:WA)(W:Wl)(k:Int)(st:Bool)(w:World)(H:zao W)(hW:zeY w A W):yM 38 #[wlV A W,.agg #[.int .i64 k,.bool st]] w fun e w' => e=.returned (.int .i64 (zan [zaz W.fs k,if bits .and .i64 (zjo W k.toNat) 1=0 then 7 else 0,if 4760<(rlm W k.toNat).t.length then 1 else 0,if st=false/\(que W k.toNat).length=0 then 8 else 0]))/\Below w.heap.size w w' := by
 obtain⟨a0,a1,a2,a3,a4,c0,c1,c2,c3,c4⟩:=A;have n8:W.fs.length<=8:=H.fs.few;have lr:=H.lr;have lq:=H.lq;have lp:=H.lp;have D:Hid (∀ V2,Below w.heap.size w V2->Calls _ _ _ _ _):=fun V2 hV=>zcB a0 c0 W.fs k V2 (by omega) (hW.fs.below hV)
 have HF:Hid (∀ i:Nat,i<W.fs.length->∃ b o,a0=some ⟨b,o,none⟩/\w.cell? ⟨b,o+i*5+2,none⟩=some (.int .i64 (zjo W i))/\b<w.heap.size):=fun i hi=>by
  obtain⟨b,o,e,h0,h1,U,_⟩:=hW.fs i hi;exact⟨b,o,e,U,yd _ _ U⟩
 have HR:Hid (∀ i:Nat,i<W.fs.length->∃ b o ta tc,a1=some ⟨b,o,none⟩/\w.cell? ⟨b,o+i*4+3,none⟩=some (.slice ta (rlm W i).t.length tc)/\b<w.heap.size):=fun i hi=>by
  obtain⟨b,o,A,e,h0,h1,U,Z,_⟩:=hW.rs i (by rw[lr];exact hi);exact⟨b,o,A.a3,A.c3,e,Z,yd _ _ Z⟩
 have HQ:Hid (∀ i:Nat,i<W.fs.length->∃ b o qa qc,a3=some ⟨b,o,none⟩/\w.cell? ⟨b,o+i,none⟩=some (.slice qa (que W i).length qc)/\b<w.heap.size):=fun i hi=>by
  obtain⟨b,o,qa,qc,e,h0,_⟩:=hW.qs i (by rw[lq];exact hi);exact⟨b,o,qa,qc,e,h0,yd _ _ h0⟩
 have HK:Hid (zaz W.fs k=0->0<=k/\k<W.fs.length):=fun h=>by
  unfold zaz at h;by_cases hk:0<=k/\k<W.fs.length
  ·exact hk
  ·rw[yb hk] at h;exact absurd h (by decide)
 clear hW H;show yM _ #[.agg #[.slice a0 W.fs.length c0,.slice a1 W.rs.length c1,.slice a2 W.ps.length c2,.slice a3 W.qs.length c3,.slice a4 W.pt.length c4],.agg #[.int .i64 k,.bool st]] w _;rw[lr,lq,lp];clear lr lq lp;generalize W.fs.length=n at *;generalize W.pt.length=nt at *;generalize zaz W.fs k=E at *;obtain⟨q,I⟩:∃ q,zan [E,if bits .and .i64 (zjo W k.toNat) 1=0 then 7 else 0,if 4760<(rlm W k.toNat).t.length then 1 else 0,if st=false/\(que W k.toNat).length=0 then 8 else 0]=q:=⟨_,rfl⟩;have HE:Hid _:=I;rw[I];clear I
 go_enter Tryz.func38,Tryz.ntmps38
 go_upto_region 1 with fail
 obtain⟨O,J⟩:∃ O,(w.alloc (.cells #[.slice a0 n c0,.slice a1 n c1,.slice a2 n c2,.slice a3 n c3,.slice a4 nt c4] 28)).alloc (.cells #[.int .i64 k,.bool st] 40)=O:=⟨_,rfl⟩;have M:Hid (Below w.heap.size w O):=by rw[<- J];exact(zaa _ _).trans ((zaa _ _).mono (by simp))
 have l0:O.cell? ⟨w.heap.size,0,none⟩=some (.slice a0 n c0):=by rw[<- J];exact zax _ _ _ 0 _ rfl
 have l1:O.cell? ⟨w.heap.size,1,none⟩=some (.slice a1 n c1):=by rw[<- J];exact zax _ _ _ 1 _ rfl
 have l3:O.cell? ⟨w.heap.size,3,none⟩=some (.slice a3 n c3):=by rw[<- J];exact zax _ _ _ 3 _ rfl
 have y0:O.cell? ⟨w.heap.size+1,0,none⟩=some (.int .i64 k):=by rw[<- J];exact zay _ _ _ 0 _ rfl
 have y1:O.cell? ⟨w.heap.size+1,1,none⟩=some (.bool st):=by rw[<- J];exact zay _ _ _ 1 _ rfl
 have T:Hid (Calls _ _ _ _ _):=D.out O M.out;clear D;rw[J];clear J;by_cases h0:E=0
 ·subst h0;obtain⟨a6,b0⟩:=HK.out rfl;obtain⟨i,rfl⟩:∃ i:Nat,k=i:=⟨k.toNat,(Int.toNat_of_nonneg a6).symm⟩;have hi:i<n:=by omega
  obtain⟨fb,fo,rfl,f2,fl⟩:=HF.out i hi;obtain⟨rb,ro,ta,tc,rfl,r3,rl⟩:=HR.out i hi;obtain⟨qb,qo,qa,qc,rfl,q0,ql⟩:=HQ.out i hi;replace f2:=zab f2 M.out;replace r3:=zab r3 M.out;replace q0:=zab q0 M.out;have I:=HE.out;rw[zmI,yi] at I;clear HF HR HQ HK HE;generalize zjo W i=mm at *;generalize (rlm W i).t.length=tl at *;generalize (que W i).length=qn at *;by_cases h1:bits .and .i64 mm 1=0
  ·rw[yb h1,zpy (by decide)] at I;subst I
   go_wp2_with (go_at_call 70;refine ye T.out ?_;rintro e w3 ⟨rfl,F⟩;subst F)
   go_ret;exact⟨rfl,M.out⟩
  ·rw[ya h1,zmI] at I;have a8:(bits .and .i64 mm 1 == 0)=false:=(by simp[h1]);by_cases U:4760<tl
   ·rw[yb U,zpy (by decide)] at I;subst I;have a5:(4760:Int)<(tl:Int):=by omega
    go_wp2_with (go_at_call 70;refine ye T.out ?_;rintro e w3 ⟨rfl,F⟩;subst F)
    go_ret;exact⟨rfl,M.out⟩
   ·rw[ya U,zmI] at I;have a5:¬ (4760:Int)<(tl:Int):=(by omega);cases st
    ·by_cases Z:qn=0
     ·subst Z;rw[yb ⟨rfl,rfl⟩,zpy (by decide)] at I;subst I
      go_wp2_with (go_at_call 70;refine ye T.out ?_;rintro e w3 ⟨rfl,F⟩;subst F)
      go_ret;exact⟨rfl,M.out⟩
     ·rw[ya (fun h=>Z h.2),zmI] at I;change (0:Int)=q at I;subst I;have a9:((qn:Int) == 0)=false:=by simp[Z]
      go_wp2_with (go_at_call 70;refine ye T.out ?_;rintro e w3 ⟨rfl,F⟩;subst F)
      go_ret;exact⟨rfl,M.out⟩
    ·rw[ya (fun h=>absurd h.1 (by decide)),zmI] at I;change (0:Int)=q at I;subst I
     go_wp2_with (go_at_call 70;refine ye T.out ?_;rintro e w3 ⟨rfl,F⟩;subst F)
     go_ret;exact⟨rfl,M.out⟩
 ·have I:=HE.out;rw[zpy h0] at I;subst I;clear HF HR HQ HK;have a7:(E == 0)=false:=by simp[h0]
  go_wp2_with (go_at_call 70;refine ye T.out ?_;rintro e w3 ⟨rfl,F⟩;subst F)
  go_ret;exact⟨rfl,M.out⟩
def Sm(e:Int):Prop:=0<=e/\e<=20
theorem zqc:∀ {l:List Int},(∀ e ∈ l,Sm e)->Sm (zan l)
 | [],_=>⟨Int.le_refl _,by decide⟩
 | e :: l,h=>by
  show Sm (if e=0 then zan l else e);split
  ·exact zqc (fun e D=>h e (List.mem_cons_of_mem _ D))
  ·exact h e (List.mem_cons_self)
theorem zaX{p:Prop}[Decidable p]{a b:Int}(ha:Sm a)(D:Sm b):Sm (if p then a else b):=by split <;> assumption
theorem sm0:Sm 0:=⟨by decide,by decide⟩
theorem sm1:Sm 1:=⟨by decide,by decide⟩
theorem sm2:Sm 2:=⟨by decide,by decide⟩
theorem sm3:Sm 3:=⟨by decide,by decide⟩
theorem sm4:Sm 4:=⟨by decide,by decide⟩
theorem sm5:Sm 5:=⟨by decide,by decide⟩
theorem sm6:Sm 6:=⟨by decide,by decide⟩
theorem sm7:Sm 7:=⟨by decide,by decide⟩
theorem sm8:Sm 8:=⟨by decide,by decide⟩
theorem zqe(S:List Nd)(p u:Int):Sm (zda S p u):=by
 unfold zda ztq;exact zaX (zaX (zaX (zaX sm0 sm5) sm5) sm4) sm4
theorem zqd(S:List Nd):∀ hs,Sm (zfj S hs)
 | []=>sm0
 | h :: r=>zaX (zqd S r) (zqe _ _ _)
theorem zdR{S:List Nd}(h:zbo S=0)(p u:Int):Sm (zaG S p u):=by
 unfold zaG;rw[yb h];exact zqe _ _ _
theorem zuQ{S:List Nd}(h:zbo S=0)(t:Int):Sm (zfr S t):=by
 unfold zfr;rw[yb h];exact zaX (zaX sm0 sm1) sm2
theorem zqb(m:Nat):∀ l,Sm (cellsE m l)
 | []=>sm0
 | x :: l=>zaX (zqb m l) (zaX sm2 (zaX sm1 (zaX sm4 sm0)))
theorem zxh(G:List Cl):Sm (zav G):=zaX sm1 (zqb _ _)
theorem zjN(L:List Fr)(k:Int):Sm (zaz L k):=zaX sm4 (zaX sm5 sm0)
theorem zAw{L:List Fr}(h:zaN L=0)(f t x:Int):Sm (zdN L f t x):=by
 have h1:Sm (zfn L [f,t]):=by
  rw[zed,h];exact zaX sm0 (zaX (zjN _ _) (zjN _ _))
 exact zaX h1 (zaX sm3 (zaX sm0 sm7))
theorem zgf{E:Int}{R:Rl}{o:Int}(h:Sm E):Sm (ans E R o).e:=by
 unfold ans;split
 ·exact sm0
 ·exact h
theorem zxi{L:List Pt}{F:Int}(h:zba L F=0)(k o t:Int):Sm (zaU L F k o t):=by
 unfold zaU;rw[h];exact zaX sm0 (zaX sm4 (zaX sm7 (zaX sm5 sm0)))
theorem zqf{R:Rl}(h:zbo R.s=0)(n:Int):Sm (zbu R n):=by
 have h1:∀ m,Sm (zdb R m):=fun m=>by
  induction m with
  | zero=>exact sm0
  | succ m D=>exact zaX (zdR h _ _) D
 exact zaX (h1 _) sm2
theorem zdd{p:Prop}[Decidable p]{a b:Rs}(ha:Sm a.e)(D:Sm b.e):Sm (if p then a else b).e:=by split <;> assumption
theorem zqg:∀ (q:List Tst) (i:Nat),Sm (zeV i q)
 | [],_=>sm0
 | te :: r,k=>zaX (zaX sm3 (zqg r (k+1))) sm2
theorem zBk{R:Rl}(F:zaF R=0)(x:Ac):Sm (doF R x).e:=by
 have h:zbo R.s=0:=(zfC _).2 (zaB F).1;unfold doF;rw[yb F];have E:∀ g n,Sm (zxw R g n).e:=fun g n=>zgf (zaX (zaX sm0 sm2) (zdR h _ _))
 have D:∀ g1 g2 hs,Sm (zdK R g1 g2 hs).e:=fun g1 g2 hs=>zgf (by
  have I:Sm (zaY R.s ((g1.1,g1.2) ::(g2.1,g2.2) :: hs)):=by
   unfold zaY;rw[yb h];exact zqd _ _
  unfold zjX;refine zaX (zaX ?_ sm6) I
  cases hs with
  | nil=>exact sm0
  | cons a l=>exact zaX sm0 sm6)
 unfold doG;refine zdd (zdd (zgf (zuQ h _)) (zdd (zgf (zaX (zaX sm0 sm6) (zdR h _ _))) (zdd (zgf (zaX (zaX sm6 sm0) (zdR h _ _))) (zdd (zgf (zdR h _ _)) (zdd (E _ _) (zdd (zdd (E _ _) sm4) (zdd (zgf (zaX (zaX (zqg _ _) sm1) (zdR h _ _))) (zdd (zgf (zdR h _ _)) (zdd (zdd (zdd (zgf (zaX (zaX sm6 (zuQ h _)) (zdR h _ _))) (zdd (zgf (zaX (zaX sm6 sm0) (zdR h _ _))) (zdd (D _ _ _) (zdd (D _ _ _) sm4)))) sm4) sm3))))))))) sm4
theorem zdz{Es:List Int}{W V:Wl}{o:Int}(h:∀ e ∈ Es,Sm e):Sm (zfe Es W V o).e:=by
 have e:(zfe Es W V o).e=zan Es:=by
  unfold zfe;split
  ·rename_i h;exact h.symm
  ·rfl
 rw[e];exact zqc h
theorem zdS{p:Prop}[Decidable p]{a b:Ws}(ha:Sm a.e)(D:Sm b.e):Sm (if p then a else b).e:=by split <;> assumption
theorem zrR{a:Int}(ha:Sm a):∀ e ∈ [a],Sm e:=fun e D=>by
 simp only[List.mem_cons,List.not_mem_nil,or_false] at D;subst D;exact ha
theorem zAv{a b:Int}(ha:Sm a)(E:Sm b):∀ e ∈ [a,b],Sm e:=fun e D=>by
 simp only[List.mem_cons,List.not_mem_nil,or_false] at D;rcases D with rfl|rfl
 ·exact ha
 ·exact E
theorem zyY{a b c:Int}(ha:Sm a)(E:Sm b)(hc:Sm c):∀ e ∈ [a,b,c],Sm e:=fun e D=>by
 simp only[List.mem_cons,List.not_mem_nil,or_false] at D;rcases D with rfl|rfl|rfl
 ·exact ha
 ·exact E
 ·exact hc
theorem zAu{W:Wl}(H:zao W){k:Nat}(J:k<W.fs.length)(x:Ac):Sm (zdT W k x).e:=by
 have I:zaN W.fs=0:=zds.2 H.fs;have M:zba W.pt (many W)=0:=zcI.2 H.pt;have O:zbo (rlm W k).s=0:=(zfC _).2 (zaB (H.rs k J)).1;have E:∀ t x,Sm (zdN W.fs k t x):=fun t x=>zAw I _ _ _;have F:∀ n t,Sm (zaU W.pt (many W) n k t):=fun n t=>zxi M _ _ _
 have D:∀ a b,Sm (zqi W k a b).e:=fun a b=>by
  by_cases h:zdN W.fs k a 1=0
  ·obtain⟨q,rfl,T,_⟩:=zdv (zca h).2.2.1;exact zdz (zyY (E _ _) (zaX sm0 sm4) (zdR ((zfC _).2 (zaB (H.rs _ (by rw[yi];exact T))).1) _ _))
  ·unfold zqi zfe;have e:zan [zdN W.fs k a 1,if isH b then 0 else 4,zaG (rlm W a.toNat).s (hd (rlm W a.toNat) b).1 (hd (rlm W a.toNat) b).2]=zdN W.fs k a 1:=ya h;rw[e,ya h];exact E _ _
 unfold zdT;refine zdS (zdz (zrR (E _ _))) (zdS (zdz (zrR (E _ _))) (zdS (D _ _) (zdS (zdz (zyY (E _ _) (zqf O _) (zaX sm1 sm0))) (zdS (zdz (zAv (E _ _) ?_)) (zdS (zdz (zrR ?_)) (zdS (zdz (zAv (E _ _) (zaX (F _ _) (zaX sm4 (zaX sm2 sm0))))) (zdS (zdz (zyY (zaX sm7 sm0) (zqf O _) (zaX (F _ _) (zaX (zxh _) (zaX sm5 (zaX sm1 sm0)))))) (zdS (zdz (zrR (zaX (F _ _) (zaX sm8 sm0)))) (zdS (zdz (zrR (F _ _))) (zdz (zrR (zBk (H.rs k J) x))))))))))))
 ·unfold goE zcv;rw[yb I];exact zaX (zjN _ _) (zaX sm2 (zaX sm1 sm0))
 ·unfold zfw;rw[M];exact zaX sm0 (zaX sm4 (zaX sm2 (zaX sm1 sm0)))
end Go.Proofs.YtcbcpomacdngmaaGreat
