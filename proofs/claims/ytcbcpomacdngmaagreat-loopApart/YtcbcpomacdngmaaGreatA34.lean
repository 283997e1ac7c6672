/-
  x
-/
import Derived.Test.YtcbcpomacdngmaaGreatA32
namespace Go.Proofs.YtcbcpomacdngmaaGreat
set_option maxRecDepth 100000
set_option maxHeartbeats 4000000
set_option linter.unusedVariables false
open Go.RowKit Go.ChangeShapes Go.WideShapes Tryz
abbrev GL(f:Nat)(S T:List Nd)(more:Array Value)(h:Int × Int)(E:Int):Prop:=∀ (a:OA) (c:Nat) W,aD W a S ->
 yO f (#[.agg #[.slice a S.length c]] ++ more) W fun e w' => ∃ D F,e=.returned (.tuple #[.agg #[.slice D T.length F],.agg #[.int .i64 h.1,.int .i64 h.2],.int .i64 E])/\Below W.heap.size W w' /\ St (fun b=>b<W.heap.size) (fun V=>aD V D T) w'
theorem Ud(S:List Nd)(t:Int)(wf:WF S):GL 182 S (rS (iR S t) (mkS S t)) #[.int .i64 t] (rH (iR S t) (mkH S)) (iR S t):=fun a c W J=>by
 have U:S.length<=9223372036854775807:=by have:=wf.small;omega
 by_cases D:iR S t=0
 ·obtain⟨_,O,M,I,E⟩:=CJ D;rw[D,lM];refine(RN a c S t W wf.small (sK wf) J ((mU S).2 wf) O.1 O.2 (jA S) M I (wf.uses M).1 E).mono (fun e w' ⟨g,F,hb,hg,ho⟩=>⟨some ⟨g,0,none⟩,S.length,?_,hb,fun V Z=>(ho.up (fun b h1 T=>Z.block b T (fun h3=>oaa))).nds⟩);rw[F];unfold mkS;rw[List.length_set];rfl
 ·rw[nC D,EI D];exact(QS a c S t _ W U wf.big J rfl D).mono (fun e w' ⟨F,hb⟩=>⟨none,0,F,hb,fun V _=>qM V⟩)
theorem Ue(S:List Nd)(h:Int × Int)(cl:Bool)(wf:WF S):GL 193 S (rS (oV S h.1 h.2) (xN S h.1 cl)) #[hdV h,.bool cl] (rH (oV S h.1 h.2) (mkH S)) (oV S h.1 h.2):=fun a c W O=>by
 obtain⟨P,U⟩:=h;dsimp only[hdV];have hN:S.length<=9223372036854775807:=by have:=wf.small;omega
 unfold oV;by_cases D:aP S P U=0
 ·rw[ye D];obtain⟨_,k,e,Z,hu,a5⟩:=lC D;subst e;by_cases M:iD S (k:Int)=true
  ·rw[ye M,nC oae,EI oae];exact(Lm a c S k U cl W wf O Z D M).mono (fun e w' ⟨E,hb⟩=>⟨none,0,E,hb,fun V _=>qM V⟩)
  ·rw[yd M];have F:iD S (k:Int)=false:=(by simpa using M);by_cases I:iR S 0=0
   ·obtain⟨_,ht,hf,T,J⟩:=CJ I;rw[I,lM];unfold xN;rw[yk];refine(Lj a c S k (jA S) U cl W wf O Z D F hf T J).mono (fun e w' ⟨g,E,hb,hg,ho⟩=>⟨some ⟨g,0,none⟩,S.length,?_,hb,fun V hV=>(ho.up (fun b h1 h2=>hV.block b h2 (fun h3=>oaa))).nds⟩);rw[E,List.length_set];rfl
   ·rw[nC I,EI I];exact(Lp a c S k U _ cl W wf O Z D F rfl I).mono (fun e w' ⟨E,hb⟩=>⟨none,0,E,hb,fun V _=>qM V⟩)
 ·rw[yd D,nC D,EI D];exact(Ll a c S P U _ cl W hN wf.big O rfl D).mono (fun e w' ⟨E,hb⟩=>⟨none,0,E,hb,fun V _=>qM V⟩)
theorem vX{w:Wd}{b t o:Nat}{v u:Value}(h:w.heap[b]?=some (.cells #[v,u] t (0,0))):w.frozen? ⟨b,o,none⟩=false:=by
 simp[World.frozen?,h]
theorem GM(V:Wd)(D E:Obj):((V.alloc D).alloc E).heap[V.heap.size]?=some D:=((aB (V.alloc D) E).block _ oac).trans (yN V D)
theorem GQ(V:Wd)(E D:Obj):((V.alloc E).alloc D).heap[V.heap.size+1]?=some D:=by
 have h:=yN (V.alloc E) D;rw[yw] at h;exact h
theorem Uf(w:Wd)(R:Rl)(x:Ac)(hl:R.hs.length=16)(ha:isH x.a)(T:List Nd)(hh:Int × Int)(E:Int)(hF:GL 182 R.s T #[.int .i64 x.n] hh E)(q:Rs)(hq:q.e=E)(b2:E=0->q=⟨0,⟨T,R.hs.set x.a.toNat hh,R.i,R.t⟩,0⟩) :
  iK 165 #[] w R x q:=fun d h g A V I=>by
 rw[hq];obtain⟨a0,a1,a2,a3,c0,c1,c2,c3⟩:=A;obtain rfl:a0=some ⟨g,0,none⟩:=I.a0;obtain rfl:a1=some ⟨h,0,none⟩:=I.a1;obtain⟨xk,xa,xb,xc,xn⟩:=x;obtain⟨p,hp,c9⟩:=iJ ha;dsimp only at hp;subst hp;obtain⟨u0,u1⟩:=I.hand (k:=p) oaa;have II:Hid (WI w R d h g _ V):=I;have D:Hid (∀ W,Bl V W->yO 182 #[.agg #[.slice (some ⟨g,0,none⟩) R.s.length c0],.int .i64 xn] W fun e w' => ∃ U c', e=.returned (.tuple #[.agg #[.slice U T.length c'],.agg #[.int .i64 hh.1,.int .i64 hh.2],.int .i64 E])/\Below W.heap.size W w' /\ St (fun b=>b<W.heap.size) (fun V=>aD V U T) w'):=fun W hW=>hF (some ⟨g,0,none⟩) c0 W (I.nds.below hW);clear hF;obtain⟨l0,l1,l2,l3,fz,lt⟩:=aV I.box;dsimp only at l0 l1 l2 l3;rw[hl] at l1;have d7:d<V.heap.size:=lt;have d8:h<V.heap.size:=yi _ _ u0;have e9:(p:Int)<16:=oaa
 show yO _ #[.pointer (some ⟨d,0,none⟩),.agg #[.int .i64 xk,.int .i64 p,.int .i64 xb,.int .i64 xc,.int .i64 xn]] V _;obtain⟨ns,b1⟩:∃ n,R.s.length=n:=⟨_,rfl⟩;have d4:Hid (R.s.length=ns):=b1;have HL:Hid (R.hs.length=16):=hl;have HQ:Hid _:=b2;rw[b1] at D l0;clear b1 I hl ha hq b2;obtain⟨X0,Y0⟩:=hh;dsimp only at D
 go_enter func165,ntmps165
 go_upto_region 1 with fail
 obtain⟨F,Z⟩:∃ F,V.alloc (.cells #[.int .i64 xk,.int .i64 p,.int .i64 xb,.int .i64 xc,.int .i64 xn] 36)=F:=⟨_,rfl⟩;have O:Hid (Bl V F):=by rw[<- Z];exact aB _ _
 have y0:F.cell? ⟨V.heap.size,0,none⟩=some (.int .i64 xk):=by rw[<- Z];exact aK _ _ _ 0 rfl
 have y1:F.cell? ⟨V.heap.size,1,none⟩=some (.int .i64 p):=by rw[<- Z];exact aK _ _ _ 1 rfl
 have y2:F.cell? ⟨V.heap.size,2,none⟩=some (.int .i64 xb):=by rw[<- Z];exact aK _ _ _ 2 rfl
 have y3:F.cell? ⟨V.heap.size,3,none⟩=some (.int .i64 xc):=by rw[<- Z];exact aK _ _ _ 3 rfl
 have y4:F.cell? ⟨V.heap.size,4,none⟩=some (.int .i64 xn):=by rw[<- Z];exact aK _ _ _ 4 rfl
 have sV:V.heap.size<F.heap.size:=yi _ _ y0;rw[Z];clear Z;replace u0:=aA u0 O;replace u1:=aA u1 O;replace l0:=aA l0 O;replace l1:=aA l1 O;replace l2:=aA l2 O;replace l3:=aA l3 O;have n0:¬ F.heap.size=d:=oaa
 have o0:¬ d=F.heap.size:=oaa
 have n1:¬ F.heap.size=h:=oaa
 have o1:¬ h=F.heap.size:=oaa
 have n2:¬ F.heap.size=V.heap.size:=oaa
 have o2:¬ V.heap.size=F.heap.size:=oaa
 have g0:d<F.heap.size:=oaa
 have g4:h<F.heap.size:=oaa
 clear fz lt;have g5:¬ F.heap.size+1=d:=oaa
 have g8:¬ d=F.heap.size+1:=oaa
 have g6:¬ F.heap.size+1=h:=oaa
 have g9:¬ h=F.heap.size+1:=oaa
 have g7:¬ F.heap.size+1=V.heap.size:=oaa
 have h3:¬ V.heap.size=F.heap.size+1:=oaa
 go_cut [6,7,8] (fun s6 s7 s8 wx=>∃ (b6 b7:Nat) (U:OA) (c' : Nat),s6=.pointer (some ⟨b6,0,none⟩)/\s7=.pointer (some ⟨b7,0,none⟩)/\s8=.int .i64 E/\Hid (Bl F wx)/\wx.cell? ⟨b6,0,none⟩=some (.slice U T.length c')/\wx.cell? ⟨b7,0,none⟩=some (.int .i64 X0)/\wx.cell? ⟨b7,1,none⟩=some (.int .i64 Y0)/\F.heap.size<=b6/\F.heap.size<=b7/\Hid (St (fun b=>b<F.heap.size) (fun V=>aD V U T) wx))
 case first =>
  go_region_held3 (fun b5=>b5.cell? ⟨d,0,none⟩=some (.slice (some ⟨g,0,none⟩) ns c0)/\b5.cell? ⟨V.heap.size,4,none⟩=some (.int .i64 xn)) (go_keep) (first|(go_at_call 182;refine yj (D F.drew (O.trans ((yv F.heap.size F).mono O.size)).drew) ?_;rintro e w3 ⟨U,c', rfl,J,M⟩;have B3:Hid (Bl F w3):=(yv F.heap.size F).drew.trans (J.mono oac);have N3:Hid (St (fun b=>b<F.heap.size) (fun V=>aD V U T) w3):=(by have h:=M;first|exact h|(simp only[World.drew,yw] at h;exact h));have a9:=aA l0 B3;have b0:=aA y4 B3;clear J M)|(go_at_call 182;refine yj (D (F.alloc (.cells #[.slice none 0 0] 43)).drew (O.trans ((aB F _).mono O.size)).drew) ?_;rintro e w3 ⟨U,c', rfl,J,M⟩;have B3:Hid (Bl F w3):=(aB F _).drew.trans (J.mono oac);have N3:Hid (St (fun b=>b<F.heap.size+1) (fun V=>aD V U T) w3):=(by have h:=M;first|exact h|(simp only[World.drew,yw] at h;exact h));have a9:=aA l0 B3;have b0:=aA y4 B3;have XA:Hid (w3.heap[F.heap.size]?=some (.cells #[.slice none 0 0] 43 (0,0))):=(J.block _ oag).trans (yN F _);have a5:F.heap.size<w3.heap.size:=aR XA.out;have a7:¬ F.heap.size=w3.heap.size:=Nat.ne_of_lt a5;have b3:¬ w3.heap.size=F.heap.size:=Ne.symm a7;have xa:=cZ XA.out;have b8:=fun o=>iB (o:=o) XA.out;clear J M)|(go_at_call 182;refine yj (D (F.alloc (.cells #[.int .i64 0,.int .i64 0] 61)).drew (O.trans ((aB F _).mono O.size)).drew) ?_;rintro e w3 ⟨U,c', rfl,J,M⟩;have B3:Hid (Bl F w3):=(aB F _).drew.trans (J.mono oac);have N3:Hid (St (fun b=>b<F.heap.size+1) (fun V=>aD V U T) w3):=(by have h:=M;first|exact h|(simp only[World.drew,yw] at h;exact h));have a9:=aA l0 B3;have b0:=aA y4 B3;have XB:Hid (w3.heap[F.heap.size]?=some (.cells #[.int .i64 0,.int .i64 0] 61 (0,0))):=(J.block _ oag).trans (yN F _);have a6:F.heap.size<w3.heap.size:=aR XB.out;have a8:¬ F.heap.size=w3.heap.size:=Nat.ne_of_lt a6;have b4:¬ w3.heap.size=F.heap.size:=Ne.symm a8;obtain⟨b9,c6,c8⟩:=lN XB.out;have c7:=fun o=>vX (o:=o) XB.out;clear J M)|(go_at_call 182;refine yj (D ((F.alloc (.cells #[.slice none 0 0] 43)).alloc (.cells #[.int .i64 0,.int .i64 0] 61)).drew (O.trans ((aM F _ _).mono O.size)).drew) ?_;rintro e w3 ⟨U,c', rfl,J,M⟩;have B3:Hid (Bl F w3):=(aM F _ _).drew.trans (J.mono oab);have N3:Hid (St (fun b=>b<F.heap.size+1+1) (fun V=>aD V U T) w3):=(by have h:=M;first|exact h|(simp only[World.drew,yw] at h;exact h));have a9:=aA l0 B3;have b0:=aA y4 B3;have XA:Hid (w3.heap[F.heap.size]?=some (.cells #[.slice none 0 0] 43 (0,0))):=(J.block _ oag).trans (GM F _ _);have a5:F.heap.size<w3.heap.size:=aR XA.out;have a7:¬ F.heap.size=w3.heap.size:=Nat.ne_of_lt a5;have b3:¬ w3.heap.size=F.heap.size:=Ne.symm a7;have xa:=cZ XA.out;have b8:=fun o=>iB (o:=o) XA.out;have XB:Hid (w3.heap[F.heap.size+1]?=some (.cells #[.int .i64 0,.int .i64 0] 61 (0,0))):=(J.block _ oag).trans (GQ F _ _);have a6:F.heap.size+1<w3.heap.size:=aR XB.out;have a8:¬ F.heap.size+1=w3.heap.size:=Nat.ne_of_lt a6;have b4:¬ w3.heap.size=F.heap.size+1:=Ne.symm a8;obtain⟨b9,c6,c8⟩:=lN XB.out;have c7:=fun o=>vX (o:=o) XB.out;clear J M)|(go_at_call 182;refine yj (D ((F.alloc (.cells #[.int .i64 0,.int .i64 0] 61)).alloc (.cells #[.slice none 0 0] 43)).drew (O.trans ((aM F _ _).mono O.size)).drew) ?_;rintro e w3 ⟨U,c', rfl,J,M⟩;have B3:Hid (Bl F w3):=(aM F _ _).drew.trans (J.mono oab);have N3:Hid (St (fun b=>b<F.heap.size+1+1) (fun V=>aD V U T) w3):=(by have h:=M;first|exact h|(simp only[World.drew,yw] at h;exact h));have a9:=aA l0 B3;have b0:=aA y4 B3;have XB:Hid (w3.heap[F.heap.size]?=some (.cells #[.int .i64 0,.int .i64 0] 61 (0,0))):=(J.block _ oag).trans (GM F _ _);have a6:F.heap.size<w3.heap.size:=aR XB.out;have a8:¬ F.heap.size=w3.heap.size:=Nat.ne_of_lt a6;have b4:¬ w3.heap.size=F.heap.size:=Ne.symm a8;obtain⟨b9,c6,c8⟩:=lN XB.out;have c7:=fun o=>vX (o:=o) XB.out;have XA:Hid (w3.heap[F.heap.size+1]?=some (.cells #[.slice none 0 0] 43 (0,0))):=(J.block _ oag).trans (GQ F _ _);have a5:F.heap.size+1<w3.heap.size:=aR XA.out;have a7:¬ F.heap.size+1=w3.heap.size:=Nat.ne_of_lt a5;have b3:¬ w3.heap.size=F.heap.size+1:=Ne.symm a7;have xa:=cZ XA.out;have b8:=fun o=>iB (o:=o) XA.out;clear J M))
  all_goals
   go_wp2_with fail
   go_meet
   case rel =>
    have zz:=B3.size;refine⟨_,_,U,c', rfl,rfl,rfl,?_,oaf,oaf,oaf,oaa,oaa,?_⟩
    ·show Below _ _ _
     repeat (first|exact B3.out|refine Below.setCell ?_ oac _|refine Below.alloc ?_ (by first|omega|(simp;omega)) _)
    ·refine(St.off N3 ?_).less (fun b hb=>by have h:b<F.heap.size:=hb;show b < _;omega)
     repeat (first|exact aC.refl _ _|refine aC.trans ?_ (aC.set _ _ (by show _ < _;omega))|refine aC.trans ?_ (aC.of_below (aB _ _)))
 case rest =>
  obtain⟨b6,b7,U,c', rfl,rfl,rfl,HB,h6,d5,d6,d9,e0,HN⟩:=hcut;have I2:Hid _:=II.below (O.trans (HB.mono O.size));obtain⟨m0,m1,m2,m3,mf,ml⟩:=aV I2.box;dsimp only at m0 m1;rw[HL.out] at m1;obtain⟨r0,r1⟩:=I2.hand (k:=p) (by rw[HL.out];omega);have rf:=I2.row.frozen;have yA:=aA y1 HB;have e1:¬ h=d:=II.dh;have e2:¬ d=h:=Ne.symm II.dh;have e3:¬ d=b6:=oaa
  have e4:¬ d=b7:=oaa
  have e5:¬ h=b6:=oaa
  have e6:¬ h=b7:=oaa
  have e7:¬ d=V.heap.size:=oaa
  have e8:¬ h=V.heap.size:=oaa
  have HS:Hid _:=I2.storeHand c' HN.out (by have:=II.base;omega) (k:=p) (by rw[HL.out];omega) (X0,Y0) rfl;clear II D u0 u1 l0 l1 l2 l3 y0 y1 y2 y3 y4 m2 m3
  go_wp2_with fail
  go_region
  go_wp2
  refine yz (v:=.tuple #[.int .i64 0,.int .i64 E]) (by simp[results,results165,go_sem]) rfl ⟨0,rfl,HS.out.1.drew,fun hE=>?_⟩;have h2:=HQ.out hE;rw[yk] at h2;rw[h2];exact⟨rfl,_,HS.out.2.1,HS.out.2.2.below (yv _ _).drew⟩
theorem Ug(w:Wd)(R:Rl)(x:Ac)(hl:R.hs.length=16)(ha:isH x.a)(c7:isH x.b)(T:List Nd)(hh:Int × Int)(E:Int)(hF:GL 193 R.s T #[hdV (hd R x.a),.bool (decide (x.n=1))] hh E)(q:Rs)(hq:q.e=E)(c8:E=0->q=⟨0,⟨T,R.hs.set x.b.toNat hh,R.i,R.t⟩,0⟩) :
  iK 178 #[] w R x q:=fun d h g A V I=>by
 rw[hq];obtain⟨a0,a1,a2,a3,c0,c1,c2,c3⟩:=A;obtain rfl:a0=some ⟨g,0,none⟩:=I.a0;obtain rfl:a1=some ⟨h,0,none⟩:=I.a1;obtain⟨xk,xa,xb,xc,xn⟩:=x;obtain⟨p,hp,e0⟩:=iJ ha;dsimp only at hp;subst hp;obtain⟨u0,u1⟩:=I.hand (k:=p) oaa;obtain⟨r,hr,e9⟩:=iJ c7;dsimp only at hr;subst hr;obtain⟨v0,v1⟩:=I.hand (k:=r) oaa;have II:Hid (WI w R d h g _ V):=I;have D:Hid (∀ W,Bl V W->yO 193 #[.agg #[.slice (some ⟨g,0,none⟩) R.s.length c0],.agg #[.int .i64 (hd R (p:Int)).1,.int .i64 (hd R (p:Int)).2],.bool (decide (xn=1))] W fun e w' => ∃ a' c', e=.returned (.tuple #[.agg #[.slice a' T.length c'],.agg #[.int .i64 hh.1,.int .i64 hh.2],.int .i64 E])/\Below W.heap.size W w' /\ St (fun b=>b<W.heap.size) (fun V=>aD V a' T) w'):=fun W hW=>hF (some ⟨g,0,none⟩) c0 W (I.nds.below hW);clear hF;obtain⟨l0,l1,l2,l3,fz,lt⟩:=aV I.box;dsimp only at l0 l1 l2 l3;rw[hl] at l1;have g7:d<V.heap.size:=lt;have g8:h<V.heap.size:=yi _ _ u0;have h4:(p:Int)<16:=oaa
 have h7:(r:Int)<16:=oaa
 show yO _ #[.pointer (some ⟨d,0,none⟩),.agg #[.int .i64 xk,.int .i64 p,.int .i64 r,.int .i64 xc,.int .i64 xn]] V _;obtain⟨ns,b9⟩:∃ n,R.s.length=n:=⟨_,rfl⟩;have g0:Hid (R.s.length=ns):=b9;have HL:Hid (R.hs.length=16):=hl;have HQ:Hid _:=c8;rw[b9] at D l0;clear b9 I hl ha c7 hq c8 v0 v1;obtain⟨X0,Y0⟩:=hh;dsimp only at D;generalize hd R (p:Int)=hA at *;obtain⟨P,U⟩:=hA;dsimp only at u0 u1 D;have XN:Hid (∀ W,Bl V W->_):=D.out;obtain⟨B1,c6⟩:∃ B1,decide (xn=1)=B1:=⟨_,rfl⟩;have g6:(xn == 1)=B1:=by rw[<- c6];rfl
 rw[c6] at D;clear XN
 go_enter func178,ntmps178
 go_upto_region 1 with fail
 obtain⟨F,a5⟩:∃ F,V.alloc (.cells #[.int .i64 xk,.int .i64 p,.int .i64 r,.int .i64 xc,.int .i64 xn] 36)=F:=⟨_,rfl⟩;have Z:Hid (Bl V F):=by rw[<- a5];exact aB _ _
 have y0:F.cell? ⟨V.heap.size,0,none⟩=some (.int .i64 xk):=by rw[<- a5];exact aK _ _ _ 0 rfl
 have y1:F.cell? ⟨V.heap.size,1,none⟩=some (.int .i64 p):=by rw[<- a5];exact aK _ _ _ 1 rfl
 have y2:F.cell? ⟨V.heap.size,2,none⟩=some (.int .i64 r):=by rw[<- a5];exact aK _ _ _ 2 rfl
 have y3:F.cell? ⟨V.heap.size,3,none⟩=some (.int .i64 xc):=by rw[<- a5];exact aK _ _ _ 3 rfl
 have y4:F.cell? ⟨V.heap.size,4,none⟩=some (.int .i64 xn):=by rw[<- a5];exact aK _ _ _ 4 rfl
 have sV:V.heap.size<F.heap.size:=yi _ _ y0;rw[a5];clear a5;replace u0:=aA u0 Z;replace u1:=aA u1 Z;replace l0:=aA l0 Z;replace l1:=aA l1 Z;replace l2:=aA l2 Z;replace l3:=aA l3 Z;have n0:¬ F.heap.size=d:=oaa
 have o0:¬ d=F.heap.size:=oaa
 have n1:¬ F.heap.size=h:=oaa
 have o1:¬ h=F.heap.size:=oaa
 have n2:¬ F.heap.size=V.heap.size:=oaa
 have o2:¬ V.heap.size=F.heap.size:=oaa
 have h8:d<F.heap.size:=oaa
 have h9:h<F.heap.size:=oaa
 clear fz lt;have i0:¬ F.heap.size+1=d:=oaa
 have i3:¬ d=F.heap.size+1:=oaa
 have i1:¬ F.heap.size+1=h:=oaa
 have i4:¬ h=F.heap.size+1:=oaa
 have i2:¬ F.heap.size+1=V.heap.size:=oaa
 have i5:¬ V.heap.size=F.heap.size+1:=oaa
 go_cut [6,7,8] (fun s6 s7 s8 wx=>∃ (b6 b7:Nat) (a' :OA) (c' : Nat),s6=.pointer (some ⟨b6,0,none⟩)/\s7=.pointer (some ⟨b7,0,none⟩)/\s8=.int .i64 E/\Hid (Bl F wx)/\wx.cell? ⟨b6,0,none⟩=some (.slice a' T.length c')/\wx.cell? ⟨b7,0,none⟩=some (.int .i64 X0)/\wx.cell? ⟨b7,1,none⟩=some (.int .i64 Y0)/\F.heap.size<=b6/\F.heap.size<=b7/\Hid (St (fun b=>b<F.heap.size) (fun V=>aD V a' T) wx))
 case first =>
  go_region_held3 (fun a6=>a6.cell? ⟨d,0,none⟩=some (.slice (some ⟨g,0,none⟩) ns c0)/\a6.cell? ⟨d,1,none⟩=some (.slice (some ⟨h,0,none⟩) 16 c1)/\a6.cell? ⟨h,p*2,none⟩=some (.int .i64 P)/\a6.cell? ⟨h,p*2+1,none⟩=some (.int .i64 U)/\a6.cell? ⟨V.heap.size,1,none⟩=some (.int .i64 p)/\a6.cell? ⟨V.heap.size,4,none⟩=some (.int .i64 xn)) (go_keep) (first|(go_at_call 193;refine yj (D F.drew (Z.trans ((yv F.heap.size F).mono Z.size)).drew) ?_;rintro e w3 ⟨a', c', rfl,J,O⟩;have M:Hid (Bl F w3):=(yv F.heap.size F).drew.trans (J.mono oac);have N3:Hid (St (fun b=>b<F.heap.size) (fun V=>aD V a' T) w3):=(by have h:=O;first|exact h|(simp only[World.drew,yw] at h;exact h));have b1:=aA l0 M;have b2:=aA l1 M;have b3:=aA u0 M;have b4:=aA u1 M;have b5:=aA y1 M;have b8:=aA y4 M;clear J O)|(go_at_call 193;refine yj (D (F.alloc (.cells #[.slice none 0 0] 43)).drew (Z.trans ((aB F _).mono Z.size)).drew) ?_;rintro e w3 ⟨a', c', rfl,J,O⟩;have M:Hid (Bl F w3):=(aB F _).drew.trans (J.mono oac);have N3:Hid (St (fun b=>b<F.heap.size+1) (fun V=>aD V a' T) w3):=(by have h:=O;first|exact h|(simp only[World.drew,yw] at h;exact h));have b1:=aA l0 M;have b2:=aA l1 M;have b3:=aA u0 M;have b4:=aA u1 M;have b5:=aA y1 M;have b8:=aA y4 M;have XA:Hid (w3.heap[F.heap.size]?=some (.cells #[.slice none 0 0] 43 (0,0))):=(J.block _ oag).trans (yN F _);have a7:F.heap.size<w3.heap.size:=aR XA.out;have a9:¬ F.heap.size=w3.heap.size:=Nat.ne_of_lt a7;have c9:¬ w3.heap.size=F.heap.size:=Ne.symm a9;have xa:=cZ XA.out;have d5:=fun o=>iB (o:=o) XA.out;clear J O)|(go_at_call 193;refine yj (D (F.alloc (.cells #[.int .i64 0,.int .i64 0] 61)).drew (Z.trans ((aB F _).mono Z.size)).drew) ?_;rintro e w3 ⟨a', c', rfl,J,O⟩;have M:Hid (Bl F w3):=(aB F _).drew.trans (J.mono oac);have N3:Hid (St (fun b=>b<F.heap.size+1) (fun V=>aD V a' T) w3):=(by have h:=O;first|exact h|(simp only[World.drew,yw] at h;exact h));have b1:=aA l0 M;have b2:=aA l1 M;have b3:=aA u0 M;have b4:=aA u1 M;have b5:=aA y1 M;have b8:=aA y4 M;have XB:Hid (w3.heap[F.heap.size]?=some (.cells #[.int .i64 0,.int .i64 0] 61 (0,0))):=(J.block _ oag).trans (yN F _);have a8:F.heap.size<w3.heap.size:=aR XB.out;have b0:¬ F.heap.size=w3.heap.size:=Nat.ne_of_lt a8;have d4:¬ w3.heap.size=F.heap.size:=Ne.symm b0;obtain⟨d6,d7,d9⟩:=lN XB.out;have d8:=fun o=>vX (o:=o) XB.out;clear J O)|(go_at_call 193;refine yj (D ((F.alloc (.cells #[.slice none 0 0] 43)).alloc (.cells #[.int .i64 0,.int .i64 0] 61)).drew (Z.trans ((aM F _ _).mono Z.size)).drew) ?_;rintro e w3 ⟨a', c', rfl,J,O⟩;have M:Hid (Bl F w3):=(aM F _ _).drew.trans (J.mono oab);have N3:Hid (St (fun b=>b<F.heap.size+1+1) (fun V=>aD V a' T) w3):=(by have h:=O;first|exact h|(simp only[World.drew,yw] at h;exact h));have b1:=aA l0 M;have b2:=aA l1 M;have b3:=aA u0 M;have b4:=aA u1 M;have b5:=aA y1 M;have b8:=aA y4 M;have XA:Hid (w3.heap[F.heap.size]?=some (.cells #[.slice none 0 0] 43 (0,0))):=(J.block _ oag).trans (GM F _ _);have a7:F.heap.size<w3.heap.size:=aR XA.out;have a9:¬ F.heap.size=w3.heap.size:=Nat.ne_of_lt a7;have c9:¬ w3.heap.size=F.heap.size:=Ne.symm a9;have xa:=cZ XA.out;have d5:=fun o=>iB (o:=o) XA.out;have XB:Hid (w3.heap[F.heap.size+1]?=some (.cells #[.int .i64 0,.int .i64 0] 61 (0,0))):=(J.block _ oag).trans (GQ F _ _);have a8:F.heap.size+1<w3.heap.size:=aR XB.out;have b0:¬ F.heap.size+1=w3.heap.size:=Nat.ne_of_lt a8;have d4:¬ w3.heap.size=F.heap.size+1:=Ne.symm b0;obtain⟨d6,d7,d9⟩:=lN XB.out;have d8:=fun o=>vX (o:=o) XB.out;clear J O)|(go_at_call 193;refine yj (D ((F.alloc (.cells #[.int .i64 0,.int .i64 0] 61)).alloc (.cells #[.slice none 0 0] 43)).drew (Z.trans ((aM F _ _).mono Z.size)).drew) ?_;rintro e w3 ⟨a', c', rfl,J,O⟩;have M:Hid (Bl F w3):=(aM F _ _).drew.trans (J.mono oab);have N3:Hid (St (fun b=>b<F.heap.size+1+1) (fun V=>aD V a' T) w3):=(by have h:=O;first|exact h|(simp only[World.drew,yw] at h;exact h));have b1:=aA l0 M;have b2:=aA l1 M;have b3:=aA u0 M;have b4:=aA u1 M;have b5:=aA y1 M;have b8:=aA y4 M;have XB:Hid (w3.heap[F.heap.size]?=some (.cells #[.int .i64 0,.int .i64 0] 61 (0,0))):=(J.block _ oag).trans (GM F _ _);have a8:F.heap.size<w3.heap.size:=aR XB.out;have b0:¬ F.heap.size=w3.heap.size:=Nat.ne_of_lt a8;have d4:¬ w3.heap.size=F.heap.size:=Ne.symm b0;obtain⟨d6,d7,d9⟩:=lN XB.out;have d8:=fun o=>vX (o:=o) XB.out;have XA:Hid (w3.heap[F.heap.size+1]?=some (.cells #[.slice none 0 0] 43 (0,0))):=(J.block _ oag).trans (GQ F _ _);have a7:F.heap.size+1<w3.heap.size:=aR XA.out;have a9:¬ F.heap.size+1=w3.heap.size:=Nat.ne_of_lt a7;have c9:¬ w3.heap.size=F.heap.size+1:=Ne.symm a9;have xa:=cZ XA.out;have d5:=fun o=>iB (o:=o) XA.out;clear J O))
  all_goals
   go_wp2_with fail
   go_meet
   case rel =>
    have zz:=M.size;refine⟨_,_,a', c', rfl,rfl,rfl,?_,oaf,oaf,oaf,oaa,oaa,?_⟩
    ·show Below _ _ _
     repeat (first|exact M.out|refine Below.setCell ?_ oac _|refine Below.alloc ?_ (by first|omega|(simp;omega)) _)
    ·refine(St.off N3 ?_).less (fun b hb=>by have h:b<F.heap.size:=hb;show b < _;omega)
     repeat (first|exact aC.refl _ _|refine aC.trans ?_ (aC.set _ _ (by show _ < _;omega))|refine aC.trans ?_ (aC.of_below (aB _ _)))
 case rest =>
  obtain⟨b6,b7,a', c', rfl,rfl,rfl,HB,h6,g4,g5,g9,h3,HN⟩:=hcut;have I2:Hid _:=II.below (Z.trans (HB.mono Z.size));obtain⟨m0,m1,m2,m3,mf,ml⟩:=aV I2.box;dsimp only at m0 m1;rw[HL.out] at m1;obtain⟨r0,r1⟩:=I2.hand (k:=r) (by rw[HL.out];omega);have rf:=I2.row.frozen;have yA:=aA y2 HB;have e1:¬ h=d:=II.dh;have e2:¬ d=h:=Ne.symm II.dh;have e3:¬ d=b6:=oaa
  have e4:¬ d=b7:=oaa
  have e5:¬ h=b6:=oaa
  have e6:¬ h=b7:=oaa
  have e7:¬ d=V.heap.size:=oaa
  have e8:¬ h=V.heap.size:=oaa
  have HS:Hid _:=I2.storeHand c' HN.out (by have:=II.base;omega) (k:=r) (by rw[HL.out];omega) (X0,Y0) rfl;clear II D u0 u1 l0 l1 l2 l3 y0 y1 y2 y3 y4 m2 m3
  go_wp2_with fail
  go_region
  go_wp2
  refine yz (v:=.tuple #[.int .i64 0,.int .i64 E]) (by simp[results,results178,go_sem]) rfl ⟨0,rfl,HS.out.1.drew,fun hE=>?_⟩;have h2:=HQ.out hE;rw[yk] at h2;rw[h2];exact⟨rfl,_,HS.out.2.1,HS.out.2.2.below (yv _ _).drew⟩
