/-
  x
-/
import Derived.Test.YtcbcpomacdngmaaGreatA33
import Derived.Test.YtcbcpomacdngmaaGreatA34
namespace Go.Proofs.YtcbcpomacdngmaaGreat
set_option maxRecDepth 100000
set_option maxHeartbeats 4000000
set_option linter.unusedVariables false
open Go.RowKit Go.ChangeShapes Go.WideShapes Tryz
variable{V W:Wd}{A:RA}{R:Rl}{b B:Nat}
def vV(R:Rl)(x:Ac)(q:Rs):Prop:=∀ W:World,yO 162 #[.int .i64 x.k] W fun e w' => ∃ (K:Nat) (D:Array Value),e=.returned (.func (.func K) #[] D)/\Below W.heap.size W w' /\(∀ args w,(callFunc K args).run prog w=.ok (.enter K args) w)/\∀ E,Bl w' E->iK K D E R x q
theorem jV{t:Nat}{D v1 v2 E F:Value}(h:W.heap[b]?=some (.cells #[D,v1,v2,E,F] t (0,0))):W.cell? ⟨b,0,none⟩=some D/\W.cell? ⟨b,1,none⟩=some v1/\W.cell? ⟨b,2,none⟩=some v2/\W.cell? ⟨b,3,none⟩=some E/\W.cell? ⟨b,4,none⟩=some F/\b<W.heap.size :=
 ⟨by simp[World.cell?,h],by simp[World.cell?,h],by simp[World.cell?,h],by simp[World.cell?,h],by simp[World.cell?,h],aR h⟩
structure DoI (w:Wd) (A:RA) (R:Rl) (x:Ac) (V:Wd):Prop where
 bel:Bl w V
 r:V.heap[w.heap.size]?=some (bxR A R)
 x:V.heap[w.heap.size+1]?=some (.cells #[.int .i64 x.k,.int .i64 x.a,.int .i64 x.b,.int .i64 x.c,.int .i64 x.n] 36 (0,0))
 z:V.heap[w.heap.size+1+1]?=some (.cells #[.slice none 0 0,.slice none 0 0,.slice none 0 0,.slice none 0 0] 50 (0,0))
 rl:aU V A R
theorem DoI.below{w D:Wd}{x:Ac}(I:DoI w A R x V)(hb:Bl V D):DoI w A R x D:=⟨I.bel.trans (hb.mono I.bel.size),aH I.r hb,aH I.x hb,aH I.z hb,I.rl.below hb⟩
theorem GJ(w:Wd)(A:RA)(R:Rl)(x:Ac)(h:aU w A R):DoI w A R x (((w.alloc (.cells #[.slice A.a0 R.s.length A.c0,.slice A.a1 R.hs.length A.c1,.slice A.a2 R.i.length A.c2,.slice A.a3 R.t.length A.c3] 50)).alloc (.cells #[.int .i64 x.k,.int .i64 x.a,.int .i64 x.b,.int .i64 x.c,.int .i64 x.n] 36)).alloc (.cells #[.slice none 0 0,.slice none 0 0,.slice none 0 0,.slice none 0 0] 50)):=by
 have E:=aB w (.cells #[.slice A.a0 R.s.length A.c0,.slice A.a1 R.hs.length A.c1,.slice A.a2 R.i.length A.c2,.slice A.a3 R.t.length A.c3] 50);obtain⟨w1,h1⟩:∃ w1,w.alloc (.cells #[.slice A.a0 R.s.length A.c0,.slice A.a1 R.hs.length A.c1,.slice A.a2 R.i.length A.c2,.slice A.a3 R.t.length A.c3] 50)=w1:=⟨_,rfl⟩;have M:=mJ w 50 (.slice A.a0 R.s.length A.c0) (.slice A.a1 R.hs.length A.c1) (.slice A.a2 R.i.length A.c2) (.slice A.a3 R.t.length A.c3);have s1:w1.heap.size=w.heap.size+1:=by rw[<- h1];simp
 rw[h1] at E M |-;have D:=aB w1 (.cells #[.int .i64 x.k,.int .i64 x.a,.int .i64 x.b,.int .i64 x.c,.int .i64 x.n] 36);have I:=yN w1 (.cells #[.int .i64 x.k,.int .i64 x.a,.int .i64 x.b,.int .i64 x.c,.int .i64 x.n] 36);obtain⟨w2,J⟩:∃ w2,w1.alloc (.cells #[.int .i64 x.k,.int .i64 x.a,.int .i64 x.b,.int .i64 x.c,.int .i64 x.n] 36)=w2:=⟨_,rfl⟩;have s2:w2.heap.size=w1.heap.size+1:=by rw[<- J];simp
 rw[J] at D I |-;have F:=aB w2 (.cells #[.slice none 0 0,.slice none 0 0,.slice none 0 0,.slice none 0 0] 50);have O:=mJ w2 50 (.slice none 0 0) (.slice none 0 0) (.slice none 0 0) (.slice none 0 0);rw[s2,s1] at O;rw[s1] at I;exact⟨E.trans ((D.trans (F.mono D.size)).mono E.size),aH (aH M D) F,aH I F,O,((h.below E).below D).below F⟩
structure RlO (B:Nat) (V:Wd) (A:RA) (R:Rl):Prop where
 a3:A.a3=some ⟨tOf A,0,none⟩
 c3:A.c3=R.t.length
 t0:B<=tOf A
 tr:V.rowIs (tOf A) 3 R.t.length (vU R)
 st:St (fun b=>b<B\/b=tOf A) (fun V=>aD V A.a0 R.s/\aZ V A.a1 R.hs/\aO V A.a2 R.i) V
theorem RlO.at(h:RlO B V A R):aU V A R:=⟨h.st.at.1,h.st.at.2.1,h.st.at.2.2,by rw[h.a3];exact wY h.tr⟩
theorem RlF.rlo{n d:Nat}(h:RlF n d V A R)(hn:B<=n):RlO B V A R:=⟨h.a3,h.c3,yJ hn h.t0,h.tr,h.st.less (fun b hb=>oaa)⟩
theorem Tu(A:RA)(R:Rl)(x:Ac)(q:Rs)(w:Wd)(hR:bI R=0)(hW:aU w A R)(ha:isH x.a)(hD:vV R x q) :
  yO 148 #[rlV A R,acV x] w fun e w' => ∃ B:RA,e=.returned (.tuple #[rlV B (if q.e=0 then q.r else dJ),.int .i64 (if q.e=0 then q.o else 0),.int .i64 q.e])/\Below w.heap.size w w' /\ aU w' B (if q.e=0 then q.r else dJ)/\(q.e=0->RlO w.heap.size w' B (if q.e=0 then q.r else dJ)):=by
 have hl:=(gI hR).2.1;have D0:Hid (∀ W,aU W A R->Calls _ _ _ _ _):=fun W hW=>zN A R W (uS hR) hW;rw[hR] at D0;have D1:Hid (∀ W,Calls _ _ _ _ _):=fun W=>sP A R x.a W hl;rw[show decide (isH x.a)=true from yI ha] at D1;have D2:Hid (vV R x q):=hD;have D3:Hid (∀ W,aU W A R->Calls _ _ _ _ _):=fun W hW=>YG A R W hR hW;have I0:Hid _:=GJ w A R x hW;have b4:Hid (∀ (W V:Wd) (h g:Nat) (B:RA),CI W R h g B V->_):=fun W V h g B I=>CI.wi I;have b7:Hid (∀ (V V' : World) (B:RA) (n d:Nat),RlF n d V B q.r->w.heap.size<=n->aC (fun b=>b<n\/b=d) V V' -> RlO w.heap.size V' B q.r):=fun V V' B n d h1 h2 h3=>(h1.off h3).rlo h2;clear hW ha hD hR hl;obtain⟨xk,xa,xb,xc,xn⟩:=x;obtain⟨a0,a1,a2,a3,c0,c1,c2,c3⟩:=A;obtain⟨qe,D,qo⟩:=q;dsimp only[rlV,acV,vV] at *;obtain⟨RR,a6⟩:∃ RR:Rl,(if qe=0 then D else dJ)=RR:=⟨_,rfl⟩;have F:Hid (_=RR):=a6;obtain⟨OO,a5⟩:∃ OO:Int,(if qe=0 then qo else 0)=OO:=⟨_,rfl⟩;have E:Hid (_=OO):=a5;rw[a6,a5];clear a6 a5
 go_enter func148,ntmps148
 go_wp2_with fail
 refine yj (D0 _ I0.rl) ?_;rintro e V1 ⟨rfl,hb⟩;have I1:Hid _:=I0.below hb;clear hb D0 I0;obtain⟨T,r1,r2,r3,U,rl⟩:=aV I1.r;obtain⟨z0,z1,z2,z3,zf,zl⟩:=aV I1.z;obtain⟨Z,y1,y2,y3,y4,yl⟩:=jV I1.x
 go_wp2_with fail
 refine yj (D1 _) ?_;rintro e V2 ⟨rfl,hb⟩;have I2:Hid _:=I1.below hb;clear T r1 r2 r3 U rl z0 z1 z2 z3 zf zl Z y1 y2 y3 y4 yl;clear hb D1 I1;obtain⟨T,r1,r2,r3,U,rl⟩:=aV I2.r;obtain⟨z0,z1,z2,z3,zf,zl⟩:=aV I2.z;obtain⟨Z,y1,y2,y3,y4,yl⟩:=jV I2.x
 go_wp2_with fail
 refine yj (D2 _) ?_;rintro e V3 ⟨K,M,rfl,hb,eg,b5⟩;have J:Hid _:=I2.below hb;have ZL:Hid (w.heap.size+1+1<V3.heap.size):=aR J.z;have b8:∀ w:World,(binOp BinOp.eql 209 (Value.func (Fn.func K) #[] M) Value.nilFunc).run prog w=.ok (.bool false) w:=fun _=>oad
 have HD:Hid (iK K M V3 R ⟨xk,xa,xb,xc,xn⟩ ⟨qe,D,qo⟩):=b5 V3 (yv _ _);clear T r1 r2 r3 U rl z0 z1 z2 z3 zf zl Z y1 y2 y3 y4 yl;clear hb D2 I2 b5;obtain⟨T,r1,r2,r3,U,rl⟩:=aV J.r;obtain⟨z0,z1,z2,z3,zf,zl⟩:=aV J.z;obtain⟨Z,y1,y2,y3,y4,yl⟩:=jV J.x
 go_wp2_with fail
 refine yj (D3 _ J.rl) ?_;rintro e V4 ⟨⟨b0,b1,b2,b3,d0,d1,d2,d3⟩,h,g,rfl,a8⟩;have I4:Hid _:=J.below a8.bel;have W4:Hid _:=b4.out _ _ _ _ _ a8;clear T r1 r2 r3 U rl z0 z1 z2 z3 zf zl Z y1 y2 y3 y4 yl;clear D3 a8 b4;obtain⟨T,r1,r2,r3,U,rl⟩:=aV I4.r;obtain⟨z0,z1,z2,z3,zf,zl⟩:=aV I4.z;obtain⟨Z,y1,y2,y3,y4,yl⟩:=jV I4.x
 go_wp2_with fail
 refine yj (HD _ _ _ _ _ W4.out) ?_;rintro e V5 ⟨o,rfl,hb,hq⟩;have I5:Hid _:=J.below hb;clear T r1 r2 r3 U rl z0 z1 z2 z3 zf zl Z y1 y2 y3 y4 yl;clear W4 I4 HD hb J;obtain⟨T,r1,r2,r3,U,rl⟩:=aV I5.r;obtain⟨z0,z1,z2,z3,zf,zl⟩:=aV I5.z;obtain⟨Z,y1,y2,y3,y4,yl⟩:=jV I5.x;by_cases hE:qe=0
 ·subst hE;obtain rfl:D=RR:=(ye rfl).symm.trans F;obtain rfl:qo=OO:=(ye rfl).symm.trans E;obtain⟨rfl,⟨e0,e1,e2,e3,f0,f1,f2,f3⟩,a7,a9⟩:=hq rfl;dsimp only at a7 a9;have b6:Hid _:=a9;obtain⟨s0,s1,s2,s3,sf,sl⟩:=aV a7;clear a7 hq a9 F E;dsimp only at s0 s1 s2 s3
  go_wp2
  obtain⟨X,O⟩:∃ X,(((V5.setCell ⟨w.heap.size+1+1,0,none⟩ (.slice e0 D.s.length f0)).setCell ⟨w.heap.size+1+1,1,none⟩ (.slice e1 D.hs.length f1)).setCell ⟨w.heap.size+1+1,2,none⟩ (.slice e2 D.i.length f2)).setCell ⟨w.heap.size+1+1,3,none⟩ (.slice e3 D.t.length f3)=X:=⟨_,rfl⟩;have x0:X.heap[w.heap.size+1+1]?=some (.cells #[.slice e0 D.s.length f0,.slice e1 D.hs.length f1,.slice e2 D.i.length f2,.slice e3 D.t.length f3] 50 (0,0)):=by rw[<- O];exact nY I5.z
  have xb:Bl w X:=by rw[<- O];exact(((I5.bel.setCell oab _).setCell oab _).setCell oab _).setCell oab _
  have xr:RlO w.heap.size X ⟨e0,e1,e2,e3,f0,f1,f2,f3⟩ D:=by rw[<- O];exact b7.out V5 _ _ _ _ b6.out (by have:=ZL.out;omega) ((((aC.set _ _ (Or.inl ZL.out)).trans (aC.set _ _ (Or.inl ZL.out))).trans (aC.set _ _ (Or.inl ZL.out))).trans (aC.set _ _ (Or.inl ZL.out)))
  rw[O];obtain⟨m0,m1,m2,m3,mf,ml⟩:=aV x0;exact yz (v:=.tuple #[.agg #[.slice e0 D.s.length f0,.slice e1 D.hs.length f1,.slice e2 D.i.length f2,.slice e3 D.t.length f3],.int .i64 o,.int .i64 0]) (by simp[results,results148,go_sem,m0,m1,m2,m3]) rfl ⟨⟨e0,e1,e2,e3,f0,f1,f2,f3⟩,rfl,xb,xr.at,xr⟩
 ·obtain rfl:dJ=RR:=(yd hE).symm.trans F;obtain rfl:(0:Int)=OO:=(yd hE).symm.trans E;have hz:(qe == 0)=false:=by simp[hE]
  clear hq F E;dsimp only
  go_wp2
  obtain⟨X,O⟩:∃ X,(((V5.setCell ⟨w.heap.size+1+1,0,none⟩ (.slice none 0 0)).setCell ⟨w.heap.size+1+1,1,none⟩ (.slice none 0 0)).setCell ⟨w.heap.size+1+1,2,none⟩ (.slice none 0 0)).setCell ⟨w.heap.size+1+1,3,none⟩ (.slice none 0 0)=X:=⟨_,rfl⟩;have x0:X.heap[w.heap.size+1+1]?=some (.cells #[.slice none 0 0,.slice none 0 0,.slice none 0 0,.slice none 0 0] 50 (0,0)):=by rw[<- O];exact nY I5.z
  have xb:Bl w X:=by rw[<- O];exact(((I5.bel.setCell oab _).setCell oab _).setCell oab _).setCell oab _
  rw[O];obtain⟨m0,m1,m2,m3,mf,ml⟩:=aV x0;exact yz (v:=.tuple #[.agg #[.slice none 0 0,.slice none 0 0,.slice none 0 0,.slice none 0 0],.int .i64 0,.int .i64 qe]) (by simp[results,results148,go_sem,m0,m1,m2,m3]) rfl ⟨⟨none,none,none,none,0,0,0,0⟩,rfl,xb,xU _ _⟩
theorem Ui(w:Wd)(R:Rl)(x:Ac)(wf:WF R.s)(hl:R.hs.length=16)(ha:isH x.a)(b0:isH x.b)(b9:x.c<0):iK 177 #[] w R x (nS R (hd R x.a) (hd R x.b) []):=fun d h g A V I=>by
 unfold nS;rw[pR];obtain⟨J,a5⟩:∃ l:List (Int × Int),[]=l:=⟨_,rfl⟩;have hm:J.length<=1:=by rw[<- a5];decide
 have h0:J.length=0:=by rw[<- a5];rfl
 rw[a5];obtain⟨a0,a1,a2,a3,c0,c1,c2,c3⟩:=A;obtain rfl:a0=some ⟨g,0,none⟩:=I.a0;obtain rfl:a1=some ⟨h,0,none⟩:=I.a1;obtain⟨xk,xa,xb,xc,xn⟩:=x;obtain⟨p,hp,c6⟩:=iJ ha;dsimp only at hp;subst hp;obtain⟨u0,u1⟩:=I.hand (k:=p) oaa;obtain⟨r,hr,c7⟩:=iJ b0;dsimp only at hr;subst hr;obtain⟨v0,v1⟩:=I.hand (k:=r) oaa;have II:Hid (WI w R d h g _ V):=I;obtain⟨l0,l1,l2,l3,fz,lt⟩:=aV I.box;dsimp only at l0 l1 l2 l3;rw[hl] at l1;have d4:d<V.heap.size:=lt;have d5:h<V.heap.size:=yi _ _ u0;have d6:(p:Int)<16:=oaa
 have d7:(r:Int)<16:=oaa
 show yO _ #[.pointer (some ⟨d,0,none⟩),.agg #[.int .i64 xk,.int .i64 p,.int .i64 r,.int .i64 xc,.int .i64 xn]] V _;obtain⟨ns,a9⟩:∃ n,R.s.length=n:=⟨_,rfl⟩;have c8:Hid (R.s.length=ns):=a9;have D:Hid (∀ (ha:OA) (hc:Nat) W,Bl V W->aZ W ha J->yO 192 #[.agg #[.slice (some ⟨g,0,none⟩) R.s.length c0],.agg #[.int .i64 (hd R (p:Int)).1,.int .i64 (hd R (p:Int)).2],.agg #[.int .i64 (hd R (r:Int)).1,.int .i64 (hd R (r:Int)).2],.slice ha J.length hc] W fun e w' => ∃ a' c', e=.returned (.tuple #[.agg #[.slice a' (rS (fT R.s (hd R (p:Int)).1 (hd R (p:Int)).2 (hd R (r:Int)).1 (hd R (r:Int)).2 J) (kE R.s (hd R (p:Int)).1 (hd R (r:Int)).1 J)).length c'],.int .i64 (fT R.s (hd R (p:Int)).1 (hd R (p:Int)).2 (hd R (r:Int)).1 (hd R (r:Int)).2 J)])/\Below W.heap.size W w' /\ St (fun b=>b<W.heap.size) (fun V=>aD V a' (rS (fT R.s (hd R (p:Int)).1 (hd R (p:Int)).2 (hd R (r:Int)).1 (hd R (r:Int)).2 J) (kE R.s (hd R (p:Int)).1 (hd R (r:Int)).1 J))) w'):=fun ha hc W hW hH=>VH R.s _ _ J ha hc wf hm (some ⟨g,0,none⟩) c0 W (I.nds.below hW) hH;clear ha b0 hl;generalize hd R (p:Int)=hA at *;obtain⟨P,U⟩:=hA;generalize hd R (r:Int)=hB at *;obtain⟨P2,U2⟩:=hB;dsimp only at u0 u1 v0 v1 D |-;obtain⟨E,hE⟩:∃ E,fT R.s P U P2 U2 J=E:=⟨_,rfl⟩;obtain⟨T,hT⟩:∃ T,kE R.s P P2 J=T:=⟨_,rfl⟩;rw[hE,hT] at D;rw[hE,hT];clear hE hT;rw[a9] at D l0;clear a9 I hm;have HH:Hid (∀ W:World,aZ W none J):=fun W i hi=>oaa
 rw[h0] at D;clear h0 a5;dsimp only at b9
 go_enter func177,ntmps177
 go_upto_region 6 with fail
 obtain⟨F,O⟩:∃ F,V.alloc (.cells #[.int .i64 xk,.int .i64 p,.int .i64 r,.int .i64 xc,.int .i64 xn] 36)=F:=⟨_,rfl⟩;have BV:Hid (Bl V F):=by rw[<- O];exact aB _ _
 have y0:F.cell? ⟨V.heap.size,0,none⟩=some (.int .i64 xk):=by rw[<- O];exact aK _ _ _ 0 rfl
 have y1:F.cell? ⟨V.heap.size,1,none⟩=some (.int .i64 p):=by rw[<- O];exact aK _ _ _ 1 rfl
 have y2:F.cell? ⟨V.heap.size,2,none⟩=some (.int .i64 r):=by rw[<- O];exact aK _ _ _ 2 rfl
 have y3:F.cell? ⟨V.heap.size,3,none⟩=some (.int .i64 xc):=by rw[<- O];exact aK _ _ _ 3 rfl
 have y4:F.cell? ⟨V.heap.size,4,none⟩=some (.int .i64 xn):=by rw[<- O];exact aK _ _ _ 4 rfl
 have sV:V.heap.size<F.heap.size:=yi _ _ y0;rw[O];clear O;replace u0:=aA u0 BV;replace u1:=aA u1 BV;replace l0:=aA l0 BV;replace l1:=aA l1 BV;replace l2:=aA l2 BV;replace l3:=aA l3 BV;have n0:¬ F.heap.size=d:=oaa
 have o0:¬ d=F.heap.size:=oaa
 have n1:¬ F.heap.size=h:=oaa
 have o1:¬ h=F.heap.size:=oaa
 have n2:¬ F.heap.size=V.heap.size:=oaa
 have o2:¬ V.heap.size=F.heap.size:=oaa
 have d8:d<F.heap.size:=oaa
 have d9:h<F.heap.size:=oaa
 clear fz lt;replace v0:=aA v0 BV;replace v1:=aA v1 BV
 go_cut [7,8] (fun s7 s8 wx=>∃ (b:Nat) (a' :OA) (c' : Nat),s7=.pointer (some ⟨b,0,none⟩)/\s8=.int .i64 E/\Hid (Bl F wx)/\Hid (St (fun b=>b<F.heap.size) (fun V=>aD V a' (rS E T)) wx)/\wx.cell? ⟨b,0,none⟩=some (.slice a' (rS E T).length c')/\F.heap.size<=b)
 case first =>
  go_region_held3 (fun Z=>Z.cell? ⟨d,0,none⟩=some (.slice (some ⟨g,0,none⟩) ns c0)/\Z.cell? ⟨d,1,none⟩=some (.slice (some ⟨h,0,none⟩) 16 c1)/\Z.cell? ⟨h,p*2,none⟩=some (.int .i64 P)/\Z.cell? ⟨h,p*2+1,none⟩=some (.int .i64 U)/\Z.cell? ⟨h,r*2,none⟩=some (.int .i64 P2)/\Z.cell? ⟨h,r*2+1,none⟩=some (.int .i64 U2)/\Z.cell? ⟨V.heap.size,1,none⟩=some (.int .i64 p)/\Z.cell? ⟨V.heap.size,2,none⟩=some (.int .i64 r)) (go_keep) (first|(go_at_call 192;refine yj (D none 0 F.drew BV.drew ((HH F).below (yv _ _).drew)) ?_;rintro e w3 ⟨a', c', rfl,a6,a7⟩;have M:Hid (Bl F w3):=(yv _ _).drew.trans a6;have N3:Hid (St (fun b=>b<F.heap.size) (fun V=>aD V a' (rS E T)) w3):=a7;have b1:=aA l0 M;have b2:=aA l1 M;have b3:=aA u0 M;have b4:=aA u1 M;have b5:=aA v0 M;have b6:=aA v1 M;have b7:=aA y1 M;have b8:=aA y2 M;clear a6 a7)|(go_at_call 192;refine yj (D none 0 (F.alloc (.cells #[.slice none 0 0] 43)).drew (BV.trans ((aB F _).mono BV.size)).drew ((HH F).below (aB F _).drew)) ?_;rintro e w3 ⟨a', c', rfl,a6,a7⟩;have M:Hid (Bl F w3):=(aB F _).drew.trans (a6.mono oac);have N3:Hid (St (fun b=>b<F.heap.size+1) (fun V=>aD V a' (rS E T)) w3):=(by have h:=a7;simp only[yw,World.size_drew] at h;exact h);have b1:=aA l0 M;have b2:=aA l1 M;have b3:=aA u0 M;have b4:=aA u1 M;have b5:=aA v0 M;have b6:=aA v1 M;have b7:=aA y1 M;have b8:=aA y2 M;have X3:Hid (w3.heap[F.heap.size]?=some (.cells #[.slice none 0 0] 43 (0,0))):=aH (W:=(F.alloc (.cells #[.slice none 0 0] 43)).drew) (yN F _) a6;have x3:=cZ X3.out;have xf:=iB (o:=0) X3.out;have xl:F.heap.size<w3.heap.size:=aR X3.out;clear a6 a7))
  ·go_wp2_with fail
   go_meet
   case rel=>exact⟨_,_,_,rfl,rfl,NG _ _ (yv F.heap.size F) M.out N3.out⟩
  ·go_wp2_with fail
   go_meet
   case rel=>exact⟨_,_,_,rfl,rfl,NH _ (yv F.heap.size F) M.out N3.out X3.out⟩
 case rest =>
  obtain⟨b,a', c', rfl,rfl,HB,HN,a8,c9⟩:=hcut;have I2:Hid _:=II.below (BV.trans (HB.mono BV.size));have HS:Hid _:=I2.store c' HN.out (by have h1:=II.base;have h2:=BV.size;omega);obtain⟨m0,m1,m2,m3,mf,ml⟩:=aV I2.box;have bl:b<wc.heap.size:=yi _ _ a8;have e0:¬ b=d:=oaa
  clear II D u0 u1 v0 v1 l0 l1 y1 y2
  go_wp2
  refine yz (v:=.tuple #[.int .i64 0,.int .i64 E]) (by simp[results,results177,go_sem]) rfl ⟨0,rfl,HS.out.1,fun hE=>?_⟩;rw[pU hE];have h2:=HS.out.2;rw[hE,lM] at h2;rw[hE,lM];exact⟨rfl,_,h2⟩
theorem Uj(w:Wd)(R:Rl)(x:Ac)(wf:WF R.s)(hl:R.hs.length=16)(ha:isH x.a)(a6:isH x.b)(a7:¬ x.c<0)(a8:¬ isH x.c):iK 177 #[] w R x (bad 4):=fun d h g A V I=>by
 rw[(JS 4).2.2];obtain⟨a0,a1,a2,a3,c0,c1,c2,c3⟩:=A;obtain rfl:a0=some ⟨g,0,none⟩:=I.a0;obtain rfl:a1=some ⟨h,0,none⟩:=I.a1;obtain⟨xk,xa,xb,Z,xn⟩:=x;obtain⟨p,hp,a9⟩:=iJ ha;dsimp only at hp;subst hp;obtain⟨u0,u1⟩:=I.hand (k:=p) oaa;obtain⟨r,hr,b0⟩:=iJ a6;dsimp only at hr;subst hr;obtain⟨v0,v1⟩:=I.hand (k:=r) oaa;have II:Hid (WI w R d h g _ V):=I;obtain⟨l0,l1,l2,l3,fz,lt⟩:=aV I.box;dsimp only at l0 l1 l2 l3;rw[hl] at l1;have b8:d<V.heap.size:=lt;have b9:h<V.heap.size:=yi _ _ u0;have c6:(p:Int)<16:=oaa
 have c7:(r:Int)<16:=oaa
 show yO _ #[.pointer (some ⟨d,0,none⟩),.agg #[.int .i64 xk,.int .i64 p,.int .i64 r,.int .i64 Z,.int .i64 xn]] V _;obtain⟨ns,J⟩:∃ n,R.s.length=n:=⟨_,rfl⟩;have b1:Hid (R.s.length=ns):=J;have DH:Hid (∀ W,Calls _ _ _ _ _):=fun W=>sP ⟨some ⟨g,0,none⟩,some ⟨h,0,none⟩,a2,a3,c0,c1,c2,c3⟩ R Z W hl;dsimp only[rlV] at DH;rw[hl] at DH;rw[yH a8] at DH;obtain⟨ni,M⟩:∃ n,R.i.length=n:=⟨_,rfl⟩;obtain⟨nt,O⟩:∃ n,R.t.length=n:=⟨_,rfl⟩;rw[J,M,O] at DH;rw[M] at l2;rw[O] at l3;clear M O;rw[J] at l0;dsimp only at a7;have b7:0<=Z:=oaa
 clear ha a6 hl J I a8 a7 u0 u1 v0 v1 wf
 go_enter func177,ntmps177
 go_upto_region 3 with fail
 obtain⟨D,E⟩:∃ D,V.alloc (.cells #[.int .i64 xk,.int .i64 p,.int .i64 r,.int .i64 Z,.int .i64 xn] 36)=D:=⟨_,rfl⟩;have U:Hid (Bl V D):=by rw[<- E];exact aB _ _
 have y0:D.cell? ⟨V.heap.size,0,none⟩=some (.int .i64 xk):=by rw[<- E];exact aK _ _ _ 0 rfl
 have y1:D.cell? ⟨V.heap.size,1,none⟩=some (.int .i64 p):=by rw[<- E];exact aK _ _ _ 1 rfl
 have y2:D.cell? ⟨V.heap.size,2,none⟩=some (.int .i64 r):=by rw[<- E];exact aK _ _ _ 2 rfl
 have y3:D.cell? ⟨V.heap.size,3,none⟩=some (.int .i64 Z):=by rw[<- E];exact aK _ _ _ 3 rfl
 have y4:D.cell? ⟨V.heap.size,4,none⟩=some (.int .i64 xn):=by rw[<- E];exact aK _ _ _ 4 rfl
 have sV:V.heap.size<D.heap.size:=yi _ _ y0;rw[E];clear E;replace l0:=aA l0 U;replace l1:=aA l1 U;replace l2:=aA l2 U;replace l3:=aA l3 U;have n0:¬ D.heap.size=d:=oaa
 have o0:¬ d=D.heap.size:=oaa
 have n1:¬ D.heap.size=h:=oaa
 have o1:¬ h=D.heap.size:=oaa
 have n2:¬ D.heap.size=V.heap.size:=oaa
 have o2:¬ V.heap.size=D.heap.size:=oaa
 have c8:d<D.heap.size:=oaa
 have c9:h<D.heap.size:=oaa
 clear fz lt
 go_region_held3 (fun F=>F.cell? ⟨d,0,none⟩=some (.slice (some ⟨g,0,none⟩) ns c0)/\F.cell? ⟨d,1,none⟩=some (.slice (some ⟨h,0,none⟩) 16 c1)/\F.cell? ⟨d,2,none⟩=some (.slice a2 ni c2)/\F.cell? ⟨d,3,none⟩=some (.slice a3 nt c3)/\F.cell? ⟨V.heap.size,3,none⟩=some (.int .i64 Z)) (go_keep) (first|(go_at_call 161;refine yj (DH D.drew) ?_;rintro e w2 ⟨rfl,a5⟩;have T:Hid (Bl D w2):=(yv _ _).drew.trans a5;have b2:=aA l0 T;have b3:=aA l1 T;have b4:=aA l2 T;have b5:=aA l3 T;have b6:=aA y3 T;clear a5))
 have I2:Hid _:=II.below (U.trans (T.mono U.size))
 go_wp2
 refine yz (v:=.tuple #[.int .i64 0,.int .i64 4]) (by simp[results,results177,go_sem]) rfl ?_
 first|exact⟨0,rfl,I2.bel,fun hE=>absurd hE oae⟩|exact⟨⟨0,rfl⟩,I2.bel⟩
theorem Uk{x y:Int}(h0:W.cell? ⟨b,0,none⟩=some (.int .i64 x))(h1:W.cell? ⟨b,1,none⟩=some (.int .i64 y)):aZ W (some ⟨b,0,none⟩) [(x,y)]:=fun i hi=>by
 obtain rfl:i=0:=by simpa using hi
 exact⟨b,0,rfl,h0,h1⟩
theorem Ul(w:Wd)(R:Rl)(x:Ac)(wf:WF R.s)(hl:R.hs.length=16)(ha:isH x.a)(c6:isH x.b)(b4:isH x.c):iK 177 #[] w R x (nS R (hd R x.a) (hd R x.b) [hd R x.c]):=fun d h g A V I=>by
 unfold nS;rw[pR];obtain⟨M,Z⟩:∃ l:List (Int × Int),[hd R x.c]=l:=⟨_,rfl⟩;have hm:M.length<=1:=by rw[<- Z];simp
 have h0:M.length=1:=by rw[<- Z];rfl
 rw[Z];obtain⟨a0,a1,a2,a3,c0,c1,c2,c3⟩:=A;obtain rfl:a0=some ⟨g,0,none⟩:=I.a0;obtain rfl:a1=some ⟨h,0,none⟩:=I.a1;obtain⟨xk,xa,xb,xc,xn⟩:=x;obtain⟨p,hp,e8⟩:=iJ ha;dsimp only at hp;subst hp;obtain⟨u0,u1⟩:=I.hand (k:=p) oaa;obtain⟨r,hr,e9⟩:=iJ c6;dsimp only at hr;subst hr;obtain⟨v0,v1⟩:=I.hand (k:=r) oaa;have II:Hid (WI w R d h g _ V):=I;obtain⟨l0,l1,l2,l3,fz,lt⟩:=aV I.box;dsimp only at l0 l1 l2 l3;rw[hl] at l1;have g9:d<V.heap.size:=lt;have h3:h<V.heap.size:=yi _ _ u0;have h4:(p:Int)<16:=oaa
 have h6:(r:Int)<16:=oaa
 obtain⟨s,hs,g0⟩:=iJ b4;dsimp only at hs;subst hs;dsimp only at Z;have b8:decide (isH (s:Int))=true:=yI b4;obtain⟨t0,t1⟩:=I.hand (k:=s) oaa;have h7:(s:Int)<16:=oaa
 show yO _ #[.pointer (some ⟨d,0,none⟩),.agg #[.int .i64 xk,.int .i64 p,.int .i64 r,.int .i64 s,.int .i64 xn]] V _;obtain⟨ns,b0⟩:∃ n,R.s.length=n:=⟨_,rfl⟩;have g7:Hid (R.s.length=ns):=b0;have D:Hid (∀ (ha:OA) (hc:Nat) W,Bl V W->aZ W ha M->yO 192 #[.agg #[.slice (some ⟨g,0,none⟩) R.s.length c0],.agg #[.int .i64 (hd R (p:Int)).1,.int .i64 (hd R (p:Int)).2],.agg #[.int .i64 (hd R (r:Int)).1,.int .i64 (hd R (r:Int)).2],.slice ha M.length hc] W fun e w' => ∃ a' c', e=.returned (.tuple #[.agg #[.slice a' (rS (fT R.s (hd R (p:Int)).1 (hd R (p:Int)).2 (hd R (r:Int)).1 (hd R (r:Int)).2 M) (kE R.s (hd R (p:Int)).1 (hd R (r:Int)).1 M)).length c'],.int .i64 (fT R.s (hd R (p:Int)).1 (hd R (p:Int)).2 (hd R (r:Int)).1 (hd R (r:Int)).2 M)])/\Below W.heap.size W w' /\ St (fun b=>b<W.heap.size) (fun V=>aD V a' (rS (fT R.s (hd R (p:Int)).1 (hd R (p:Int)).2 (hd R (r:Int)).1 (hd R (r:Int)).2 M) (kE R.s (hd R (p:Int)).1 (hd R (r:Int)).1 M))) w'):=fun ha hc W hW hH=>VH R.s _ _ M ha hc wf hm (some ⟨g,0,none⟩) c0 W (I.nds.below hW) hH;have DH:Hid (∀ W,Calls _ _ _ _ _):=fun W=>sP ⟨some ⟨g,0,none⟩,some ⟨h,0,none⟩,a2,a3,c0,c1,c2,c3⟩ R (s:Int) W hl;dsimp only[rlV] at DH;rw[hl] at DH;rw[b8] at DH;obtain⟨ni,b5⟩:∃ n,R.i.length=n:=⟨_,rfl⟩;obtain⟨nt,b6⟩:∃ n,R.t.length=n:=⟨_,rfl⟩;rw[b0,b5,b6] at DH;rw[b5] at l2;rw[b6] at l3;clear b5 b6;have HH:Hid ([hd R (s:Int)]=M):=Z;clear b4 b8 Z;clear ha c6 hl;generalize hd R (p:Int)=hA at *;obtain⟨P,U⟩:=hA;generalize hd R (r:Int)=hB at *
 obtain⟨P2,U2⟩:=hB;dsimp only at u0 u1 v0 v1 D |-;obtain⟨E,hE⟩:∃ E,fT R.s P U P2 U2 M=E:=⟨_,rfl⟩;obtain⟨T,hT⟩:∃ T,kE R.s P P2 M=T:=⟨_,rfl⟩;rw[hE,hT] at D;rw[hE,hT];clear hE hT;rw[b0] at D l0;clear b0 I hm;rw[h0] at D;clear h0;generalize hd R (s:Int)=hC at *;obtain⟨P3,U3⟩:=hC;dsimp only at t0 t1
 go_enter func177,ntmps177
 go_upto_region 3 with fail
 obtain⟨O,a5⟩:∃ O,V.alloc (.cells #[.int .i64 xk,.int .i64 p,.int .i64 r,.int .i64 s,.int .i64 xn] 36)=O:=⟨_,rfl⟩;have BV:Hid (Bl V O):=by rw[<- a5];exact aB _ _
 have y0:O.cell? ⟨V.heap.size,0,none⟩=some (.int .i64 xk):=by rw[<- a5];exact aK _ _ _ 0 rfl
 have y1:O.cell? ⟨V.heap.size,1,none⟩=some (.int .i64 p):=by rw[<- a5];exact aK _ _ _ 1 rfl
 have y2:O.cell? ⟨V.heap.size,2,none⟩=some (.int .i64 r):=by rw[<- a5];exact aK _ _ _ 2 rfl
 have y3:O.cell? ⟨V.heap.size,3,none⟩=some (.int .i64 s):=by rw[<- a5];exact aK _ _ _ 3 rfl
 have y4:O.cell? ⟨V.heap.size,4,none⟩=some (.int .i64 xn):=by rw[<- a5];exact aK _ _ _ 4 rfl
 have sV:V.heap.size<O.heap.size:=yi _ _ y0;rw[a5];clear a5;replace u0:=aA u0 BV;replace u1:=aA u1 BV;replace l0:=aA l0 BV;replace l1:=aA l1 BV;replace l2:=aA l2 BV;replace l3:=aA l3 BV;have n0:¬ O.heap.size=d:=oaa
 have o0:¬ d=O.heap.size:=oaa
 have n1:¬ O.heap.size=h:=oaa
 have o1:¬ h=O.heap.size:=oaa
 have n2:¬ O.heap.size=V.heap.size:=oaa
 have o2:¬ V.heap.size=O.heap.size:=oaa
 have c7:d<O.heap.size:=oaa
 have c8:h<O.heap.size:=oaa
 clear fz lt;replace v0:=aA v0 BV;replace v1:=aA v1 BV;replace t0:=aA t0 BV;replace t1:=aA t1 BV
 go_region_held3 (fun F=>F.cell? ⟨d,0,none⟩=some (.slice (some ⟨g,0,none⟩) ns c0)/\F.cell? ⟨d,1,none⟩=some (.slice (some ⟨h,0,none⟩) 16 c1)/\F.cell? ⟨d,2,none⟩=some (.slice a2 ni c2)/\F.cell? ⟨d,3,none⟩=some (.slice a3 nt c3)/\F.cell? ⟨V.heap.size,3,none⟩=some (.int .i64 s)) (go_keep) (first|(go_at_call 161;refine yj (DH O.drew) ?_;rintro e w2 ⟨rfl,b9⟩;have B2:Hid (Bl O w2):=(yv _ _).drew.trans b9;have b1:=aA l0 B2;have b2:=aA l1 B2;have c9:=aA l2 B2;have d4:=aA l3 B2;have e7:=aA y3 B2;clear b9))
 clear b1 b2 c9 d4 e7;replace l0:=aA l0 B2;replace l1:=aA l1 B2;replace u0:=aA u0 B2;replace u1:=aA u1 B2;replace v0:=aA v0 B2;replace v1:=aA v1 B2;replace t0:=aA t0 B2;replace t1:=aA t1 B2;replace y1:=aA y1 B2;replace y2:=aA y2 B2;replace y3:=aA y3 B2;have b7:Hid (Bl V w2):=BV.trans (B2.mono BV.size);have s2:=B2.size;have g4:d<w2.heap.size:=oaa
 have g5:h<w2.heap.size:=oaa
 have g6:V.heap.size<w2.heap.size:=oaa
 have e0:¬ w2.heap.size=d:=oaa
 have e1:¬ w2.heap.size=h:=oaa
 have e2:¬ w2.heap.size=V.heap.size:=oaa
 have e3:¬ d=w2.heap.size:=oaa
 have e4:¬ h=w2.heap.size:=oaa
 have e5:¬ V.heap.size=w2.heap.size:=oaa
 clear n0 n1 n2 o0 o1 o2 c7 c8 B2 BV l2 l3 y0 y4 DH sV
 go_wp2_with fail
 go_region_held3 (fun F=>F.cell? ⟨d,1,none⟩=some (.slice (some ⟨h,0,none⟩) 16 c1)/\F.cell? ⟨h,s*2,none⟩=some (.int .i64 P3)/\F.cell? ⟨h,s*2+1,none⟩=some (.int .i64 U3)/\F.cell? ⟨V.heap.size,3,none⟩=some (.int .i64 s)) (go_keep) (fail)
 go_upto_region 6 with fail
 obtain⟨J,a9⟩:∃ J,(w2.alloc (.cells #[.int .i64 P3,.int .i64 U3] 61)).drew=J:=⟨_,rfl⟩;have B4:Hid (Bl w2 J):=by rw[<- a9];exact(aB _ _).drew
 have a6:Hid (Bl V J):=b7.trans (B4.mono b7.size);have X4:Hid (J.heap[w2.heap.size]?=some (.cells #[.int .i64 P3,.int .i64 U3] 61 (0,0))):=by rw[<- a9];exact yN w2 _
 rw[a9];clear a9;obtain⟨j0,j1,jl⟩:=lN X4.out;have H4:Hid (aZ J (some ⟨w2.heap.size,0,none⟩) M):=by rw[<- HH.out];exact Uk j0 j1
 have s4:=B4.size;replace l0:=aA l0 B4;replace l1:=aA l1 B4;replace u0:=aA u0 B4;replace u1:=aA u1 B4;replace v0:=aA v0 B4;replace v1:=aA v1 B4;replace y1:=aA y1 B4;replace y2:=aA y2 B4;clear t0 t1 y3 j0 j1 e0 e1 e2 e3 e4 e5;have c7:d<J.heap.size:=oaa
 have c8:h<J.heap.size:=oaa
 have h8:V.heap.size<J.heap.size:=oaa
 have n0:¬ J.heap.size=d:=oaa
 have n1:¬ J.heap.size=h:=oaa
 have n2:¬ J.heap.size=V.heap.size:=oaa
 have o0:¬ d=J.heap.size:=oaa
 have o1:¬ h=J.heap.size:=oaa
 have o2:¬ V.heap.size=J.heap.size:=oaa
 go_cut [7,8] (fun s7 s8 wx=>∃ (b:Nat) (a' :OA) (c' : Nat),s7=.pointer (some ⟨b,0,none⟩)/\s8=.int .i64 E/\Hid (Bl J wx)/\Hid (St (fun b=>b<J.heap.size) (fun V=>aD V a' (rS E T)) wx)/\wx.cell? ⟨b,0,none⟩=some (.slice a' (rS E T).length c')/\J.heap.size<=b)
 case first =>
  go_region_held3 (fun F=>F.cell? ⟨d,0,none⟩=some (.slice (some ⟨g,0,none⟩) ns c0)/\F.cell? ⟨d,1,none⟩=some (.slice (some ⟨h,0,none⟩) 16 c1)/\F.cell? ⟨h,p*2,none⟩=some (.int .i64 P)/\F.cell? ⟨h,p*2+1,none⟩=some (.int .i64 U)/\F.cell? ⟨h,r*2,none⟩=some (.int .i64 P2)/\F.cell? ⟨h,r*2+1,none⟩=some (.int .i64 U2)/\F.cell? ⟨V.heap.size,1,none⟩=some (.int .i64 p)/\F.cell? ⟨V.heap.size,2,none⟩=some (.int .i64 r)) (go_keep) (first|(go_at_call 192;refine yj (D (some ⟨w2.heap.size,0,none⟩) 1 J.drew a6.drew (H4.below (yv _ _).drew)) ?_;rintro e w3 ⟨a', c', rfl,a7,a8⟩;have B3:Hid (Bl J w3):=(yv _ _).drew.trans a7;have N3:Hid (St (fun b=>b<J.heap.size) (fun V=>aD V a' (rS E T)) w3):=a8;have b1:=aA l0 B3;have b2:=aA l1 B3;have d5:=aA u0 B3;have d6:=aA u1 B3;have d7:=aA v0 B3;have d8:=aA v1 B3;have d9:=aA y1 B3;have e6:=aA y2 B3;clear a7 a8)|(go_at_call 192;refine yj (D (some ⟨w2.heap.size,0,none⟩) 1 (J.alloc (.cells #[.slice none 0 0] 43)).drew (a6.trans ((aB J _).mono a6.size)).drew (H4.below (aB J _).drew)) ?_;rintro e w3 ⟨a', c', rfl,a7,a8⟩;have B3:Hid (Bl J w3):=(aB J _).drew.trans (a7.mono oac);have N3:Hid (St (fun b=>b<J.heap.size+1) (fun V=>aD V a' (rS E T)) w3):=(by have h:=a8;simp only[yw,World.size_drew] at h;exact h);have b1:=aA l0 B3;have b2:=aA l1 B3;have d5:=aA u0 B3;have d6:=aA u1 B3;have d7:=aA v0 B3;have d8:=aA v1 B3;have d9:=aA y1 B3;have e6:=aA y2 B3;have X3:Hid (w3.heap[J.heap.size]?=some (.cells #[.slice none 0 0] 43 (0,0))):=aH (W:=(J.alloc (.cells #[.slice none 0 0] 43)).drew) (yN J _) a7;have x3:=cZ X3.out;have xf:=iB (o:=0) X3.out;have xl:J.heap.size<w3.heap.size:=aR X3.out;clear a7 a8))
  ·go_wp2_with fail
   go_meet
   case rel=>exact⟨_,_,_,rfl,rfl,NG _ _ (yv J.heap.size J) B3.out N3.out⟩
  ·go_wp2_with fail
   go_meet
   case rel=>exact⟨_,_,_,rfl,rfl,NH _ (yv J.heap.size J) B3.out N3.out X3.out⟩
 case rest =>
  obtain⟨b,a', c', rfl,rfl,HB,HN,b3,g8⟩:=hcut;have I2:Hid _:=II.below (a6.trans (HB.mono a6.size));have HS:Hid _:=I2.store c' HN.out (by have h1:=II.base;have h2:=a6.size;omega);obtain⟨m0,m1,m2,m3,mf,ml⟩:=aV I2.box;have bl:b<wc.heap.size:=yi _ _ b3;have h9:¬ b=d:=oaa
  clear II D u0 u1 v0 v1 l0 l1 y1 y2
  go_wp2
  refine yz (v:=.tuple #[.int .i64 0,.int .i64 E]) (by simp[results,results177,go_sem]) rfl ⟨0,rfl,HS.out.1,fun hE=>?_⟩;rw[pU hE];have h2:=HS.out.2;rw[hE,lM] at h2;rw[hE,lM];exact⟨rfl,_,h2⟩
theorem Um(S:List Nd)(h:Int × Int)(x:Ac)(wf:WF S)(a:OA)(c:Nat)(W:Wd)(O:aD W a S):yO 175 #[.agg #[.slice a S.length c],hdV h,acV x] W fun e w' => ∃ F I n,e=.returned (.tuple #[.slice F n I,.int .i64 (aP S h.1 h.2)])/\Below W.heap.size W w' /\(aP S h.1 h.2=0->n=(mW S h.1.toNat).length):=by
 have D:Hid (∀ T Z o3:Obj,_):=fun T Z o3=>Me S h wf a c (((W.alloc T).alloc Z).alloc o3) (O.below (dC _ _ _ _));clear O;obtain⟨P,U⟩:=h;dsimp only[hdV,acV] at D |-;obtain⟨E,J⟩:∃ E,aP S P U=E:=⟨_,rfl⟩;rw[J] at D |-;obtain⟨N,M⟩:∃ N,(mW S P.toNat).length=N:=⟨_,rfl⟩;rw[M] at D |-;generalize S.length=ns at *;clear J M
 go_enter func175,ntmps175
 go_wp2_with fail
 refine yj (D _ _ _) ?_;rintro e V ⟨F,I,n,rfl,hb,hn⟩;have HB:Hid (Bl W V):=(dC W _ _ _).trans (hb.mono oab);have HN:Hid (E=0->n=N):=fun h=>by rw[hn,ye h]
 clear hb hn D
 go_wp2
 exact yz (v:=.tuple #[.slice F n I,.int .i64 E]) (by simp[results,results175,go_sem]) rfl ⟨F,I,n,rfl,HB.out,HN.out⟩
theorem Un(S:List Nd)(h:Int × Int)(x:Ac)(wf:WF S)(a:OA)(c:Nat)(W:Wd)(Z:aD W a S):yO 174 #[.agg #[.slice a S.length c],hdV h,acV x] W fun e w' => ∃ F I n,e=.returned (.tuple #[.slice F n I,.int .i64 (rV S h.1 h.2 [⟨x.b,x.n,false⟩])])/\Below W.heap.size W w' /\(rV S h.1 h.2 [⟨x.b,x.n,false⟩]=0->n=(oP S h.1.toNat [⟨x.b,x.n,false⟩]).length):=by
 have D:Hid (∀ J M o3:Obj,_):=fun J M o3=>Md S h x.b x.n (some ⟨W.heap.size+1+1+1,0,none⟩) 1 wf a c ((((W.alloc J).alloc M).alloc o3).alloc (.cells #[.int .i64 x.b,.int .i64 x.n,.bool false] 231)) ((Z.below (dC _ _ _ _)).below (aB _ _)) (fun i hi=>by
  obtain rfl:i=0:=by simpa using hi
  have e:(((W.alloc J).alloc M).alloc o3).heap.size=W.heap.size+1+1+1:=oac
  refine⟨W.heap.size+1+1+1,0,rfl,?_,?_,?_⟩
  all_goals rw[<- e]
  ·exact aK _ _ _ 0 rfl
  ·exact aK _ _ _ 1 rfl
  ·exact aK _ _ _ 2 rfl)
 clear Z;obtain⟨P,U⟩:=h;obtain⟨xk,xa,xb,xc,xn⟩:=x;dsimp only[hdV,acV] at D |-;obtain⟨E,O⟩:∃ E,rV S P U [⟨xb,xn,false⟩]=E:=⟨_,rfl⟩;rw[O] at D |-;obtain⟨N,T⟩:∃ N,(oP S P.toNat [⟨xb,xn,false⟩]).length=N:=⟨_,rfl⟩;rw[T] at D |-;generalize S.length=ns at *;clear O T
 go_enter func174,ntmps174
 go_wp2_with fail
 refine yj (D _ _ _) ?_;rintro e V ⟨F,I,n,rfl,hb,hn⟩;have HB:Hid (Bl W V):=(dC W _ _ _).trans (((aB _ _).trans (hb.mono oac)).mono oab);have HN:Hid (E=0->n=N):=fun h=>by rw[hn,ye h]
 clear hb hn D
 go_wp2
 exact yz (v:=.tuple #[.slice F n I,.int .i64 E]) (by simp[results,results174,go_sem]) rfl ⟨F,I,n,rfl,HB.out,HN.out⟩
theorem Uo(W:Wd):yO 162 #[.int .i64 2] W fun e w' => ∃ E,e=.returned (.func (.func 183) #[] #[.pointer (some ⟨E,0,none⟩)])/\Below W.heap.size W w' /\ w'.cell? ⟨E,0,none⟩=some (.func (.func 167) #[] #[]):=by
 have D:Hid (∀ W,Calls _ _ _ _ _):=fun W=>YM 167 W
 go_enter func162,ntmps162
 go_wp2_with fail
 refine yj (D _) ?_;rintro e V ⟨rfl,hb,hc⟩;have F:Hid _:=hb;have I:Hid _:=hc;clear hb hc D
 go_wp2
 go_ret;exact⟨_,rfl,F.out,I.out⟩
theorem Uq(W:Wd):yO 162 #[.int .i64 4] W fun e w' => ∃ E,e=.returned (.func (.func 183) #[] #[.pointer (some ⟨E,0,none⟩)])/\Below W.heap.size W w' /\ w'.cell? ⟨E,0,none⟩=some (.func (.func 168) #[] #[]):=by
 have D:Hid (∀ W,Calls _ _ _ _ _):=fun W=>YM 168 W
 go_enter func162,ntmps162
 go_wp2_with fail
 refine yj (D _) ?_;rintro e V ⟨rfl,hb,hc⟩;have F:Hid _:=hb;have I:Hid _:=hc;clear hb hc D
 go_wp2
 go_ret;exact⟨_,rfl,F.out,I.out⟩
theorem Ur(W:Wd):yO 162 #[.int .i64 5] W fun e w' => ∃ E,e=.returned (.func (.func 187) #[] #[.pointer (some ⟨E,0,none⟩)])/\Below W.heap.size W w' /\ w'.cell? ⟨E,0,none⟩=some (.func (.func 171) #[] #[]):=by
 have D:Hid (∀ W,Calls _ _ _ _ _):=fun W=>YN 171 W
 go_enter func162,ntmps162
 go_wp2_with fail
 refine yj (D _) ?_;rintro e V ⟨rfl,hb,hc⟩;have F:Hid _:=hb;have I:Hid _:=hc;clear hb hc D
 go_wp2
 go_ret;exact⟨_,rfl,F.out,I.out⟩
theorem YP(W:Wd):yO 162 #[.int .i64 11] W fun e w' => ∃ E,e=.returned (.func (.func 187) #[] #[.pointer (some ⟨E,0,none⟩)])/\Below W.heap.size W w' /\ w'.cell? ⟨E,0,none⟩=some (.func (.func 172) #[] #[]):=by
 have D:Hid (∀ W,Calls _ _ _ _ _):=fun W=>YN 172 W
 go_enter func162,ntmps162
 go_wp2_with fail
 refine yj (D _) ?_;rintro e V ⟨rfl,hb,hc⟩;have F:Hid _:=hb;have I:Hid _:=hc;clear hb hc D
 go_wp2
 go_ret;exact⟨_,rfl,F.out,I.out⟩
theorem Us(W:Wd):yO 162 #[.int .i64 14] W fun e w' => ∃ E,e=.returned (.func (.func 188) #[] #[.pointer (some ⟨E,0,none⟩)])/\Below W.heap.size W w' /\ w'.cell? ⟨E,0,none⟩=some (.func (.func 174) #[] #[]):=by
 have D:Hid (∀ W,Calls _ _ _ _ _):=fun W=>YO 174 W
 go_enter func162,ntmps162
 go_wp2_with fail
 refine yj (D _) ?_;rintro e V ⟨rfl,hb,hc⟩;have F:Hid _:=hb;have I:Hid _:=hc;clear hb hc D
 go_wp2
 go_ret;exact⟨_,rfl,F.out,I.out⟩
theorem Ut(W:Wd):yO 162 #[.int .i64 15] W fun e w' => ∃ E,e=.returned (.func (.func 188) #[] #[.pointer (some ⟨E,0,none⟩)])/\Below W.heap.size W w' /\ w'.cell? ⟨E,0,none⟩=some (.func (.func 175) #[] #[]):=by
 have D:Hid (∀ W,Calls _ _ _ _ _):=fun W=>YO 175 W
 go_enter func162,ntmps162
 go_wp2_with fail
 refine yj (D _) ?_;rintro e V ⟨rfl,hb,hc⟩;have F:Hid _:=hb;have I:Hid _:=hc;clear hb hc D
 go_wp2
 go_ret;exact⟨_,rfl,F.out,I.out⟩
theorem YQ(W:Wd):yO 162 #[.int .i64 3] W fun e w' => ∃ E,e=.returned (.func (.func 191) #[] #[.pointer (some ⟨E,0,none⟩)])/\Below W.heap.size W w' /\ w'.cell? ⟨E,0,none⟩=some (.func (.func 177) #[] #[]):=by
 have D:Hid (∀ W,Calls _ _ _ _ _):=fun W=>NL 177 W
 go_enter func162,ntmps162
 go_wp2_with fail
 refine yj (D _) ?_;rintro e V ⟨rfl,hb,hc⟩;have F:Hid _:=hb;have I:Hid _:=hc;clear hb hc D
 go_wp2
 go_ret;exact⟨_,rfl,F.out,I.out⟩
theorem YR(W:Wd):yO 162 #[.int .i64 7] W fun e w' => ∃ E,e=.returned (.func (.func 191) #[] #[.pointer (some ⟨E,0,none⟩)])/\Below W.heap.size W w' /\ w'.cell? ⟨E,0,none⟩=some (.func (.func 178) #[] #[]):=by
 have D:Hid (∀ W,Calls _ _ _ _ _):=fun W=>NL 178 W
 go_enter func162,ntmps162
 go_wp2_with fail
 refine yj (D _) ?_;rintro e V ⟨rfl,hb,hc⟩;have F:Hid _:=hb;have I:Hid _:=hc;clear hb hc D
 go_wp2
 go_ret;exact⟨_,rfl,F.out,I.out⟩
theorem YS(W:Wd):yO 162 #[.int .i64 8] W fun e w' => ∃ E,e=.returned (.func (.func 191) #[] #[.pointer (some ⟨E,0,none⟩)])/\Below W.heap.size W w' /\ w'.cell? ⟨E,0,none⟩=some (.func (.func 179) #[] #[]):=by
 have D:Hid (∀ W,Calls _ _ _ _ _):=fun W=>NL 179 W
 go_enter func162,ntmps162
 go_wp2_with fail
 refine yj (D _) ?_;rintro e V ⟨rfl,hb,hc⟩;have F:Hid _:=hb;have I:Hid _:=hc;clear hb hc D
 go_wp2
 go_ret;exact⟨_,rfl,F.out,I.out⟩
theorem Uu(W:Wd):yO 162 #[.int .i64 1] W fun e w' => e=.returned (.func (.func 165) #[] #[])/\w' = W:=by
 go_enter func162,ntmps162
 go_wp2
 go_ret;exact⟨rfl,rfl⟩
theorem Uv(W:Wd):yO 162 #[.int .i64 6] W fun e w' => e=.returned (.func (.func 169) #[] #[])/\w' = W:=by
 go_enter func162,ntmps162
 go_wp2
 go_ret;exact⟨rfl,rfl⟩
theorem Uw(k:Int)(W:Wd)(h:k≠1/\k≠2/\k≠4/\k≠6/\k≠5/\k≠11/\k≠14/\k≠15/\k≠3/\k≠7/\k≠8):yO 162 #[.int .i64 k] W fun e w' => e=.returned .nilFunc/\w' = W:=by
 obtain⟨h1,I,M,O,h5,D,E,F,J,T,U⟩:=h;have b1:(k == 1)=false:=by simp[h1]
 have b2:(k == 2)=false:=by simp[I]
 have b4:(k == 4)=false:=by simp[M]
 have b6:(k == 6)=false:=by simp[O]
 have b5:(k == 5)=false:=by simp[h5]
 have Z:(k == 11)=false:=by simp[D]
 have a5:(k == 14)=false:=by simp[E]
 have a6:(k == 15)=false:=by simp[F]
 have b3:(k == 3)=false:=by simp[J]
 have b7:(k == 7)=false:=by simp[T]
 have b8:(k == 8)=false:=by simp[U]
 clear h1 I M O h5 D E F J T U
 go_enter func162,ntmps162
 go_wp2
 go_ret;exact⟨rfl,rfl⟩
