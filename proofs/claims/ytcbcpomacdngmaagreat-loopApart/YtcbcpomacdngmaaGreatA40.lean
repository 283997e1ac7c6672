/-
  x
-/
import Derived.Test.YtcbcpomacdngmaaGreatA39
namespace Go.Proofs.YtcbcpomacdngmaaGreat
set_option maxRecDepth 100000
set_option maxHeartbeats 4000000
set_option linter.unusedVariables false
open Go.RowKit Go.ChangeShapes Go.WideShapes Tryz
variable{V w D:Wd}{R:Rl}{A:RA}{m d me i n g b:Nat}{W:Wl}{L:List Fr}{k o:Int}{Es:List Int}
theorem RlO.off(h:RlO n V A R)(E:aC (fun b=>b<n) V D):RlO n D A R:=⟨h.a3,h.c3,h.t0,h.tr.of_block (E.block _ h.tr.lt (by have:=h.t0;omega)),h.st.off (E.mono (fun b hb=>.inl hb))⟩
theorem RlO.mono(h:RlO n V A R)(D:m<=n):RlO m V A R:=⟨h.a3,h.c3,yJ D h.t0,h.tr,h.st.less (fun b hb=>oaa)⟩
theorem SW.own{D:W0}{s:SD}(I:SW D d me W s V){N:Nat}{Q:Rl}(J:bI Q=0)(h:RlO N V A Q)(F:∀ b,SX D.heap.size d s b->b<N){E:Wd}
  (M:E=(((V.setCell ⟨s.g1,me*4,none⟩ (.slice A.a0 Q.s.length A.c0)).setCell ⟨s.g1,me*4+1,none⟩ (.slice A.a1 Q.hs.length A.c1)).setCell ⟨s.g1,me*4+2,none⟩ (.slice A.a2 Q.i.length A.c2)).setCell ⟨s.g1,me*4+3,none⟩ (.slice A.a3 Q.t.length A.c3)):∃ T,SW D d me (setR W me Q) T E:=by
 refine⟨_,I.realm I.sf J (h.st.less (fun b hb=>.inl (F b hb))) (fun U O=>?_) (fun _=>⟨h.c3,fun Z e=>?_⟩) M⟩
 ·rw[h.a3];exact wY (h.tr.of_block (O.block _ h.tr.lt (fun hb=>by have:=F _ hb;have:=h.t0;omega)))
 ·rw[h.a3] at e;cases e;exact⟨_,_,rfl⟩
theorem lU(V:Wd)(J E F I M:Int):∃ D,V.alloc (.cells #[.int .i64 J,.int .i64 E,.int .i64 F,.int .i64 I,.int .i64 M] 36)=D/\Hid (Bl V D)/\D.cell? ⟨V.heap.size,0,none⟩=some (.int .i64 J)/\D.cell? ⟨V.heap.size,1,none⟩=some (.int .i64 E)/\D.cell? ⟨V.heap.size,2,none⟩=some (.int .i64 F)/\D.cell? ⟨V.heap.size,3,none⟩=some (.int .i64 I)/\D.cell? ⟨V.heap.size,4,none⟩=some (.int .i64 M)/\V.heap.size<D.heap.size:=by
 obtain⟨h0,h1,O,T,U,_,hl⟩:=bH (yN V (.cells #[.int .i64 J,.int .i64 E,.int .i64 F,.int .i64 I,.int .i64 M] 36));exact⟨_,rfl,aB _ _,h0,h1,O,T,U,hl⟩
def gT(D:W0)(d me:Nat)(q:Ws)(e:Ending)(V:Wd):Prop:=∃ (o:Int) (s:SD),e=.returned (.tuple #[.int .i64 o,.int .i64 q.e])/\(q.e=0->o=q.o)/\SW D d me q.w s V
theorem gT.ok{D:W0}{s:SD}(h:SW D d me W s V):gT D d me ⟨0,W,o⟩ (.returned (.tuple #[.int .i64 o,.int .i64 0])) V:=⟨o,s,rfl,fun _=>rfl,h⟩
theorem gT.no{F:W0}{E D:Int}{s:SD}(h:SW F d me W s V)(I:E≠0):gT F d me ⟨E,W,o⟩ (.returned (.tuple #[.int .i64 D,.int .i64 E])) V:=⟨D,s,rfl,fun h=>absurd h I,h⟩
def lV(K:Nat)(D:Array Value)(C:World->Prop)(me:Nat)(W:Wl)(x:Ac)(q:Ws):Prop:=∀ (E:W0) (d:Nat) (s:SD) (V:Wd),SW E d me W s V->C V ->
 yO K (#[.pointer (some ⟨d,0,none⟩),.int .i64 (me:Int),acV x] ++ D) V (gT E d me q)
theorem Wq(Es:List Int)(W V:Wl)(o:Int):(bP Es W V o).e=aQ Es:=by
 unfold bP;split
 ·rename_i h;exact h.symm
 ·rfl
theorem Wt(W V:Wl)(o:Int)(h:aQ Es=0):(bP Es W V o).w=V/\(bP Es W V o).o=o:=by unfold bP;rw[ye h];exact⟨rfl,rfl⟩
theorem Wu(W V:Wl)(o:Int)(h:aQ Es≠0):(bP Es W V o).w=W:=by unfold bP;rw[yd h]
theorem wB(E:Int):aQ [E]=E:=by
 show (if E=0 then 0 else E)=E;split
 ·omega
 ·rfl
def QIs(q:Ws)(E:Int)(W V:Wl)(o:Int):Prop:=q.e=E/\(E=0->q.w=V/\q.o=o)/\(E≠0->q.w=W)
theorem pV(Es:List Int)(W V:Wl)(o:Int):QIs (bP Es W V o) (aQ Es) W V o:=⟨Wq _ _ _ _,fun h=>Wt _ _ _ h,fun h=>Wu _ _ _ h⟩
theorem ZF(hb:b<n)(W:Wd)(u0 u1 u2 u3:Value):aC (fun x=>x<n) W ((((W.setCell ⟨b,0,none⟩ u0).setCell ⟨b,1,none⟩ u1).setCell ⟨b,2,none⟩ u2).setCell ⟨b,3,none⟩ u3) :=
 (((aC.set (X:=fun x=>x<n) _ _ hb).trans (aC.set (X:=fun x=>x<n) _ _ hb)).trans (aC.set (X:=fun x=>x<n) _ _ hb)).trans (aC.set (X:=fun x=>x<n) _ _ hb)
theorem NU{W:Wd}{t:Nat}{D v1 v2 E:Value}(h:W.heap[b]?=some (.cells #[D,v1,v2,E] t (0,0))):W.cell? ⟨b,0,none⟩=some D/\W.cell? ⟨b,1,none⟩=some v1/\W.cell? ⟨b,2,none⟩=some v2/\W.cell? ⟨b,3,none⟩=some E/\b<W.heap.size :=
 ⟨by simp[World.cell?,h],by simp[World.cell?,h],by simp[World.cell?,h],by simp[World.cell?,h],aR h⟩
theorem SW.rat{F:W0}{s:SD}(I:SW F d me W s V)(hi:i<W.fs.length):aU V (s.R i) (rlm W i):=by
 obtain⟨h1,D,E⟩:=(I.dp.rl i hi).at;refine⟨h1,D,E,?_⟩;by_cases e:i=me
 ·subst e;exact NP I.dp.ts
 ·exact(I.dp.tl i hi e).at
theorem SW.rcells{D:W0}{s:SD}(I:SW D d me W s V)(hi:i<W.fs.length):V.cell? ⟨s.g1,i*4,none⟩=some (.slice (s.R i).a0 (rlm W i).s.length (s.R i).c0)/\V.cell? ⟨s.g1,i*4+1,none⟩=some (.slice (s.R i).a1 (rlm W i).hs.length (s.R i).c1)/\V.cell? ⟨s.g1,i*4+2,none⟩=some (.slice (s.R i).a2 (rlm W i).i.length (s.R i).c2)/\V.cell? ⟨s.g1,i*4+3,none⟩=some (.slice (s.R i).a3 (rlm W i).t.length (s.R i).c3)/\(∀ o,V.frozen? ⟨s.g1,o,none⟩=false)/\s.g1<V.heap.size :=
 ⟨by rw[I.r1.cell oaa,qV],by rw[I.r1.cell oaa,qW],by rw[I.r1.cell oaa,sQ],by rw[I.r1.cell oaa,sS],fun o=>I.r1.frozen o,I.r1.lt⟩
theorem Wv(me:Nat)(W:Wl)(x:Ac):lV 124 #[] (fun _=>True) me W x (wDo W me x):=fun w0 d s V I _=>by
 have QI:=pV [(doF (rlm W me) x).e] W (setR W me (doF (rlm W me) x).r) (doF (rlm W me) x).o;rw[wB] at QI;change QIs (wDo W me x) _ _ _ _ at QI;obtain⟨xk,Z,xb,xc,xn⟩:=x;have II:Hid (SW w0 d me W s V):=I;have b0:=I.lt;have b1:Hid _:=b0;obtain⟨l0,l1,l2,l3,l4,lf,ll⟩:=bH I.box;have d7:d<V.heap.size:=ll;have n8:W.fs.length<=8:=I.rt.fs.few;have c8:me<W.fs.length:=I.sf;clear b0;have a7:=uS (I.rt.rs me I.sf);have D:Hid (∀ V2,Bl V V2->Calls _ _ _ _ _):=fun V2 hV=>Vf (s.R me) (rlm W me) ⟨xk,Z,xb,xc,xn⟩ V2 a7 ((I.rat I.sf).below hV);obtain⟨k0,k1,k2,k3,kf,kl⟩:=I.rcells I.sf;have RK:Hid ((doF (rlm W me) ⟨xk,Z,xb,xc,xn⟩).e=0->bI (doF (rlm W me) ⟨xk,Z,xb,xc,xn⟩).r=0):=fun h=>(xS h).2.2;dsimp only[rlV,acV] at D;clear a7;show yO _ #[.pointer (some ⟨d,0,none⟩),.int .i64 (me:Int),.agg #[.int .i64 xk,.int .i64 Z,.int .i64 xb,.int .i64 xc,.int .i64 xn]] V _;obtain⟨n,hn⟩:∃ n,W.fs.length=n:=⟨_,rfl⟩;have HN:Hid (W.fs.length=n):=hn;obtain⟨nt,a5⟩:∃ n,W.pt.length=n:=⟨_,rfl⟩;have d5:Hid (W.pt.length=nt):=a5;rw[a5] at l4;rw[hn] at l0 l1 l2 l3 n8 c8;clear hn a5 I;generalize doF (rlm W me) ⟨xk,Z,xb,xc,xn⟩=q at *;obtain⟨E,r,o⟩:=q;dsimp only at D RK QI;generalize wDo W me ⟨xk,Z,xb,xc,xn⟩=q at *;obtain⟨qe,qw,qo⟩:=q;obtain⟨a8,Q0,Q1⟩:=QI;dsimp only at a8 Q0 Q1 |-;subst a8;have Q0:Hid _:=Q0;have Q1:Hid _:=Q1;generalize (rlm W me).s.length=r0 at *;generalize (rlm W me).hs.length=r1 at *;generalize (rlm W me).i.length=r2 at *;generalize (rlm W me).t.length=r3 at *;have d4:(me:Int)<(n:Int):=oaa
 go_enter func124,ntmps124
 go_upto_region 1 with fail
 obtain⟨J,a6,O,y0,y1,y2,y3,y4,sV⟩:=lU V xk Z xb xc xn;rw[a6];clear a6;replace l0:=aA l0 O;replace l1:=aA l1 O;replace l2:=aA l2 O;replace l3:=aA l3 O;replace l4:=aA l4 O;replace k0:=aA k0 O;replace k1:=aA k1 O;replace k2:=aA k2 O;replace k3:=aA k3 O;have n0:¬ J.heap.size=d:=oaa
 have o0:¬ d=J.heap.size:=oaa
 have n1:¬ J.heap.size=s.g1:=oaa
 have o1:¬ s.g1=J.heap.size:=oaa
 have n2:¬ J.heap.size=V.heap.size:=oaa
 have o2:¬ V.heap.size=J.heap.size:=oaa
 have d8:d<J.heap.size:=oaa
 have d9:s.g1<J.heap.size:=oaa
 go_cut [8,9,10] (fun s8 s9 s10 wx=>∃ (b:Nat) (B:RA),s8=.pointer (some ⟨b,0,none⟩)/\s9=.int .i64 o/\s10=.int .i64 qe/\Hid (Bl J wx)/\Hid (wx.heap[b]?=some (.cells #[.slice B.a0 r.s.length B.c0,.slice B.a1 r.hs.length B.c1,.slice B.a2 r.i.length B.c2,.slice B.a3 r.t.length B.c3] 50 (0,0)))/\J.heap.size<=b/\Hid (qe=0->RlO J.heap.size wx B r))
 case first =>
  go_region_held3 (fun M=>M.cell? ⟨d,1,none⟩=some (.slice (some ⟨s.g1,0,none⟩) n n)/\M.cell? ⟨s.g1,me*4,none⟩=some (.slice (s.R me).a0 r0 (s.R me).c0)/\M.cell? ⟨s.g1,me*4+1,none⟩=some (.slice (s.R me).a1 r1 (s.R me).c1)/\M.cell? ⟨s.g1,me*4+2,none⟩=some (.slice (s.R me).a2 r2 (s.R me).c2)/\M.cell? ⟨s.g1,me*4+3,none⟩=some (.slice (s.R me).a3 r3 (s.R me).c3)/\M.cell? ⟨V.heap.size,0,none⟩=some (.int .i64 xk)/\M.cell? ⟨V.heap.size,1,none⟩=some (.int .i64 Z)/\M.cell? ⟨V.heap.size,2,none⟩=some (.int .i64 xb)/\M.cell? ⟨V.heap.size,3,none⟩=some (.int .i64 xc)/\M.cell? ⟨V.heap.size,4,none⟩=some (.int .i64 xn)) (go_keep) (first|(go_at_call 148;refine yj (D J.drew O.drew) ?_;rintro e w3 ⟨B,rfl,T,_,U⟩;have F:Hid (Bl J w3):=(yv _ _).drew.trans T;have O3:Hid (qe=0->RlO J.heap.size w3 B r):=U;have b6:=aA l1 F;have b2:=aA k0 F;have b3:=aA k1 F;have b4:=aA k2 F;have b5:=aA k3 F;have b7:=aA y0 F;have b8:=aA y1 F;have b9:=aA y2 F;have c6:=aA y3 F;have c7:=aA y4 F;clear T U)|(go_at_call 148;refine yj (D (J.alloc (.cells #[.slice none 0 0,.slice none 0 0,.slice none 0 0,.slice none 0 0] 50)).drew (O.trans ((aB J _).mono O.size)).drew) ?_;rintro e w3 ⟨B,rfl,T,_,U⟩;have F:Hid (Bl J w3):=(aB J _).drew.trans (T.mono oac);have O3:Hid (qe=0->RlO (J.heap.size+1) w3 B r):=(by have h:=U;simp only[yw,World.size_drew] at h;exact h);have b6:=aA l1 F;have b2:=aA k0 F;have b3:=aA k1 F;have b4:=aA k2 F;have b5:=aA k3 F;have b7:=aA y0 F;have b8:=aA y1 F;have b9:=aA y2 F;have c6:=aA y3 F;have c7:=aA y4 F;have X3:Hid (w3.heap[J.heap.size]?=some (.cells #[.slice none 0 0,.slice none 0 0,.slice none 0 0,.slice none 0 0] 50 (0,0))):=aH (W:=(J.alloc (.cells #[.slice none 0 0,.slice none 0 0,.slice none 0 0,.slice none 0 0] 50)).drew) (yN J _) T;obtain⟨x0,x1,x2,x3,xf,xl⟩:=aV X3.out;clear T U))
  ·go_wp2_with fail
   go_meet
   case rel=>exact⟨_,B,rfl,rfl,rfl,F.trans ((aB _ _).mono F.size),mJ _ _ _ _ _ _,F.size,fun h=>(O3 h).off (aC.of_below (aB _ _))⟩
  ·go_wp2_with fail
   go_meet
   case rel=>exact⟨_,B,rfl,rfl,rfl,(((F.setCell (yr _) _).setCell (yr _) _).setCell (yr _) _).setCell (yr _) _,nY X3.out,yr _,fun h=>((O3 h).off (ZF (Nat.lt_succ_self _) _ _ _ _ _)).mono (Nat.le_succ _)⟩
 case rest =>
  obtain⟨b,B,rfl,rfl,rfl,HB,HX,d6,HO⟩:=hcut;have I2:Hid _:=II.below (O.trans (HB.mono O.size));obtain⟨e6,c9,e7,e8,e9,g0,g4⟩:=bH I2.box;rw[HN.out] at c9;obtain⟨e0,e1,e2,e3,e4,e5⟩:=I2.rcells I2.sf;obtain⟨m0,m1,m2,m3,ml⟩:=NU HX.out;clear l0 l1 l2 l3 l4 k0 k1 k2 k3 D y0 y1 y2 y3 y4;have ng:¬ s.g1=b:=oaa
  have g6:¬ b=s.g1:=oaa
  have nd:¬ d=b:=oaa
  have g5:¬ b=d:=oaa
  by_cases hE:qe=0
  ·subst hE;obtain⟨rfl,rfl⟩:=Q0.out rfl;obtain⟨s', a9⟩:=I2.own (RK rfl) (HO rfl) (fun b hb=>yC (b1 b hb) O.size) rfl;have HS:Hid _:=a9;clear a9
   go_wp2_with fail
   go_region
   go_wp2
   exact yz (v:=.tuple #[.int .i64 qo,.int .i64 0]) (by simp[results,results124,go_sem]) rfl (gT.ok (HS.below (yv _ _).drew))
  ·obtain rfl:=Q1.out hE;have hz:(qe == 0)=false:=by simp[hE]
   go_wp2
   exact yz (v:=.tuple #[.int .i64 0,.int .i64 qe]) (by simp[results,results124,go_sem]) rfl (gT.no I2.out hE)
def iN(L:List Fr)(k:Int)(i:Nat):List Fr:=(List.range L.length).map fun j=>if j<i then { fr L j with g:=(fr L j).g || inF L j k } else fr L j
theorem NV(L:List Fr)(k:Int)(i:Nat):(iN L k i).length=L.length:=by unfold iN;simp
theorem tF{j:Nat}(h:j<L.length):fr (iN L k i) j=if j<i then { fr L j with g:=(fr L j).g || inF L j k } else fr L j:=by
 rw[rZ (by rw[NV];exact h)];unfold iN;simp
theorem Xc(L:List Fr)(k:Int):iN L k L.length=fV L k:=by
 refine Ju (by rw[NV,mH]) (fun i hi=>?_);rw[NV] at hi;rw[tF hi,ye hi,vD hi]
def bW(w:Wd)(g n:Nat)(L:List Fr):Prop:=∃ F,w.rowIs g 65 (n*5) F/\∀ m,m<n*5->F m=frF L m
theorem bW.start(h:bW w g L.length L):bW w g L.length (iN L k 0):=by
 obtain⟨F,h1,D⟩:=h;exact⟨F,h1,fun m E=>(D m E).trans (DZ (by rw[tF oaa,yd oaa]))⟩
theorem bW.no(h:bW w g L.length (iN L k i))(hi:i<L.length)(D:inF L i k=false):bW w g L.length (iN L k (i+1)):=by
 obtain⟨F,h1,I⟩:=h;refine⟨F,h1,fun m J=>(I m J).trans (DZ ?_)⟩;rw[tF oaa,tF oaa];by_cases e:m / 5<i
 ·rw[ye e,ye oaa]
 ·by_cases E:m / 5=i
  ·rw[E,yd oaa,ye oaa,D,Bool.or_false]
  ·rw[yd e,yd oaa]
theorem bW.yes(h:bW w g L.length (iN L k i))(hi:i<L.length)(E:inF L i k=true):bW (w.setCell ⟨g,i*5+4,none⟩ (.bool true)) g L.length (iN L k (i+1)):=by
 obtain⟨F,h1,M⟩:=h;refine⟨_,h1.set (i*5+4) (.bool true),fun m O=>?_⟩;by_cases e:m=i*5+4
 ·subst e;rw[ye rfl,jT _ _ 4 oaa,tF hi,ye oaa,E,Bool.or_true];rfl
 ·rw[yd e,M m O];unfold frF;rw[tF oaa,tF oaa];by_cases I:m / 5<i
  ·rw[ye I,ye oaa]
  ·by_cases J:m / 5=i
   ·rw[J,yd oaa,ye oaa];have D:m % 5=0\/m % 5=1\/m % 5=2\/m % 5=3:=oaa;rcases D with D|D|D|D <;> rw[D] <;> rfl
   ·rw[yd I,yd oaa]
theorem Xd(a:OA)(c:Nat)(L:List Fr)(k:Int)(w:Wd)(hN:L.length<=8)(hL:aS w a L)(hE:dR L k=0) :
  yO 140 #[.slice a L.length c,.int .i64 k] w fun e w' => ∃ g,e=.returned (.tuple #[.slice (some ⟨g,0,none⟩) L.length L.length,.int .i64 0])/\Below w.heap.size w w' /\ w.heap.size<=g/\aS w' (some ⟨g,0,none⟩) (fV L k):=by
 have d:=KF a c L k w oaa hL;rw[hE] at d;have D:Hid _:=d;obtain⟨R,q,rfl,hq,hg⟩:=xX hE;have HL:Hid (aS w a L):=hL;obtain⟨b,ao,ea,c0,c1,c2,c3,c4⟩:=hL q hq;subst ea;clear c0 c1 c2 c3 c4 hg hE R d hL hq;have DW:Hid (∀ (i:Nat) (W:Wd),aS W (some ⟨b,ao,none⟩) L->_):=fun i W hW=>KG (some ⟨b,ao,none⟩) c L (i:Int) (q:Int) W oaa hW;obtain⟨i0,b8,d5,c7,d6⟩:=info_parts KI;have c6:=UW L.length oaa;have b7:Hid (∀ W,aS W (some ⟨b,ao,none⟩) L->∀ j v,(dW L)[j]?=some v->W.cell? ((⟨b,ao,none⟩:Addr).add j)=some v):=fun W hW=>hW.src;have b6:Hid _:=KQ L;have a6:Hid ((dW L).length=L.length*5):=xZ L;have CP:Hid (∀ (W:Wd) (g:Nat),W.heap[g]?=some (.cells (dW L++(madeCells lG (L.length*5)).toList.drop (dW L).length).toArray 65 (0,0))->bW W g L.length (iN L q 0)):=fun W g hg=>bW.start (by obtain⟨F,h1,O⟩:=UX hg (yr _);exact⟨F,h1,O⟩);have b2:Hid (∀ (W:Wd) (g i:Nat),bW W g L.length (iN L q i)->i<L.length->inF L i q=true->bW (W.setCell ⟨g,i*5+4,none⟩ (.bool true)) g L.length (iN L q (i+1))):=fun W g i h1 O h3=>h1.yes O h3;have NO:Hid (∀ (W:Wd) (g i:Nat),bW W g L.length (iN L q i)->i<L.length->inF L i q=false->bW W g L.length (iN L q (i+1))):=fun W g i h1 O h3=>h1.no O h3
 have b0:Hid (∀ (W:Wd) (g:Nat),bW W g L.length (iN L q L.length)->aS W (some ⟨g,0,none⟩) (fV L q)):=fun W g ⟨F,h1,O⟩=>by
  rw[Xc] at O;exact KP h1 (by rw[mH];exact yr _) (fun m hm=>O m (by rw[mH] at hm;exact hm))
 have T:Hid (∀ (W:Wd) (g i:Nat) (M:List Fr),bW W g L.length M->i<L.length->(∃ u,W.cell? ⟨g,i*5+4,none⟩=some u)/\(∀ o,W.frozen? ⟨g,o,none⟩=false)/\g<W.heap.size):=fun W g i M ⟨F,h1,O⟩ hi=>⟨⟨_,h1.cell oaa⟩,h1.frozen,h1.lt⟩;generalize dW L=cs at *;generalize fV L q=DF at *;obtain⟨n,hn⟩:∃ n,L.length=n:=⟨_,rfl⟩;have HN:Hid (L.length=n):=hn;rw[hn] at hN D DW c6 a6 CP b2 NO b0 T |-;clear hn
 go_enter func140,ntmps140
 go_wp2_with fail
 refine yj D.out ?_;rintro e w1 ⟨rfl,a7⟩;have Z:Hid (Bl w w1):=a7;have b1:Hid (aS w1 (some ⟨b,ao,none⟩) L):=HL.below a7;clear a7
 have HG:Hid ((w1.alloc (.cells (madeCells lG (n*5)) 65)).heap[w1.heap.size]?=some (.cells (madeCells lG (n*5)).toList.toArray 65 (0,0))):=by
  have:=yN w1 (.cells (madeCells lG (n*5)) 65);show _=_;simpa using this
 go_wp2_with (refine KH rfl (.tmp 18) (.tmp 19) 22 22 rfl 65 i0 underlying22 b8 w1.heap.size 0 n n ⟨b,ao,none⟩ n c n ?hd ?hs (madeCells lG (n*5)).toList 65 ?hg cs ?hn ?hl ?hsrc ?hfit ?h1 ?_)
 case hd=>rfl
 case hs=>rfl
 case hg=>exact HG.out
 case hn=>show n=min n n;omega
 case hl=>rw[a6.out,c7]
 case hsrc=>exact b7.out _ (b1.below (aB _ _))
 case hfit=>rw[a6.out];simp[size_madeCells]
 case h1=>exact b6.out
 intro w3 b4 b3;have b5:Hid (Bl w1 w3):=b3 _ _ (aB w1 _) (yr _);have HR:Hid (bW w3 w1.heap.size n (iN L q 0)):=CP.out w3 _ b4;clear b4 b3 HG
 go_wp2_with fail
 go_loopg [23] n (fun g s23 wr=>∃ i:Nat,i<=n/\n-i<=g/\s23=.int .i64 i/\Hid (Bl w1 wr)/\Hid (bW wr w1.heap.size n (iN L q i)))
 case atStart=>exact⟨0,oaa,oaa,rfl,b5,HR⟩
 case round =>
  obtain⟨i,hi,hg,rfl,J,E⟩:=hrel;clear HR;by_cases a8:i<n
  ·have c8:(i:Int)<(n:Int):=oaa;have DI:=DW.out i wr (b1.below J);obtain⟨⟨u,hu⟩,c9,d4⟩:=T.out wr _ i _ E.out a8
   cases hin:inF L (i:Int) (q:Int) with
   | true =>
    rw[hin] at DI;have U:Hid _:=DI;have a5:Hid _:=b2.out wr _ i E.out a8 hin;clear hin DI
    go_wp2_with fail
    refine yj U.out ?_;rintro e w4 ⟨rfl,I⟩;have a9:=I.symm;clear I;subst a9
    go_wp2_with fail
    go_roundg (n-(i+1))
    case measure=>omega
    case rel=>exact⟨i+1,oaa,oaa,by go_num,J.setCell (yr _) _,a5⟩
   | false =>
    rw[hin] at DI;have U:Hid _:=DI;have a5:Hid _:=NO.out wr _ i E.out a8 hin;clear hin DI
    go_wp2_with fail
    refine yj U.out ?_;rintro e w4 ⟨rfl,I⟩;have a9:=I.symm;clear I;subst a9
    go_wp2_with fail
    go_roundg (n-(i+1))
    case measure=>omega
    case rel=>exact⟨i+1,oaa,oaa,by go_num,J,a5⟩
  ·have b9:i=n:=oaa;subst b9;have HF:Hid _:=b0.out wr _ E.out;clear E
   go_wp2_with fail
   exact yz (v:=.tuple #[.slice (some ⟨w1.heap.size,0,none⟩) i i,.int .i64 0]) (by simp[results,results140,go_sem]) rfl ⟨_,rfl,Z.trans (J.mono Z.size),Z.size,HF.out⟩
def NW(L:List Fr)(k:Int):Int:=if dR L k=0 then (gM L k:Nat) else 0
theorem Xe(a:OA)(c:Nat)(L:List Fr)(k:Int)(w:Wd)(F:L.length<=9223372036854775807)(E:aS w a L) :
  yO 138 #[.slice a L.length c,.int .i64 k] w fun e w' => e=.returned (.tuple #[.int .i64 (NW L k),.int .i64 (dR L k)])/\Below w.heap.size w w' := by
 unfold NW;by_cases D:dR L k=0
 ·rw[ye D,D];exact Kq a c L k w (xX D).1.few E D
 ·rw[yd D];exact Ko a c L k w F E D
def N1:List Fr:=[⟨-1,0,7,0,false⟩,⟨0,1,7,0,false⟩]
def N2:List Fr:=[⟨-1,0,7,0,false⟩,⟨0,1,7,0,false⟩,⟨1,1,7,0,false⟩]
def N3:List Fr:=[⟨-1,0,7,0,false⟩,⟨0,5,7,1,false⟩,⟨1,1,7,0,true⟩]
def mkF(R:Rl)(m h k j:Nat):Value :=
 if j=0 then .int .i64 (m:Int) else if j=1 then .slice (some ⟨h,0,none⟩) m m
 else if j % 2=0 then (if j / 2-1<k then .int .i64 (nd R.s (hd R ((j / 2-1:Nat):Int)).1.toNat).m else .int .i64 0) else .slice none 0 0
def kdF(k j:Nat):Value:=if j<k then .int .i64 ((j:Int)+1) else .int .i64 0
structure MkI (w:Wd) (A:RA) (R:Rl) (m k:Nat) (V:Wd):Prop where
 bel:Bl w V
 r:V.heap[w.heap.size]?=some (.cells #[.slice A.a0 R.s.length A.c0,.slice A.a1 R.hs.length A.c1,.slice A.a2 R.i.length A.c2,.slice A.a3 R.t.length A.c3] 50 (0,0))
 z:V.heap[w.heap.size+1]?=some (.cells #[.slice none 0 0] 47 (0,0))
 g:V.rowIs (w.heap.size+1+1) 55 ((m+1)*2) (mkF R m (w.heap.size+1+1+1) k)
 h:V.rowIs (w.heap.size+1+1+1) 3 m (kdF k)
 ok:∀ i:Nat,i<k->aP R.s (hd R i).1 (hd R i).2=0
theorem MkI.below{k:Nat}(I:MkI w A R m k V)(hb:Bl V D):MkI w A R m k D:=⟨I.bel.trans (hb.mono I.bel.size),aH I.r hb,aH I.z hb,I.g.of_block (hb.block _ I.g.lt),I.h.of_block (hb.block _ I.h.lt),I.ok⟩
theorem MkI.step{k:Nat}(I:MkI w A R m k V)(hk:k<m)(U:aP R.s (hd R k).1 (hd R k).2=0):MkI w A R m (k+1) (((V.setCell ⟨w.heap.size+1+1+1,k,none⟩ (.int .i64 ((k:Int)+1))).setCell ⟨w.heap.size+1+1,(k+1)*2,none⟩ (.int .i64 (nd R.s (hd R (k:Int)).1.toNat).m)).setCell ⟨w.heap.size+1+1,(k+1)*2+1,none⟩ (.slice none 0 0)):=by
 have h0:∀ b,b≠w.heap.size+1+1->b≠w.heap.size+1+1+1->(((V.setCell ⟨w.heap.size+1+1+1,k,none⟩ (.int .i64 ((k:Int)+1))).setCell ⟨w.heap.size+1+1,(k+1)*2,none⟩ (.int .i64 (nd R.s (hd R (k:Int)).1.toNat).m)).setCell ⟨w.heap.size+1+1,(k+1)*2+1,none⟩ (.slice none 0 0)).heap[b]?=V.heap[b]?:=fun b h1 T=>by
  rw[yx _ _ _ _ h1,yx _ _ _ _ h1,yx _ _ _ _ T]
 refine⟨((I.bel.setCell oab _).setCell oab _).setCell oab _,(h0 _ oaa oaa).trans I.r,(h0 _ oaa oaa).trans I.z,?_,?_,fun i hi=>?_⟩
 ·refine yG (((I.g.setOther oac _).set ((k+1)*2) _).set ((k+1)*2+1) _) (fun j Z=>?_);unfold mkF;by_cases M:j=(k+1)*2+1
  ·rw[ye M,yd oaa,yd oaa,yd oaa]
  ·rw[yd M];by_cases D:j=(k+1)*2
   ·rw[ye D,yd oaa,yd oaa,ye oaa,show j / 2-1=k by omega,ye oaa]
   ·rw[yd D];by_cases E:j=0
    ·rw[ye E,ye E]
    ·rw[yd E,yd E];by_cases F:j=1
     ·rw[ye F,ye F]
     ·rw[yd F,yd F];by_cases J:j % 2=0
      ·rw[ye J,ye J];by_cases O:j / 2-1<k
       ·rw[ye O,ye oaa]
       ·rw[yd O,yd oaa]
      ·rw[yd J,yd J]
 ·refine yG (((I.h.set k _).setOther oac _).setOther oac _) (fun j Z=>?_);unfold kdF;by_cases e:j=k
  ·subst e;rw[ye rfl,ye oaa]
  ·rw[yd e];by_cases D:j<k
   ·rw[ye D,ye oaa]
   ·rw[yd D,yd oaa]
 ·by_cases e:i=k
  ·rw[e];exact U
  ·exact I.ok i oaa
theorem Yd{n:Int}(h:¬ (0<=n/\n<=8)):dN R n=2:=yd h
theorem Ye(E:m<=8)(h:∀ i:Nat,i<m->aP R.s (hd R i).1 (hd R i).2=0):dN R m=0:=by
 have key:∀ n,n<=m->jC R n=0:=fun n=>by
  induction n with
  | zero=>intro _;rfl
  | succ n D=>intro hn;unfold jC;rw[ye (D oaa)];exact h n oaa
 unfold dN;rw[ye oaa,yk];exact key m (yr _)
theorem Yf{k:Nat}(J:m<=8)(M:k<m)(h:∀ i:Nat,i<k->aP R.s (hd R i).1 (hd R i).2=0)(F:aP R.s (hd R k).1 (hd R k).2≠0):dN R m=aP R.s (hd R k).1 (hd R k).2:=by
 have key:∀ n,n<=k->jC R n=0:=fun n=>by
  induction n with
  | zero=>intro _;rfl
  | succ n E=>intro hn;unfold jC;rw[ye (E oaa)];exact h n oaa
 have I:jC R (k+1)=aP R.s (hd R k).1 (hd R k).2:=by unfold jC;rw[ye (key k (yr _))]
 have D:∀ n,jC R (k+1+n)=aP R.s (hd R k).1 (hd R k).2:=fun n=>by
  induction n with
  | zero=>exact I
  | succ n E=>show (if jC R (k+1+n)=0 then _ else jC R (k+1+n))=_;rw[E,yd F]
 unfold dN;rw[ye oaa,yk,show m=k+1+(m-k-1) by omega];exact D _
def mkG(R:Rl)(n:Int):List Cl:=if dN R n=0 then bO R n.toNat else []
