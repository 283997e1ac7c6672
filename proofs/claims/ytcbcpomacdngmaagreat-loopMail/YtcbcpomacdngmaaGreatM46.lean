/-
  x
-/
import Derived.Test.YtcbcpomacdngmaaGreatM45
namespace Go.Proofs.YtcbcpomacdngmaaGreat
set_option maxRecDepth 100000
set_option maxHeartbeats 4000000
set_option linter.unusedVariables false
open Go.RowKit Go.ChangeShapes Go.WideShapes
theorem SW.wlX{M:W0}{d me:Nat}{W:Wl}{s:SD}{V:World}(I:SW M d me W s V):zgc (fun b=>b<M.heap.size\/b=d) V (s.wa W.fs.length) W:=fun E J=>by
 have ha:=I.ap;have D:zar (SX M.heap.size d s) V E:=J.mono (fun b h=>h.elim .inl (fun h=>.inr (.inl h)));have r1:=I.r1.of_block (J.block _ I.r1.lt (by have h1:=ha.g1;have O:=ha.d1;show ¬ (_\/_);omega));have r2:=I.r2.of_block (J.block _ I.r2.lt (by have h1:=ha.g2;have O:=ha.d2;show ¬ (_\/_);omega));have r3:=I.r3.of_block (J.block _ I.r3.lt (by have h1:=ha.g3;have O:=ha.d3;show ¬ (_\/_);omega));have T:=I.dp.ts.kept D (Y:=SX M.heap.size d s) (fun _ _ h=>h) (fun b F=>J.block b (I.dp.ts.lt b F).1 (by have h1:=(I.dp.ts.lt b F).2;have O:=(ha.tt b F).1;show ¬ (_\/_);omega));refine⟨I.dp.fr E D,fun i hi=>?_,fun i hi=>?_,fun i hi=>?_,I.dp.pt E D⟩
 ·rw[I.rt.lr] at hi;refine⟨s.g1,0,s.R i,rfl,?_,?_,?_,?_,(I.dp.rl i hi E D).1,(I.dp.rl i hi E D).2.1,(I.dp.rl i hi E D).2.2,?_⟩
  ·rw[yz,r1.cell (by omega),zik];rfl
  ·rw[yz,r1.cell (by omega),zil];rfl
  ·rw[yz,r1.cell (by omega),zjw];rfl
  ·rw[yz,r1.cell (by omega),zjx];rfl
  ·by_cases e:i=me
   ·subst e;exact zlh T
   ·exact I.dp.tl i hi e E D
 ·rw[I.rt.lp] at hi;exact⟨s.g2,0,(s.P i).1,(s.P i).2,rfl,by rw[yz,r2.cell hi];rfl,I.dp.pr i hi E D⟩
 ·rw[I.rt.lq] at hi;have U:=(I.dp.qs i hi).kept D (Y:=SX M.heap.size d s) (fun _ _ h=>h) (fun b F=>J.block b ((I.dp.qs i hi).lt b F).1 (by have h1:=((I.dp.qs i hi).lt b F).2;have O:=(ha.qq i b F).2.1;show ¬ (_\/_);omega));have Z:=(zbs.1 (I.rt.qs i hi)).1;exact⟨s.g3,0,(s.Q i).1,(s.Q i).2,rfl,by rw[yz,r3.cell hi];rfl,zxh U (show (que W i).length<=_ by omega),zrZ U (fun j hj=>I.dp.qg i hi j hj E D)⟩
def QuX(w:World)(g3:Nat)(Q:Nat->Option Addr × Nat)(D:Nat->Nat->Option Addr × Nat)(W:Wl):Prop:=∀ i,i<W.fs.length->w.cell? ⟨g3,i,none⟩=some (.slice (Q i).1 (que W i).length (Q i).2)/\∀ j,j<(que W i).length->∃ b o,(Q i).1=some ⟨b,o,none⟩/\w.cell? ⟨b,o+j*2,none⟩=some (.int .i64 (ml (que W i) j).f)/\w.cell? ⟨b,o+j*2+1,none⟩=some (.slice (D i j).1 (ml (que W i) j).g.length (D i j).2)/\zaF w (D i j).1 (ml (que W i) j).g
def zgE(X:Nat->Prop)(w:World)(B:WA)(W:Wl):Prop:=∃ (g g3:Nat) (P Q:Nat->Option Addr × Nat) (D:Nat->Nat->Option Addr × Nat),B.a2=some ⟨g,0,none⟩/\B.a3=some ⟨g3,0,none⟩/\w.rowIs g 34 W.fs.length (fun i=>.slice (P i).1 (prg W i).length (P i).2)/\¬ X g/\St (fun b=>X b\/b=g) (fun w=>zaS w B.a0 W.fs/\zmk w B.a1 W.rs/\zmj w B.a3 W.qs/\zdr w B.a4 W.pt/\(∀ i,i<W.fs.length->zbE w (P i).1 (prg W i))/\QuX w g3 Q D W) w
theorem SW.wlP{J:W0}{d me:Nat}{W:Wl}{s:SD}{V:World}(I:SW J d me W s V):zgE (fun b=>b<J.heap.size) V (s.wa W.fs.length) W:=by
 have ha:=I.ap;refine⟨s.g2,s.g3,s.P,s.Q,s.G,rfl,rfl,I.r2,by have:=ha.g2;show ¬ s.g2<J.heap.size;omega,fun E O=>?_⟩;have D:zar (SX J.heap.size d s) V E:=O.mono (fun b h=>h.elim .inl (fun h=>.inr (.inr (.inr (.inl h)))));have r1:=I.r1.of_block (O.block _ I.r1.lt (by have h1:=ha.g1;have M:=ha.g12;show ¬ (_\/_);omega));have r3:=I.r3.of_block (O.block _ I.r3.lt (by have h1:=ha.g3;have M:=ha.g23;show ¬ (_\/_);omega));have Z:=I.dp.ts.kept D (Y:=SX J.heap.size d s) (fun _ _ h=>h) (fun b F=>O.block b (I.dp.ts.lt b F).1 (by have h1:=(I.dp.ts.lt b F).2;have M:=(ha.tt b F).2.2.1;show ¬ (_\/_);omega));have U:∀ i,i<W.fs.length->App (SX J.heap.size d s) J.heap.size 53 2 (s.Q i).1 (que W i).length (s.Q i).2 (zcv (que W i) (s.G i)) (s.q i) E:=fun i hi=>(I.dp.qs i hi).kept D (Y:=SX J.heap.size d s) (fun _ _ h=>h) (fun b F=>O.block b ((I.dp.qs i hi).lt b F).1 (by have h1:=((I.dp.qs i hi).lt b F).2;have M:=(ha.qq i b F).2.2.2.1;show ¬ (_\/_);omega));refine⟨I.dp.fr E D,fun i hi=>?_,fun i hi=>?_,I.dp.pt E D,fun i hi=>I.dp.pr i hi E D,fun i hi=>⟨r3.cell hi,fun j T=>?_⟩⟩
 ·rw[I.rt.lr] at hi;refine⟨s.g1,0,s.R i,rfl,?_,?_,?_,?_,(I.dp.rl i hi E D).1,(I.dp.rl i hi E D).2.1,(I.dp.rl i hi E D).2.2,?_⟩
  ·rw[yz,r1.cell (by omega),zik];rfl
  ·rw[yz,r1.cell (by omega),zil];rfl
  ·rw[yz,r1.cell (by omega),zjw];rfl
  ·rw[yz,r1.cell (by omega),zjx];rfl
  ·by_cases e:i=me
   ·subst e;exact zlh Z
   ·exact I.dp.tl i hi e E D
 ·rw[I.rt.lq] at hi;have hq:=(I.dp.qs i hi).kept D (Y:=SX J.heap.size d s) (fun _ _ h=>h) (fun b F=>O.block b ((I.dp.qs i hi).lt b F).1 (by have h1:=((I.dp.qs i hi).lt b F).2;have M:=(ha.qq i b F).2.2.2.1;show ¬ (_\/_);omega));have a5:=(zbs.1 (I.rt.qs i hi)).1;exact⟨s.g3,0,(s.Q i).1,(s.Q i).2,rfl,by rw[yz,r3.cell hi];rfl,zxh hq (show (que W i).length<=_ by omega),zrZ hq (fun j T=>I.dp.qg i hi j T E D)⟩
 ·obtain⟨h1,M⟩:=(U i hi).read
  cases hQ:(s.Q i).1 with
  | none=>have:=h1 hQ;omega
  | some ad =>
   obtain⟨b,o,rfl⟩:=(U i hi).lit ad hQ;have h3:=M _ hQ _ _ (zfv T).1;have h4:=M _ hQ _ _ (zfv T).2;rw[Addr.add_lit] at h3 h4;exact⟨b,o,rfl,h3,h4,I.dp.qg i hi j T E D⟩
theorem zgE.grow{X Y:Nat->Prop}{w w' : World}{B:WA}{W:Wl}(h:zgE X w B W)(E:zar X w w')(D:∀ b,b<w.heap.size->Y b->X b):zgE Y w' B W:=by
 obtain⟨g,g3,P,Q,I,e,J,r,F,hs⟩:=h;exact⟨g,g3,P,Q,I,e,J,r.of_block (E.block _ r.lt F),fun O=>F (D g r.lt O),hs.grow (E.mono (fun _ h=>.inl h)) (fun b hl M=>M.elim (fun h=>.inl (D b hl h)) .inr)⟩
theorem SW.wlC{D:W0}{d me:Nat}{W:Wl}{s:SD}{V:World}(I:SW D d me W s V):WlC (s.wa W.fs.length) W:=by
 have hn:W.fs.length<=8:=I.rt.fs.few;refine⟨I.dp.fc,?_,?_,?_,I.dp.pc⟩
 ·rw[I.rt.lr];exact⟨(fun e=>by cases e),yj _,by show W.fs.length<=9223372036854775807;omega⟩
 ·rw[I.rt.lp];exact⟨(fun e=>by cases e),yj _,by show W.fs.length<=9223372036854775807;omega⟩
 ·rw[I.rt.lq];exact⟨(fun e=>by cases e),yj _,by show W.fs.length<=9223372036854775807;omega⟩
def znD(X:Nat->Prop)(w:World)(W:Wl)(k:Int)(st:Bool)(e:Ending)(w' : World):Prop:=∃ B:WA,e=.returned (.tuple #[wlV B (zaX W k st),.int .i64 (zbK W k st)])/\Below w.heap.size w w' /\ WlC B (zaX W k st)/\zgc X w' B (zaX W k st)/\(zbK W k st=0->zgE (fun b=>b<w.heap.size) w' B (zaX W k st))
theorem znD.no{X:Nat->Prop}{w w' : World}{W:Wl}{k E:Int}{st:Bool}(h:zbK W k st=E)(D:E≠0)(F:Below w.heap.size w w'):znD X w W k st (.returned (.tuple #[.agg #[.slice none 0 0,.slice none 0 0,.slice none 0 0,.slice none 0 0,.slice none 0 0],.int .i64 E])) w' := by
 subst h;have e:zaX W k st=zjQ:=ya D;refine⟨⟨none,none,none,none,none,0,0,0,0,0⟩,?_,F,?_,?_,fun h=>absurd h D⟩
 ·rw[e];rfl
 ·rw[e];exact⟨zcL,zcL,zcL,zcL,zcL⟩
 ·rw[e];exact fun w' _=>zoS w' _
theorem ztZ{W:Wl}{k:Int}{st:Bool}(h:zby W=0):zbK W k st=zao [zax W.fs k,if bits .and .i64 (ziu W k.toNat) 1=0 then 7 else 0,if 4760<(rlm W k.toNat).t.length then 1 else 0,if st=false/\(que W k.toNat).length=0 then 8 else 0]:=by
 unfold zbK;show (if zby W=0 then _ else _)=_;rw[yb h]
theorem zjD{b n:Nat}(D:b<n)(W:World)(u0 u1 u2 u3 u4:Value):zar (fun x=>x<n) W (((((W.setCell ⟨b,0,none⟩ u0).setCell ⟨b,1,none⟩ u1).setCell ⟨b,2,none⟩ u2).setCell ⟨b,3,none⟩ u3).setCell ⟨b,4,none⟩ u4) :=
 ((((zar.set (X:=fun x=>x<n) _ _ D).trans (zar.set (X:=fun x=>x<n) _ _ D)).trans (zar.set (X:=fun x=>x<n) _ _ D)).trans (zar.set (X:=fun x=>x<n) _ _ D)).trans (zar.set (X:=fun x=>x<n) _ _ D)
theorem zvg(W:Wl)(me:Nat)(st:Bool):setR (if st then W else { W with qs:=W.qs.set me ((que W me).drop 1) }) me { rlm (if st then W else { W with qs:=W.qs.set me ((que W me).drop 1) }) me with i:=if st then [] else ((que W me).getD 0 ⟨0,[]⟩).g }=zbb W me st:=by cases st <;> rfl
theorem take2(me:Nat)(W:Wl)(st:Bool)(J:W0)(d:Nat)(s:SD)(V:World)(I:SW J d me W s V)(hq:s.q me=none)(hl:st=false->(que W me).length≠0){n gl:Nat}(hn:W.fs.length=n)(T:(if st then [] else ((que W me).getD 0 ⟨0,[]⟩).g).length=gl):yL 40 #[.pointer (some ⟨d,0,none⟩),.agg #[.int .i64 (me:Int),.bool st]] V fun e E=>∃ ga gc s7 v,e=.returned (.agg #[.slice ga gl gc])/\Hid (Below J.heap.size J.w E)/\E.cell? ⟨d,1,none⟩=some (.slice (some ⟨s.g1,0,none⟩) n n)/\E.cell? ⟨s.g1,me*4+2,none⟩=some v/\E.frozen? ⟨s.g1,me*4+2,none⟩=false/\s.g1<E.heap.size/\d<E.heap.size/\Hid (SW J d me (zbb W me st) s7 (E.setCell ⟨s.g1,me*4+2,none⟩ (.slice ga gl gc))):=by
 refine(zwV me W st J d s V I hq hl).mono ?_;rintro e E ⟨ga,gc,s6,rfl,D,F,O⟩;subst hn;subst T;have H:=(zex I.rt I.sf st hl).rs me (by rw[zdt];exact I.sf);rw[zdi (by rw[I.rt.lr];exact I.sf)] at H;have eR:rlm (if st then W else { W with qs:=W.qs.set me ((que W me).drop 1) }) me=rlm W me:=by cases st <;> rfl
 have eF:(if st then W else { W with qs:=W.qs.set me ((que W me).drop 1) }:Wl).fs=W.fs:=by cases st <;> rfl
 have U:=D.setIn (a:=ga) (c:=gc) (G:=if st then [] else ((que W me).getD 0 ⟨0,[]⟩).g) (by rw[eR];exact H) O;rw[zvg,F] at U;obtain⟨_,M,_,_,_,_,bl⟩:=zaj D.box;obtain⟨_,_,Z,_,kf,kl⟩:=D.rcells D.sf;rw[F] at M Z kf kl;rw[eF] at M;exact⟨ga,gc,_,_,rfl,D.bel,M,Z,kf _,kl,bl,U⟩
theorem step_end{X:Nat->Prop}{w U F:World}{P:World->Prop}{d me D:Nat}{W J:Wl}{k:Int}{st:Bool}{s:SD}(hX:∀ b,X b->b<w.heap.size)(E:Below w.heap.size w U)(I:SW ⟨U,P⟩ d me J s F)(hE:zbK W k st=0)(T:zaX W k st=J)(M:w.heap.size<=D)(O:D<U.heap.size){V' : World}{n nt:Nat}(hn:J.fs.length=n)(Z:J.pt.length=nt)(u0 u1 u2 u3 u4:Value)
  (hV:V' =((((F.setCell ⟨D,0,none⟩ u0).setCell ⟨D,1,none⟩ u1).setCell ⟨D,2,none⟩ u2).setCell ⟨D,3,none⟩ u3).setCell ⟨D,4,none⟩ u4) :
  znD X w W k st (.returned (.tuple #[.agg #[.slice s.a0 n s.c0,.slice (some ⟨s.g1,0,none⟩) n n,.slice (some ⟨s.g2,0,none⟩) n n,.slice (some ⟨s.g3,0,none⟩) n n,.slice s.a4 nt s.c4],.int .i64 0])) V' := by
 subst hV;subst hn;subst Z;have b8:Below w.heap.size w F:=E.trans (I.bel.mono E.size);refine⟨s.wa J.fs.length,?_,((((b8.setCell M _).setCell M _).setCell M _).setCell M _).setCell M _,by rw[T];exact I.wlC,?_,fun _=>?_⟩
 ·rw[T,hE];dsimp only[wlV,SD.wa];rw[I.rt.lr,I.rt.lp,I.rt.lq]
 ·rw[T];exact((I.wlX.less (fun b E=>.inl E)).off (zjD O F u0 u1 u2 u3 u4)).less (fun b h=>yx (hX b h) E.size)
 ·rw[T];exact I.wlP.grow (zjD O F u0 u1 u2 u3 u4) (fun b _ h=>yx h E.size)
theorem zlW(X:Nat->Prop)(A:WA)(W:Wl)(k:Int)(st:Bool)(w:World)(hX:∀ b,X b->b<w.heap.size)(hB:zrG W)(hC:WlC A W)(hW:zgc X w A W):yL 13 #[wlV A W,.agg #[.int .i64 k,.bool st]] w (znD X w W k st):=by
 obtain⟨a0,a1,a2,a3,a4,c0,c1,c2,c3,c4⟩:=A;have b0:Hid (zgb w ⟨a0,a1,a2,a3,a4,c0,c1,c2,c3,c4⟩ W):=hW.at;have D0:Hid (∀ V,Below w.heap.size w V->Calls _ _ _ _ _):=fun V hV=>zhV ⟨a0,a1,a2,a3,a4,c0,c1,c2,c3,c4⟩ W V hB hC (b0.out.below hV);have D1:Hid (zan W->∀ V,Below w.heap.size w V->Calls _ _ _ _ _):=fun H V hV=>zln ⟨a0,a1,a2,a3,a4,c0,c1,c2,c3,c4⟩ W k st V H (b0.out.below hV);have D2:Hid (zan W->∀ V,Below w.heap.size w V->Calls _ _ _ _ _):=fun H V hV=>zgL ⟨a0,a1,a2,a3,a4,c0,c1,c2,c3,c4⟩ W V H (b0.out.below hV);have PE:Hid (zby W=0->_):=fun h=>ztZ (W:=W) (k:=k) (st:=st) h;have PN:Hid (zby W≠0->zbK W k st=zby W):=fun h=>ya h;have e5:Hid _:=hX;clear hX hW hB hC;dsimp only[wlV] at D0 D1 D2 |-;generalize zao [zax W.fs k,if bits .and .i64 (ziu W k.toNat) 1=0 then 7 else 0,if 4760<(rlm W k.toNat).t.length then 1 else 0,if st=false/\(que W k.toNat).length=0 then 8 else 0]=E1 at *;obtain⟨E0,F⟩:∃ E,zby W=E:=⟨_,rfl⟩;have d7:Hid (zby W=E0):=F;rw[F] at D0 PE PN;clear F;obtain⟨D,J⟩:∃ n,W.fs.length=n:=⟨_,rfl⟩;obtain⟨n1,b4⟩:∃ n,W.rs.length=n:=⟨_,rfl⟩;obtain⟨n2,b5⟩:∃ n,W.ps.length=n:=⟨_,rfl⟩;obtain⟨n3,b6⟩:∃ n,W.qs.length=n:=⟨_,rfl⟩;obtain⟨n4,b7⟩:∃ n,W.pt.length=n:=⟨_,rfl⟩;have a5:Hid (W.fs.length=D):=J;have g4:Hid (W.pt.length=n4):=b7;have c6:Hid (zan W->D=n1/\D=n2/\D=n3):=fun H=>⟨by rw[<- b4,H.lr,J],by rw[<- b5,H.lp,J],by rw[<- b6,H.lq,J]⟩;rw[J,b4,b5,b6,b7] at D0 D1 D2 |-;clear J b4 b5 b6 b7
 go_enter Tryz.func13,Tryz.ntmps13
 go_wp2_with fail
 obtain⟨V1,I⟩:∃ V1,((w.alloc (.cells #[.slice a0 D c0,.slice a1 n1 c1,.slice a2 n2 c2,.slice a3 n3 c3,.slice a4 n4 c4] 28)).alloc (.cells #[.int .i64 k,.bool st] 40)).alloc (.cells #[.slice none 0 0,.slice none 0 0,.slice none 0 0,.slice none 0 0,.slice none 0 0] 28)=V1:=⟨_,rfl⟩;have BV:Hid (Below w.heap.size w V1):=by rw[<- I];exact((zaa _ _).trans ((zaa _ _).mono (by simp))).trans ((zaa _ _).mono (by simp;omega))
 have X1:Hid (V1.heap[w.heap.size]?=some (.cells #[.slice a0 D c0,.slice a1 n1 c1,.slice a2 n2 c2,.slice a3 n3 c3,.slice a4 n4 c4] 28 (0,0))):=by
  rw[<- I];exact zav (zav (yK w _) (zaa _ _)) (zaa _ _)
 have X2:Hid (V1.heap[w.heap.size+1]?=some (.cells #[.int .i64 k,.bool st] 40 (0,0))):=by
  rw[<- I];have h:=zav (yK (w.alloc (.cells #[.slice a0 D c0,.slice a1 n1 c1,.slice a2 n2 c2,.slice a3 n3 c3,.slice a4 n4 c4] 28)) (.cells #[.int .i64 k,.bool st] 40)) (zaa _ (.cells #[.slice none 0 0,.slice none 0 0,.slice none 0 0,.slice none 0 0,.slice none 0 0] 28));rw[yr] at h;exact h
 have X3:Hid (V1.heap[w.heap.size+2]?=some (.cells #[.slice none 0 0,.slice none 0 0,.slice none 0 0,.slice none 0 0,.slice none 0 0] 28 (0,0))):=by
  rw[<- I];have h:=yK ((w.alloc (.cells #[.slice a0 D c0,.slice a1 n1 c1,.slice a2 n2 c2,.slice a3 n3 c3,.slice a4 n4 c4] 28)).alloc (.cells #[.int .i64 k,.bool st] 40)) (.cells #[.slice none 0 0,.slice none 0 0,.slice none 0 0,.slice none 0 0,.slice none 0 0] 28);rw[yr,yr] at h;exact h
 rw[I];clear I;refine ye (D0.out V1 BV.out) ?_;rintro e V2 ⟨rfl,hb⟩;have B2:Hid (Below V1.heap.size V1 V2):=hb;have Z:Hid (Below w.heap.size w V2):=BV.out.trans (hb.mono BV.out.size);clear hb D0;have Y1:Hid _:=zav X1.out B2.out;have Y2:Hid _:=zav X2.out B2.out;have Y3:Hid _:=zav X3.out B2.out;clear X1 X2 X3;obtain⟨q0,q1,q2,q3,q4,qf,ql⟩:=zaj Y1.out;obtain⟨z0,z1,z2,z3,z4,zf,zl⟩:=zaj Y3.out;obtain⟨p0,p1,pl⟩:=zbg Y2.out;by_cases F:E0=0
 ·subst F;have HR:Hid (zan W):=zcM.1 d7.out;have PK:Hid (zbK W k st=E1):=PE.out rfl;have b9:Hid _:=D1.out HR.out V2 Z.out;clear PE PN D1
  go_wp2_with fail
  refine ye b9.out ?_;rintro e M ⟨rfl,hb⟩;have B3:Hid (Below V2.heap.size V2 M):=hb;have a7:Hid (Below w.heap.size w M):=Z.out.trans (hb.mono Z.out.size);clear hb b9 q0 q1 q2 q3 q4 qf ql z0 z1 z2 z3 z4 zf zl p0 p1 pl;have e6:Hid _:=zav Y1.out B3.out;have O:Hid _:=zav Y2.out B3.out;have a6:Hid _:=zav Y3.out B3.out;clear Y1 Y2 Y3;obtain⟨q0,q1,q2,q3,q4,qf,ql⟩:=zaj e6.out;obtain⟨z0,z1,z2,z3,z4,zf,zl⟩:=zaj a6.out;obtain⟨p0,p1,pl⟩:=zbg O.out;by_cases a9:E1=0
  ·subst a9;obtain⟨_,me,hk,b2,_,_,c9,hq⟩:=zdn PK.out;subst hk;have a8:Hid (me<W.fs.length):=b2;have d8:Hid _:=c9;have HQ:Hid _:=hq;have e8:me<D:=(by rw[<- a5.out];exact b2);have g8:D<=8:=(by rw[<- a5.out];exact HR.out.fs.few);obtain⟨e1,e2,e3⟩:=c6.out HR.out;subst e1;subst e2;subst e3;have D3:Hid _:=D2.out HR.out M a7.out;clear b2 c9 hq c6 D2
   go_wp2_with fail
   refine ye D3.out ?_;rintro e V4 ⟨s,rfl,b1,d5,_,d6⟩;have e4:Hid _:=d5;have I5:Hid _:=d6 me e8;have B4:Hid (Below M.heap.size M V4):=b1;have s4:=b1.size;clear d5 d6 b1 D3 q0 q1 q2 q3 q4 qf ql z0 z1 z2 z3 z4 zf zl p0 p1 pl;dsimp only[wlV,SD.wa]
   go_upto_region 8 with fail
   obtain⟨d,hd⟩:∃ d,V4.heap.size=d:=⟨_,rfl⟩;obtain⟨V5,T⟩:∃ V5,V4.alloc (.cells #[.slice s.a0 D s.c0,.slice (some ⟨s.g1,0,none⟩) D D,.slice (some ⟨s.g2,0,none⟩) D D,.slice (some ⟨s.g3,0,none⟩) D D,.slice s.a4 n4 s.c4] 28)=V5:=⟨_,rfl⟩;have B5:Hid (Below M.heap.size M V5):=(by rw[<- T];exact B4.out.trans ((zaa _ _).mono B4.out.size));rw[hd,T] at I5;have g5:d<V5.heap.size:=(by rw[<- T,<- hd];simp);have g6:M.heap.size<=d:=(by omega);rw[T];rw[hd];clear T hd;have Z2:Hid _:=zav O.out B5.out;obtain⟨l0,l1,l2,l3,l4,lf,ll⟩:=zaj I5.out.box;rw[a5.out] at l1;obtain⟨p0,p1,pl⟩:=zbg Z2.out;have e9:(me:Int)<(D:Int):=(by omega);obtain⟨j0,j1,j2,j3,jf,jl⟩:=I5.out.rcells a8.out;obtain⟨gl,c8⟩:∃ g,(if st then [] else ((que W me).getD 0 ⟨0,[]⟩).g).length=g:=⟨_,rfl⟩;have DT:Hid (∀ V,Below V5.heap.size V5 V->Calls _ _ _ _ _):=fun V hV=>take2 me W st _ d s V (I5.out.below hV) (e4.out me) HQ.out a5.out c8;have g7:M.heap.size<=s.g1:=I5.out.ap.g1;have d4:w.heap.size+1<M.heap.size:=zau O.out;have ng:¬ w.heap.size+1=s.g1:=(by omega);have h6:¬ s.g1=w.heap.size+1:=(by omega);have nd:¬ d=s.g1:=I5.out.ap.d1;have g9:¬ s.g1=d:=fun e=>nd e.symm;clear l0 l2 l3 l4 j0 j1 j2 j3 lf ll jf c8
   go_region_held3 (fun b8=>b8.cell? ⟨d,1,none⟩=some (.slice (some ⟨s.g1,0,none⟩) D D)/\b8.cell? ⟨w.heap.size+1,0,none⟩=some (.int .i64 (me:Int))/\b8.cell? ⟨w.heap.size+1,1,none⟩=some (.bool st)) (go_keep) (first|(go_at_call 40;refine ye (DT.out V5.drew (yk _ _).drew) ?_;rintro e V6 ⟨ga,gc,s7,v6,rfl,B6,k1,k2,kf,kl,kd,I7⟩;have Z6:Hid (V6.heap[w.heap.size+1]?=some (.cells #[.int .i64 (me:Int),.bool st] 40 (0,0))):=(B6.out.block _ d4).trans O.out;obtain⟨t0,t1,tl⟩:=zbg Z6.out))
   clear k1 k2 kf kl kd p0 p1 pl l1 jl DT I5 Z6 Z2 t0 t1 tl;obtain⟨V7,c7⟩:∃ V7,V6.setCell ⟨s.g1,me*4+2,none⟩ (.slice ga gl gc)=V7:=⟨_,rfl⟩;rw[c7] at I7 |-;clear c7;have Z7:Hid (V7.heap[w.heap.size+1]?=some (.cells #[.int .i64 (me:Int),.bool st] 40 (0,0))):=(I7.out.bel.block _ d4).trans O.out;obtain⟨t0,t1,tl⟩:=zbg Z7.out
   have DR:Hid _:=zyD me (zbb W me st) _ d s7 V7 I7.out (by
    rw[zdi (by rw[HR.out.lr];exact a8.out)];have h1:prg (zbb W me st) me=prg W me:=(by unfold prg;rw[ziM]);rw[h1];have h2:=HR.out.ps me a8.out;have h3:=d8.out;show (rlm W me).t.length + _<=_
    omega)
   have PW:Hid (zaX W me st=(prg (zbb W me st) me).foldl (doW me) (zbb W me st)):=by
    have h1:prg (zbb W me st) me=prg W me:=(by unfold prg;rw[ziM]);show _=_;unfold zaX;rw[yb PK.out,yi,h1]
   go_wp2_with fail
   refine ye DR.out ?_;rintro e V8 ⟨rfl,s8,U⟩;rw[<- PW.out] at U;have I8:Hid _:=U;have Z8:Hid (V8.heap[w.heap.size+2]?=some (.cells #[.slice none 0 0,.slice none 0 0,.slice none 0 0,.slice none 0 0,.slice none 0 0] 28 (0,0))):=(U.bel.block _ (zau a6.out)).trans a6.out;obtain⟨z0,z1,z2,z3,z4,zf,zl⟩:=zaj Z8.out;obtain⟨l0,l1,l2,l3,l4,lf,ll⟩:=zaj U.box;have e7:w.heap.size+2<M.heap.size:=zau a6.out;have h4:¬ d=w.heap.size+2:=(by omega);have g0:¬ w.heap.size+2=d:=(by omega);clear U DR I7 t0 t1 tl;obtain⟨m,hm⟩:∃ m,(zaX W me st).fs.length=m:=⟨_,rfl⟩;obtain⟨mt,b3⟩:∃ m,(zaX W me st).pt.length=m:=⟨_,rfl⟩;have d9:Hid (_=m):=hm;have e0:Hid (_=mt):=b3;rw[hm] at l0 l1 l2 l3;rw[b3] at l4;clear hm b3 PW
   go_wp2
   exact yv (v:=.tuple #[.agg #[.slice s8.a0 m s8.c0,.slice (some ⟨s8.g1,0,none⟩) m m,.slice (some ⟨s8.g2,0,none⟩) m m,.slice (some ⟨s8.g3,0,none⟩) m m,.slice s8.a4 mt s8.c4],.int .i64 0]) (by simp[results,Tryz.results13,go_sem,z0,z1,z2,z3,z4]) rfl (step_end e5.out a7.out I8.out PK.out rfl (by omega) e7 d9.out e0.out _ _ _ _ _ rfl)
  ·have hz:(E1 == 0)=false:=by simp[a9]
   go_wp2
   exact yv (v:=.tuple #[.agg #[.slice none 0 0,.slice none 0 0,.slice none 0 0,.slice none 0 0,.slice none 0 0],.int .i64 E1]) (by simp[results,Tryz.results13,go_sem,z0,z1,z2,z3,z4]) rfl (znD.no PK.out a9 (((((a7.out.setCell (by show w.heap.size<=w.heap.size+2;omega) _).setCell (by show w.heap.size<=w.heap.size+2;omega) _).setCell (by show w.heap.size<=w.heap.size+2;omega) _).setCell (by show w.heap.size<=w.heap.size+2;omega) _).setCell (by show w.heap.size<=w.heap.size+2;omega) _))
 ·have hz:(E0 == 0)=false:=by simp[F]
  have PK:Hid (zbK W k st=E0):=PN.out F;clear PE PN D1 D2
  go_wp2
  exact yv (v:=.tuple #[.agg #[.slice none 0 0,.slice none 0 0,.slice none 0 0,.slice none 0 0,.slice none 0 0],.int .i64 E0]) (by simp[results,Tryz.results13,go_sem,z0,z1,z2,z3,z4]) rfl (znD.no PK.out F (((((Z.out.setCell (by show w.heap.size<=w.heap.size+2;omega) _).setCell (by show w.heap.size<=w.heap.size+2;omega) _).setCell (by show w.heap.size<=w.heap.size+2;omega) _).setCell (by show w.heap.size<=w.heap.size+2;omega) _).setCell (by show w.heap.size<=w.heap.size+2;omega) _))
theorem zyo:(Tryz.prog.info? 30).map (fun i=>(i.zero,i.size,i.bytes))=some (some (.int .i64 0),1,8):=by kernel_rfl
theorem zwo(n:Nat)(hn:n<=1000)(w:World):(Instr.makeSlice 72 (.int .i64 (n:Int)) (.int .i64 (n:Int))).run Tryz.prog w=.ok (.slice (some ⟨w.heap.size,0,none⟩) n n) (w.alloc (.cells (madeCells #[.int .i64 0] n) 30)) :=
 run_make_row' (P:=Tryz.prog) 72 30 (.int .i64 0) 8 Tryz.underlying72 zyo rfl .i64 .i64 n (by omega) (by omega) w
def znC(X:Nat->Prop)(w:World)(W:Wl)(L:List (Int × Bool))(e:Ending)(w' : World):Prop:=∃ (B:WA) (sa:Option Addr) (sc:Nat),e=.returned (.tuple #[wlV B (zgy W L),.slice sa (zni W L).length sc,.int .i64 (zhd W L)])/\Below w.heap.size w w' /\ WlC B (zgy W L)/\zgc X w' B (zgy W L)/\St X (fun w=>zal w sa (zni W L)) w'
theorem znC.no{X:Nat->Prop}{w w' : World}{W:Wl}{L:List (Int × Bool)}{E:Int}(h:zhd W L=E)(F:E≠0)(I:Below w.heap.size w w'):znC X w W L (.returned (.tuple #[.agg #[.slice none 0 0,.slice none 0 0,.slice none 0 0,.slice none 0 0,.slice none 0 0],.slice none 0 0,.int .i64 E])) w' := by
 subst h;have e:zgy W L=zjQ:=ya F;have D:zni W L=[]:=ya F;refine⟨⟨none,none,none,none,none,0,0,0,0,0⟩,none,0,?_,I,?_,?_,?_⟩
 ·rw[e,D];rfl
 ·rw[e];exact⟨zcL,zcL,zcL,zcL,zcL⟩
 ·rw[e];exact fun w' _=>zoS w' _
 ·rw[D];exact fun _ _ _ h=>absurd h (yw _)
theorem zut:∀ (L:List (Int × Bool)) (W:Wl) (k:Nat),k<L.length->(zrq W L).getD k 0=zbK ((L.take k).foldl zjz W) (pk L k).1 (pk L k).2
 | [],_,_,h=>absurd h (yw _)
 | p :: l,W,0,_=>rfl
 | p :: l,W,k+1,h=>by
  have h1:=zut l (zjz W p) k (by simpa using h);show (zrq (zjz W p) l).getD k 0=_;rw[h1];rfl
theorem zuu{W:Wl}{L:List (Int × Bool)}{k:Nat}(h:k<L.length):(L.take (k+1)).foldl zjz W=zjz ((L.take k).foldl zjz W) (pk L k):=by
 rw[List.take_succ_eq_append_getElem h,List.foldl_append];show zjz _ _=_;unfold pk;rw[zae _ _ h]
theorem ztI{W:Wl}(H:zan W)(h:W.fs.length=0):W=zjQ:=by
 have F:W.pt.length=0:=by
  rcases Nat.eq_zero_or_pos W.pt.length with h1|h1
  ·exact h1
  ·have D:=H.pt.ok 0 h1;unfold zdA at D;rw[yb (.inl (fun E=>by have:=E.1;have:=E.2;rw[h] at this;omega))] at D;omega
 obtain⟨fs,rs,ps,qs,pt⟩:=W;have h1:=H.lr;have D:=H.lp;have E:=H.lq;dsimp only at h h1 D E F;rw[h] at h1 D E;obtain rfl:=List.eq_nil_of_length_eq_zero h;obtain rfl:=List.eq_nil_of_length_eq_zero h1;obtain rfl:=List.eq_nil_of_length_eq_zero D;obtain rfl:=List.eq_nil_of_length_eq_zero E;obtain rfl:=List.eq_nil_of_length_eq_zero F;rfl
structure RI (V2:World) (d8 sb N:Nat) (Wk:Wl) (S:List Int) (k:Nat) (A:WA) (wr:World):Prop where
 bel:Below V2.heap.size V2 wr
 box:wr.heap[d8]?=some (.cells #[.slice A.a0 Wk.fs.length A.c0,.slice A.a1 Wk.rs.length A.c1,.slice A.a2 Wk.ps.length A.c2,.slice A.a3 Wk.qs.length A.c3,.slice A.a4 Wk.pt.length A.c4] 28 (0,0))
 wl:zgc (fun b=>b<V2.heap.size\/b=d8\/b=sb) wr A Wk
 wc:WlC A Wk
 row:wr.rowIs sb 30 N (fun j=>if j<k then .int .i64 (S.getD j 0) else .int .i64 0)
theorem RI.lt{D:World}{E F N:Nat}{I:Wl}{S:List Int}{k:Nat}{A:WA}{wr:World}(h:RI D E F N I S k A wr):∀ b,(b<D.heap.size\/b=E\/b=F)->b<wr.heap.size:=fun b J=>by
 rcases J with h1|h1|h1
 ·exact yx h1 h.bel.size
 ·rw[h1];exact zau h.box
 ·rw[h1];exact h.row.lt
theorem RI.next{D:World}{F O N:Nat}{Wk I:Wl}{S:List Int}{k:Nat}{A B:WA}{wr J M:World}(h:RI D F O N Wk S k A wr)(h8:D.heap.size<=F)(hs:D.heap.size<=O)(Z:F≠O)(T:Below wr.heap.size wr J)(b0:zgc (fun b=>b<D.heap.size\/b=F\/b=O) J B I)(a9:WlC B I)(U:M.heap[F]?=some (.cells #[.slice B.a0 I.fs.length B.c0,.slice B.a1 I.rs.length B.c1,.slice B.a2 I.ps.length B.c2,.slice B.a3 I.qs.length B.c3,.slice B.a4 I.pt.length B.c4] 28 (0,0)))(ho:zar (fun b=>b=F) J M)(a6:M.os=J.os)(a8:M.tape=J.tape)(a7:M.output=J.output)(E:Int)(hE:S.getD k 0=E) :
  RI D F O N I S (k+1) B (M.setCell ⟨O,k,none⟩ (.int .i64 E)):=by
 have b1:Below D.heap.size D J:=h.bel.trans (T.mono h.bel.size);have b2:Below D.heap.size D M:=b1.trans ⟨a6,a8,a7,ho.size,fun b a5=>ho.block b (yx a5 b1.size) (by show ¬ b=F;omega)⟩;have o1:zar (fun b=>b<D.heap.size\/b=F\/b=O) J M:=ho.mono (fun b T=>.inr (.inl T));refine⟨b2.setCell hs _,(ys _ _ _ _ Z).trans U,(b0.off o1).off (zar.set _ _ (.inr (.inr rfl))),a9,?_⟩;have r1:=(h.row.of_block (T.block _ h.row.lt)).of_block (ho.block _ (yx h.row.lt T.size) (Ne.symm Z));refine yD (r1.set k (.int .i64 E)) (fun j _=>?_);by_cases e:j=k
 ·rw[yb e,yb (by omega),e,hE]
 ·rw[ya e];by_cases e2:j<k
  ·rw[yb e2,yb (by omega)]
  ·rw[ya e2,ya (by omega)]
theorem RI.done{X:Nat->Prop}{w I wr:World}{d8 M N E:Nat}{W D:Wl}{L:List (Int × Bool)}{A:WA}(h:RI I d8 M N D (zrq W L) N A wr)(hX:∀ b,X b->b<w.heap.size)(F:Below w.heap.size w I)(hs:I.heap.size<=M)(J:w.heap.size<=E)(U:E<I.heap.size)(hN:L.length=N)(Z:zhd W L=0)(hW:L.foldl zjz W=D){V' : World}{u0 u1 u2 u3 u4:Value}
  (hV:V' =((((wr.setCell ⟨E,0,none⟩ u0).setCell ⟨E,1,none⟩ u1).setCell ⟨E,2,none⟩ u2).setCell ⟨E,3,none⟩ u3).setCell ⟨E,4,none⟩ u4) :
  znC X w W L (.returned (.tuple #[.agg #[.slice A.a0 D.fs.length A.c0,.slice A.a1 D.rs.length A.c1,.slice A.a2 D.ps.length A.c2,.slice A.a3 D.qs.length A.c3,.slice A.a4 D.pt.length A.c4],.slice (some ⟨M,0,none⟩) N N,.int .i64 0])) V' := by
 subst hV;have O:zgy W L=D:=(yb Z).trans hW;have e2:zni W L=zrq W L:=yb Z;have T:(zrq W L).length=N:=by rw[zpI,hN]
 have b8:Below w.heap.size w wr:=F.trans (h.bel.mono F.size);have o5:=zjD U wr u0 u1 u2 u3 u4;refine⟨A,some ⟨M,0,none⟩,N,?_,((((b8.setCell J _).setCell J _).setCell J _).setCell J _).setCell J _,by rw[O];exact h.wc,?_,?_⟩
 ·rw[O,e2,Z,T]
 ·rw[O];exact((h.wl.less (fun b F=>.inl F)).off o5).less (fun b hx=>yx (hX b hx) F.size)
 ·rw[e2];intro a5 ho;have r1:=(h.row.of_block (o5.block _ h.row.lt (by show ¬ M<I.heap.size;omega))).of_block (ho.block _ (yx h.row.lt o5.size) (fun hx=>by have:=hX _ hx;have:=F.size;omega));refine zgX (t:=30) (yD (by rw[T];exact r1) (fun j hj=>?_));rw[T] at hj;rw[yb hj]
theorem zwL(X:Nat->Prop)(A:WA)(W:Wl)(la:Option Addr)(lc:Nat)(L:List (Int × Bool))(w:World)(hX:∀ b,X b->b<w.heap.size)(hB:zrG W)(hC:WlC A W)(hW:zgc X w A W)(hL:L.length<=9223372036854775807)(i9:SlA la L.length lc)(hP:zrM w la L):yL 20 #[wlV A W,.slice la L.length lc] w (znC X w W L):=by
 obtain⟨a0,a1,a2,a3,a4,c0,c1,c2,c3,c4⟩:=A;have e7:Hid (zgb w ⟨a0,a1,a2,a3,a4,c0,c1,c2,c3,c4⟩ W):=hW.at;have D0:Hid (∀ V,Below w.heap.size w V->Calls _ _ _ _ _):=fun V hV=>zhV ⟨a0,a1,a2,a3,a4,c0,c1,c2,c3,c4⟩ W V hB hC (e7.out.below hV);have D2:Hid (zan W->∀ V,Below w.heap.size w V->Calls _ _ _ _ _):=fun H V hV=>zgL ⟨a0,a1,a2,a3,a4,c0,c1,c2,c3,c4⟩ W V H (e7.out.below hV);have h7:Hid _:=hX;have HP:Hid (zrM w la L):=hP;clear hX hW hB hC hP i9;dsimp only[wlV] at D0 D2 |-;obtain⟨E0,Z⟩:∃ E,zby W=E:=⟨_,rfl⟩;have b9:Hid (zby W=E0):=Z;rw[Z] at D0;clear Z;obtain⟨N,hN⟩:∃ N,L.length=N:=⟨_,rfl⟩;have HN:Hid (L.length=N):=hN;rw[hN] at hL |-;have i8:=hN;clear hN;obtain⟨J,b1⟩:∃ n,W.fs.length=n:=⟨_,rfl⟩;obtain⟨n1,c8⟩:∃ n,W.rs.length=n:=⟨_,rfl⟩;obtain⟨n2,c9⟩:∃ n,W.ps.length=n:=⟨_,rfl⟩;obtain⟨n3,d4⟩:∃ n,W.qs.length=n:=⟨_,rfl⟩;obtain⟨n4,d9⟩:∃ n,W.pt.length=n:=⟨_,rfl⟩;have d5:Hid (W.fs.length=J):=b1;have g7:Hid (W.rs.length=n1):=c8;have g8:Hid (W.ps.length=n2):=c9;have g9:Hid (W.qs.length=n3):=d4;have h6:Hid (W.pt.length=n4):=d9;have c6:Hid (zan W->J=n1/\J=n2/\J=n3):=fun H=>⟨by rw[<- c8,H.lr,b1],by rw[<- c9,H.lp,b1],by rw[<- d4,H.lq,b1]⟩;rw[b1,c8,c9,d4,d9] at D0 D2 |-;clear b1 c8 c9 d4 d9 i8
 go_enter Tryz.func20,Tryz.ntmps20
 go_wp2_with fail
 obtain⟨V1,b2⟩:∃ V1,(w.alloc (.cells #[.slice a0 J c0,.slice a1 n1 c1,.slice a2 n2 c2,.slice a3 n3 c3,.slice a4 n4 c4] 28)).alloc (.cells #[.slice none 0 0,.slice none 0 0,.slice none 0 0,.slice none 0 0,.slice none 0 0] 28)=V1:=⟨_,rfl⟩;have BV:Hid (Below w.heap.size w V1):=by rw[<- b2];exact zam _ _ _
 have X1:Hid (V1.heap[w.heap.size]?=some (.cells #[.slice a0 J c0,.slice a1 n1 c1,.slice a2 n2 c2,.slice a3 n3 c3,.slice a4 n4 c4] 28 (0,0))):=by
  rw[<- b2];exact zav (yK w _) (zaa _ _)
 have X3:Hid (V1.heap[w.heap.size+1]?=some (.cells #[.slice none 0 0,.slice none 0 0,.slice none 0 0,.slice none 0 0,.slice none 0 0] 28 (0,0))):=by
  rw[<- b2];have h:=yK (w.alloc (.cells #[.slice a0 J c0,.slice a1 n1 c1,.slice a2 n2 c2,.slice a3 n3 c3,.slice a4 n4 c4] 28)) (.cells #[.slice none 0 0,.slice none 0 0,.slice none 0 0,.slice none 0 0,.slice none 0 0] 28);rw[yr] at h;exact h
 rw[b2];clear b2;refine ye (D0.out V1 BV.out) ?_;rintro e T ⟨rfl,hb⟩;have B2:Hid (Below V1.heap.size V1 T):=hb;have a8:Hid (Below w.heap.size w T):=BV.out.trans (hb.mono BV.out.size);clear hb D0;have Y1:Hid _:=zav X1.out B2.out;have Y3:Hid _:=zav X3.out B2.out;clear X1 X3;obtain⟨q0,q1,q2,q3,q4,qf,ql⟩:=zaj Y1.out;obtain⟨z0,z1,z2,z3,z4,zf,zl⟩:=zaj Y3.out;by_cases Z:E0=0
 ·subst Z;have HR:Hid (zan W):=zcM.1 b9.out;by_cases j2:N<=120
  ·have e0:¬ ((120:Int)<(N:Int)):=(by omega);have RE:Hid (zhd W L=0):=(by show _=_;unfold zhd;rw[yb b9.out,ya (by rw[HN.out];omega)]);obtain⟨e1,e2,e3⟩:=c6.out HR.out;subst e1;subst e2;subst e3;have D3:Hid _:=D2.out HR.out T a8.out;clear c6 D2
   go_wp2_with fail
   refine ye D3.out ?_;rintro e V3 ⟨s,rfl,d6,_,g5,g4⟩;have e5:Hid _:=g4;have e6:Hid _:=g5;have B3:Hid (Below T.heap.size T V3):=d6;have s3:=d6.size;clear g4 g5 d6 D3 q0 q1 q2 q3 q4 qf ql z0 z1 z2 z3 z4 zf zl;dsimp only[wlV,SD.wa];have j0:=zwo N (by omega)
   go_wp2_with fail
   obtain⟨D,hd⟩:∃ d,V3.heap.size=d:=⟨_,rfl⟩;obtain⟨V4,a9⟩:∃ V4,V3.alloc (.cells #[.slice s.a0 J s.c0,.slice (some ⟨s.g1,0,none⟩) J J,.slice (some ⟨s.g2,0,none⟩) J J,.slice (some ⟨s.g3,0,none⟩) J J,.slice s.a4 n4 s.c4] 28)=V4:=⟨_,rfl⟩;have j1:V4.heap.size=D+1:=(by rw[<- a9,<- hd];simp);have X4:Hid (V4.heap[D]?=some (.cells #[.slice s.a0 J s.c0,.slice (some ⟨s.g1,0,none⟩) J J,.slice (some ⟨s.g2,0,none⟩) J J,.slice (some ⟨s.g3,0,none⟩) J J,.slice s.a4 n4 s.c4] 28 (0,0))):=(by rw[<- a9,<- hd];exact yK _ _);have B4:Hid (Below T.heap.size T V4):=by rw[<- a9];exact B3.out.trans ((zaa _ _).mono B3.out.size)
   have W4:Hid (zgc (fun b=>b<T.heap.size\/b=D) V4 (s.wa J) W):=by
    by_cases h0:W.fs.length=0
    ·intro V' _;rw[ztI HR.out h0];exact zoS V' _
    ·have h:=(e5.out 0 (by have:=d5.out;omega)).wlX;rw[d5.out,a9,hd] at h;exact h
   have e9:T.heap.size<=D:=(by omega);clear e5;obtain⟨V5,c7⟩:∃ V5,V4.alloc (.cells (madeCells #[.int .i64 0] N) 30)=V5:=⟨_,rfl⟩
   have R0:Hid (RI T D (D+1) N W (zrq W L) 0 (s.wa J) V5):=by
    have b5:=zaa V4 (.cells (madeCells #[.int .i64 0] N) 30);rw[c7] at b5;refine⟨B4.out.trans (b5.mono B4.out.size),?_,?_,e6.out,?_⟩
    ·dsimp only[SD.wa];rw[d5.out,g7.out,g8.out,g9.out,h6.out];exact zav X4.out b5
    ·exact W4.out.grow (zar.of_below b5) (fun b hb hy=>by rcases hy with h|h|h;exact .inl h;exact .inr h;omega)
    ·rw[<- c7,<- j1];have h:=World.rowIs_alloc V4 (madeCells #[.int .i64 0] N) 30 (fun j=>(madeCells #[.int .i64 0] N)[j]!) (fun j hj=>by simp[hj]);rw[size_madeCells] at h;refine yD h (fun j hj=>?_);rw[ya (yw _)];have e2:(madeCells #[Value.int .i64 0] N)[j]! =(#[Value.int .i64 0]:Array Value)[j % 1]!:=(by simp[madeCells,hj]);rw[e2,Nat.mod_one];rfl
   rw[a9,c7,hd];clear a9 c7 hd j0;clear W4 X4 e6 B4
   go_loopg [30] N (fun g s30 wr=>∃ (k:Nat) (A:WA),k<=N/\N-k<=g/\s30=.int .i64 k/\Hid (RI T D (D+1) N ((L.take k).foldl zjz W) (zrq W L) k A wr))
   case atStart=>exact⟨0,_,by omega,by omega,rfl,R0.out⟩
   case round =>
    obtain⟨k,A,hk,hg,rfl,F⟩:=hrel;clear R0;by_cases g0:k<N
    ·have j3:(k:Int)<(N:Int):=(by omega);have d7:k<L.length:=(by rw[HN.out];exact g0);obtain⟨lb,lo,h9,x0,x1⟩:=HP.out k d7;subst h9;have e4:Hid (Below w.heap.size w wr):=a8.out.trans (F.out.bel.mono a8.out.size);replace x0:=zab x0 e4.out;replace x1:=zab x1 e4.out;have j9:lb<wr.heap.size:=yd _ _ x0;have SE:Hid _:=zut L W k d7;have NX:Hid _:=zuu (W:=W) d7;have RR:Hid _:=(zkW (L.take k) HR.out).1;obtain⟨a5,b6⟩:∃ p,(pk L k).1=p:=⟨_,rfl⟩;obtain⟨a6,b7⟩:∃ p,(pk L k).2=p:=⟨_,rfl⟩;have h8:Hid (pk L k=(a5,a6)):=(by rw[<- b6,<- b7];rfl);rw[b6] at x0 SE;rw[b7] at x1 SE;rw[h8.out] at NX;obtain⟨I,b3⟩:∃ I,(L.take k).foldl zjz W=I:=⟨_,rfl⟩;rw[b3] at F SE NX RR;clear b3 b6 b7;have U:Hid (zjz I (a5,a6)=if zbK I a5 a6=0 then zaX I a5 a6 else I):=rfl;have DS:Hid (∀ (Y:Nat->Prop) V,(∀ b,Y b->b<V.heap.size)->zgc Y V A I->Calls _ _ _ _ _):=fun Y V hY hV=>zlW Y A I a5 a6 V hY (zcK RR.out) F.out.wc hV;obtain⟨q0,q1,q2,q3,q4,qf,ql⟩:=zaj F.out.box;obtain⟨M,e8⟩:∃ M,zaX I a5 a6=M:=⟨_,rfl⟩;unfold znD at DS;dsimp only[wlV] at DS;rw[e8] at U DS;clear e8;obtain⟨E,hE⟩:∃ E,zbK I a5 a6=E:=⟨_,rfl⟩;rw[hE] at U DS SE;clear hE
     skip
     have n8:¬ wr.heap.size=D:=(by omega);have k0:¬ D=wr.heap.size:=(by omega);have k2:¬ lb=wr.heap.size:=(by omega);have j6:¬ wr.heap.size=lb:=by omega
     go_upto_region 11 with fail
     go_cut [11,12,30] from 30 to 49 (fun s11 s12 s30 wx=>∃ (b:Nat) (B:WA),s11=.pointer (some ⟨b,0,none⟩)/\s12=.int .i64 E/\s30=.int .i64 (k:Int)/\Hid (Below wr.heap.size wr wx)/\Hid (wx.heap[b]?=some (.cells #[.slice B.a0 M.fs.length B.c0,.slice B.a1 M.rs.length B.c1,.slice B.a2 M.ps.length B.c2,.slice B.a3 M.qs.length B.c3,.slice B.a4 M.pt.length B.c4] 28 (0,0)))/\wr.heap.size<=b/\Hid (WlC B M)/\Hid (zgc (fun b=>b<T.heap.size\/b=D\/b=D+1) wx B M))
     case first =>
      go_region_held3 (fun a7=>a7.cell? ⟨D,0,none⟩=some (.slice A.a0 I.fs.length A.c0)/\a7.cell? ⟨D,1,none⟩=some (.slice A.a1 I.rs.length A.c1)/\a7.cell? ⟨D,2,none⟩=some (.slice A.a2 I.ps.length A.c2)/\a7.cell? ⟨D,3,none⟩=some (.slice A.a3 I.qs.length A.c3)/\a7.cell? ⟨D,4,none⟩=some (.slice A.a4 I.pt.length A.c4)/\a7.cell? ⟨lb,lo+k*2,none⟩=some (.int .i64 a5)/\a7.cell? ⟨lb,lo+k*2+1,none⟩=some (.bool a6)) (go_keep) (first|(go_at_call 13;refine ye (DS.out (fun b=>b<T.heap.size\/b=D\/b=D+1) wr.drew F.out.lt (F.out.wl.off (zar.of_below (yk _ _).drew))) ?_;rintro e w5 ⟨B,rfl,b0,b4,b8,_⟩;have O:Hid (Below wr.heap.size wr w5):=(yk _ _).drew.trans b0;have C5:Hid _:=b4;have W5:Hid (zgc (fun b=>b<T.heap.size\/b=D\/b=D+1) w5 B M):=b8;have i0:=zab q0 O.out;have i1:=zab q1 O.out;have i2:=zab q2 O.out;have i3:=zab q3 O.out;have i4:=zab q4 O.out;have i5:=zab x0 O.out;have i6:=zab x1 O.out;clear b0 b4 b8)|(go_at_call 13;refine ye (DS.out (fun b=>(b<T.heap.size\/b=D\/b=D+1)\/b=wr.heap.size) (wr.alloc (.cells #[.slice none 0 0,.slice none 0 0,.slice none 0 0,.slice none 0 0,.slice none 0 0] 28)).drew (fun b hb=>by rcases hb with h|h;have:=F.out.lt b h;simp;omega;simp;omega) (F.out.wl.grow (zar.of_below (zaa wr _).drew) (fun b hb hy=>by rcases hy with h|h;exact h;omega))) ?_;rintro e w5 ⟨B,rfl,b0,b4,b8,_⟩;have O:Hid (Below wr.heap.size wr w5):=(zaa wr _).drew.trans (b0.mono (by simp));have C5:Hid _:=b4;have W5:Hid (zgc (fun b=>(b<T.heap.size\/b=D\/b=D+1)\/b=wr.heap.size) w5 B M):=b8;have i0:=zab q0 O.out;have i1:=zab q1 O.out;have i2:=zab q2 O.out;have i3:=zab q3 O.out;have i4:=zab q4 O.out;have i5:=zab x0 O.out;have i6:=zab x1 O.out;have X5:Hid (w5.heap[wr.heap.size]?=some (.cells #[.slice none 0 0,.slice none 0 0,.slice none 0 0,.slice none 0 0,.slice none 0 0] 28 (0,0))):=zav (W:=(wr.alloc (.cells #[.slice none 0 0,.slice none 0 0,.slice none 0 0,.slice none 0 0,.slice none 0 0] 28)).drew) (yK wr _) b0;obtain⟨y0,y1,y2,y3,y4,yf,yl⟩:=zaj X5.out;clear b0 b4 b8))
      ·go_wp2_with fail
       go_meet
       case rel=>exact⟨_,B,rfl,rfl,rfl,O.out.trans ((zaa _ _).mono O.out.size),yK _ _,O.out.size,C5.out,W5.out.off (zar.of_below (zaa _ _))⟩
      ·go_wp2_with fail
       go_meet
       case rel=>exact⟨_,B,rfl,rfl,rfl,((((O.out.setCell (yj _) _).setCell (yj _) _).setCell (yj _) _).setCell (yj _) _).setCell (yj _) _,ziA X5.out,yj _,C5.out,(W5.out.off ((ziJ _ _ _ _ _ _).mono (fun b hb=>.inr hb))).less (fun b hb=>.inl hb)⟩
     case rest =>
      obtain⟨b,B,rfl,rfl,rfl,HB,HX,j8,HC,HW⟩:=hcut;clear q0 q1 q2 q3 q4 qf DS x0 x1;have R1:Hid (∀ wy,wy.heap[D]?=some (.cells #[.slice B.a0 M.fs.length B.c0,.slice B.a1 M.rs.length B.c1,.slice B.a2 M.ps.length B.c2,.slice B.a3 M.qs.length B.c3,.slice B.a4 M.pt.length B.c4] 28 (0,0))->zar (fun b=>b=D) wc wy->wy.os=wc.os->wy.tape=wc.tape->wy.output=wc.output->E=0->RI T D (D+1) N M (zrq W L) (k+1) B (wy.setCell ⟨D+1,k,none⟩ (.int .i64 E))):=fun wy h1 h2 h3 h4 h5 _=>F.out.next e9 (by omega) (by omega) HB.out HW.out HC.out h1 h2 h3 h4 h5 E SE.out;have R2:Hid (RI T D (D+1) N I (zrq W L) (k+1) A (wc.setCell ⟨D+1,k,none⟩ (.int .i64 E))):=F.out.next e9 (by omega) (by omega) HB.out (F.out.wl.off (zar.of_below HB.out)) F.out.wc (zav F.out.box HB.out) (zar.refl _ _) rfl rfl rfl E SE.out;have RF:Hid _:=(F.out.row.of_block (HB.out.block _ F.out.row.lt)).frozen k;have RC:Hid (∃ v,wc.cell? ⟨D+1,k,none⟩=some v):=⟨_,(F.out.row.of_block (HB.out.block _ F.out.row.lt)).cell g0⟩;have Q8:Hid _:=zav F.out.box HB.out;obtain⟨cv,rc⟩:=RC.out;have rf:=RF.out;clear F HW HC RC RF;obtain⟨p0,p1,p2,p3,p4,pf,pl⟩:=zaj HX.out;obtain⟨q0,q1,q2,q3,q4,qf,k4⟩:=zaj Q8.out;have k1:¬ b=D:=(by omega);have j5:¬ D=b:=(by omega);have k3:¬ D+1=D:=(by omega);have j7:¬ D=D+1:=(by omega);by_cases hE:E=0
      ·subst hE;rw[yb rfl] at U;rw[U.out] at NX;have FB:Hid _:=R1.out _ (ziA (u0:=.slice B.a0 M.fs.length B.c0) (u1:=.slice B.a1 M.rs.length B.c1) (u2:=.slice B.a2 M.ps.length B.c2) (u3:=.slice B.a3 M.qs.length B.c3) (u4:=.slice B.a4 M.pt.length B.c4) Q8.out) (ziJ _ _ _ _ _ _) rfl rfl rfl rfl;clear R1 R2 U
       skip
       go_wp2_with fail
       go_roundg (N-(k+1))
       case measure=>omega
       case rel=>exact⟨k+1,B,by omega,by omega,by go_num,(by rw[NX.out];exact FB.out)⟩
      ·have hz:(E == 0)=false:=(by simp[hE]);rw[ya hE] at U;rw[U.out] at NX;have FB:Hid _:=R2.out;clear R1 R2 U
       go_wp2_with fail
       go_roundg (N-(k+1))
       case measure=>omega
       case rel=>exact⟨k+1,A,by omega,by omega,by go_num,(by rw[NX.out];exact FB.out)⟩
    ·have:k=N:=(by omega);subst this;have hz:¬ ((k:Int)<(k:Int)):=(by omega);have EW:Hid (L.foldl zjz W=(L.take k).foldl zjz W):=(by show _=_;rw[<- HN.out,List.take_length]);have Z8:Hid (wr.heap[w.heap.size+1]?=some (.cells #[.slice none 0 0,.slice none 0 0,.slice none 0 0,.slice none 0 0,.slice none 0 0] 28 (0,0))):=(F.out.bel.block _ (zau Y3.out)).trans Y3.out;obtain⟨z0,z1,z2,z3,z4,zf,zl⟩:=zaj Z8.out;obtain⟨q0,q1,q2,q3,q4,qf,ql⟩:=zaj F.out.box;have i7:w.heap.size+1<T.heap.size:=zau Y3.out;have n41:¬ D=w.heap.size+1:=(by omega);have j4:¬ w.heap.size+1=D:=(by omega);obtain⟨I,b3⟩:∃ I,(L.take k).foldl zjz W=I:=⟨_,rfl⟩;rw[b3] at F EW q0 q1 q2 q3 q4;clear b3;have g6:Hid (∀ u0 u1 u2 u3 u4 V', _->znC X w W L _ V'):=fun u0 u1 u2 u3 u4 V' h=>F.out.done (u0:=u0) (u1:=u1) (u2:=u2) (u3:=u3) (u4:=u4) h7.out a8.out (by omega) (by omega:w.heap.size<=w.heap.size+1) i7 HN.out RE.out EW.out h;clear F EW
     skip
     go_wp2
     exact yv (v:=.tuple #[.agg #[.slice A.a0 I.fs.length A.c0,.slice A.a1 I.rs.length A.c1,.slice A.a2 I.ps.length A.c2,.slice A.a3 I.qs.length A.c3,.slice A.a4 I.pt.length A.c4],.slice (some ⟨D+1,0,none⟩) k k,.int .i64 0]) (by simp[results,Tryz.results20,go_sem,z0,z1,z2,z3,z4]) rfl (g6.out _ _ _ _ _ _ rfl)
  ·have e0:(120:Int)<(N:Int):=(by omega);have RE:Hid (zhd W L=1):=(by show _=_;unfold zhd;rw[yb b9.out,yb (by rw[HN.out];omega)]);clear D2 c6
   go_wp2
   exact yv (v:=.tuple #[.agg #[.slice none 0 0,.slice none 0 0,.slice none 0 0,.slice none 0 0,.slice none 0 0],.slice none 0 0,.int .i64 1]) (by simp[results,Tryz.results20,go_sem,z0,z1,z2,z3,z4]) rfl (znC.no RE.out (by decide) (((((a8.out.setCell (by show w.heap.size<=w.heap.size+1;omega) _).setCell (by show w.heap.size<=w.heap.size+1;omega) _).setCell (by show w.heap.size<=w.heap.size+1;omega) _).setCell (by show w.heap.size<=w.heap.size+1;omega) _).setCell (by show w.heap.size<=w.heap.size+1;omega) _))
 ·have hz:(E0 == 0)=false:=by simp[Z]
  have RE:Hid (zhd W L=E0):=by show _=_;unfold zhd;rw[b9.out,ya Z]
  clear D2 c6
  go_wp2
  exact yv (v:=.tuple #[.agg #[.slice none 0 0,.slice none 0 0,.slice none 0 0,.slice none 0 0,.slice none 0 0],.slice none 0 0,.int .i64 E0]) (by simp[results,Tryz.results20,go_sem,z0,z1,z2,z3,z4]) rfl (znC.no RE.out Z (((((a8.out.setCell (by show w.heap.size<=w.heap.size+1;omega) _).setCell (by show w.heap.size<=w.heap.size+1;omega) _).setCell (by show w.heap.size<=w.heap.size+1;omega) _).setCell (by show w.heap.size<=w.heap.size+1;omega) _).setCell (by show w.heap.size<=w.heap.size+1;omega) _))
end Go.Proofs.YtcbcpomacdngmaaGreat
