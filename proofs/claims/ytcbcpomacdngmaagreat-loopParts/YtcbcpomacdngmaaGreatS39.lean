/-
  x
-/
import Derived.Test.YtcbcpomacdngmaaGreatS38
import Derived.Deep.AppendLies
import Derived.ArgAppend
namespace Go.Proofs.YtcbcpomacdngmaaGreat
set_option maxRecDepth 100000
set_option maxHeartbeats 4000000
set_option linter.unusedVariables false
open Go.RowKit Go.ChangeShapes Go.WideShapes
theorem RlO.off{n:Nat}{V D:World}{A:RA}{R:Rl}(h:RlO n V A R)(E:zaq (fun b=>b<n) V D):RlO n D A R:=⟨h.a3,h.c3,h.t0,h.tr.of_block (E.block _ h.tr.lt (by have:=h.t0;omega)),h.st.off (E.mono (fun b F=>.inl F))⟩
theorem RlO.mono{n m:Nat}{V:World}{A:RA}{R:Rl}(h:RlO n V A R)(D:m<=n):RlO m V A R:=⟨h.a3,h.c3,yH D h.t0,h.tr,h.st.less (fun b E=>by omega)⟩
theorem SW.own{E:W0}{d me:Nat}{W:Wl}{s:SD}{V:World}(I:SW E d me W s V){N:Nat}{A:RA}{Q:Rl}(M:zaF Q=0)(h:RlO N V A Q)(J:∀ b,SX E.heap.size d s b->b<N){F:World}
  (O:F=(((V.setCell ⟨s.g1,me*4,none⟩ (.slice A.a0 Q.s.length A.c0)).setCell ⟨s.g1,me*4+1,none⟩ (.slice A.a1 Q.hs.length A.c1)).setCell ⟨s.g1,me*4+2,none⟩ (.slice A.a2 Q.i.length A.c2)).setCell ⟨s.g1,me*4+3,none⟩ (.slice A.a3 Q.t.length A.c3)):∃ U,SW E d me (setR W me Q) U F:=by
 refine⟨_,I.realm I.sf M (h.st.less (fun b D=>.inl (J b D))) (fun Z T=>?_) (fun _=>⟨h.c3,fun ad e=>?_⟩) O⟩
 ·rw[h.a3];exact zgX (h.tr.of_block (T.block _ h.tr.lt (fun D=>by have:=J _ D;have:=h.t0;omega)))
 ·rw[h.a3] at e;cases e;exact⟨_,_,rfl⟩
theorem zcz(V:World)(J E F I M:Int):∃ D,V.alloc (.cells #[.int .i64 J,.int .i64 E,.int .i64 F,.int .i64 I,.int .i64 M] 36)=D/\Hid (Below V.heap.size V D)/\D.cell? ⟨V.heap.size,0,none⟩=some (.int .i64 J)/\D.cell? ⟨V.heap.size,1,none⟩=some (.int .i64 E)/\D.cell? ⟨V.heap.size,2,none⟩=some (.int .i64 F)/\D.cell? ⟨V.heap.size,3,none⟩=some (.int .i64 I)/\D.cell? ⟨V.heap.size,4,none⟩=some (.int .i64 M)/\V.heap.size<D.heap.size:=by
 obtain⟨h0,h1,O,T,U,_,hl⟩:=zal (yL V (.cells #[.int .i64 J,.int .i64 E,.int .i64 F,.int .i64 I,.int .i64 M] 36));exact⟨_,rfl,zaa _ _,h0,h1,O,T,U,hl⟩
def zdJ(D:W0)(d me:Nat)(q:Ws)(e:Ending)(V:World):Prop:=∃ (o:Int) (s:SD),e=.returned (.tuple #[.int .i64 o,.int .i64 q.e])/\(q.e=0->o=q.o)/\SW D d me q.w s V
theorem zdJ.ok{D:W0}{d me:Nat}{W:Wl}{o:Int}{s:SD}{V:World}(h:SW D d me W s V):zdJ D d me ⟨0,W,o⟩ (.returned (.tuple #[.int .i64 o,.int .i64 0])) V:=⟨o,s,rfl,fun _=>rfl,h⟩
theorem zdJ.no{F:W0}{d me:Nat}{W:Wl}{E o D:Int}{s:SD}{V:World}(h:SW F d me W s V)(I:E≠0):zdJ F d me ⟨E,W,o⟩ (.returned (.tuple #[.int .i64 D,.int .i64 E])) V:=⟨D,s,rfl,fun h=>absurd h I,h⟩
def zhp(K:Nat)(D:Array Value)(C:World->Prop)(me:Nat)(W:Wl)(x:Ac)(q:Ws):Prop:=∀ (E:W0) (d:Nat) (s:SD) (V:World),SW E d me W s V->C V ->
 yM K (#[.pointer (some ⟨d,0,none⟩),.int .i64 (me:Int),acV x] ++ D) V (zdJ E d me q)
theorem zAF(Es:List Int)(W V:Wl)(o:Int):(zfe Es W V o).e=zan Es:=by
 unfold zfe;split
 ·rename_i h;exact h.symm
 ·rfl
theorem zzd{Es:List Int}(W V:Wl)(o:Int)(h:zan Es=0):(zfe Es W V o).w=V/\(zfe Es W V o).o=o:=by unfold zfe;rw[yb h];exact⟨rfl,rfl⟩
theorem zzc{Es:List Int}(W V:Wl)(o:Int)(h:zan Es≠0):(zfe Es W V o).w=W:=by unfold zfe;rw[ya h]
theorem zkH(E:Int):zan [E]=E:=by
 show (if E=0 then 0 else E)=E;split
 ·omega
 ·rfl
def QIs(q:Ws)(E:Int)(W V:Wl)(o:Int):Prop:=q.e=E/\(E=0->q.w=V/\q.o=o)/\(E≠0->q.w=W)
theorem zeO(Es:List Int)(W V:Wl)(o:Int):QIs (zfe Es W V o) (zan Es) W V o:=⟨zAF _ _ _ _,fun h=>zzd _ _ _ h,fun h=>zzc _ _ _ h⟩
theorem zpY{b n:Nat}(D:b<n)(W:World)(u0 u1 u2 u3:Value):zaq (fun x=>x<n) W ((((W.setCell ⟨b,0,none⟩ u0).setCell ⟨b,1,none⟩ u1).setCell ⟨b,2,none⟩ u2).setCell ⟨b,3,none⟩ u3) :=
 (((zaq.set (X:=fun x=>x<n) _ _ D).trans (zaq.set (X:=fun x=>x<n) _ _ D)).trans (zaq.set (X:=fun x=>x<n) _ _ D)).trans (zaq.set (X:=fun x=>x<n) _ _ D)
theorem zxZ{W:World}{b t:Nat}{D v1 v2 E:Value}(h:W.heap[b]?=some (.cells #[D,v1,v2,E] t (0,0))):W.cell? ⟨b,0,none⟩=some D/\W.cell? ⟨b,1,none⟩=some v1/\W.cell? ⟨b,2,none⟩=some v2/\W.cell? ⟨b,3,none⟩=some E/\b<W.heap.size :=
 ⟨by simp[World.cell?,h],by simp[World.cell?,h],by simp[World.cell?,h],by simp[World.cell?,h],zaw h⟩
theorem SW.rat{F:W0}{d me:Nat}{W:Wl}{s:SD}{V:World}(I:SW F d me W s V){i:Nat}(hi:i<W.fs.length):zcZ V (s.R i) (rlm W i):=by
 obtain⟨h1,D,E⟩:=(I.dp.rl i hi).at;refine⟨h1,D,E,?_⟩;by_cases e:i=me
 ·subst e;exact zpn I.dp.ts
 ·exact(I.dp.tl i hi e).at
theorem SW.rcells{D:W0}{d me:Nat}{W:Wl}{s:SD}{V:World}(I:SW D d me W s V){i:Nat}(hi:i<W.fs.length):V.cell? ⟨s.g1,i*4,none⟩=some (.slice (s.R i).a0 (rlm W i).s.length (s.R i).c0)/\V.cell? ⟨s.g1,i*4+1,none⟩=some (.slice (s.R i).a1 (rlm W i).hs.length (s.R i).c1)/\V.cell? ⟨s.g1,i*4+2,none⟩=some (.slice (s.R i).a2 (rlm W i).i.length (s.R i).c2)/\V.cell? ⟨s.g1,i*4+3,none⟩=some (.slice (s.R i).a3 (rlm W i).t.length (s.R i).c3)/\(∀ o,V.frozen? ⟨s.g1,o,none⟩=false)/\s.g1<V.heap.size :=
 ⟨by rw[I.r1.cell (by omega),zjG],by rw[I.r1.cell (by omega),zjH],by rw[I.r1.cell (by omega),zkY],by rw[I.r1.cell (by omega),zkZ],fun o=>I.r1.frozen o,I.r1.lt⟩
theorem zvJ(me:Nat)(W:Wl)(x:Ac):zhp 124 #[] (fun _=>True) me W x (wDo W me x):=fun w0 d s V I _=>by
 have QI:=zeO [(doF (rlm W me) x).e] W (setR W me (doF (rlm W me) x).r) (doF (rlm W me) x).o;rw[zkH] at QI;change QIs (wDo W me x) _ _ _ _ at QI;obtain⟨xk,Z,xb,xc,xn⟩:=x;have II:Hid (SW w0 d me W s V):=I;have b0:=I.lt;have b1:Hid _:=b0;obtain⟨l0,l1,l2,l3,l4,lf,ll⟩:=zal I.box;have d7:d<V.heap.size:=ll;have n8:W.fs.length<=8:=I.rt.fs.few;have c8:me<W.fs.length:=I.sf;clear b0;have a7:=zdU (I.rt.rs me I.sf);have D:Hid (∀ V2,Below V.heap.size V V2->Calls _ _ _ _ _):=fun V2 hV=>zyl (s.R me) (rlm W me) ⟨xk,Z,xb,xc,xn⟩ V2 a7 ((I.rat I.sf).below hV);obtain⟨k0,k1,k2,k3,kf,kl⟩:=I.rcells I.sf;have RK:Hid ((doF (rlm W me) ⟨xk,Z,xb,xc,xn⟩).e=0->zaF (doF (rlm W me) ⟨xk,Z,xb,xc,xn⟩).r=0):=fun h=>(zoe h).2.2;dsimp only[rlV,acV] at D;clear a7;show yM _ #[.pointer (some ⟨d,0,none⟩),.int .i64 (me:Int),.agg #[.int .i64 xk,.int .i64 Z,.int .i64 xb,.int .i64 xc,.int .i64 xn]] V _;obtain⟨n,hn⟩:∃ n,W.fs.length=n:=⟨_,rfl⟩;have HN:Hid (W.fs.length=n):=hn;obtain⟨nt,a5⟩:∃ n,W.pt.length=n:=⟨_,rfl⟩;have d5:Hid (W.pt.length=nt):=a5;rw[a5] at l4;rw[hn] at l0 l1 l2 l3 n8 c8;clear hn a5 I;generalize doF (rlm W me) ⟨xk,Z,xb,xc,xn⟩=q at *;obtain⟨E,r,o⟩:=q;dsimp only at D RK QI;generalize wDo W me ⟨xk,Z,xb,xc,xn⟩=q at *;obtain⟨qe,qw,qo⟩:=q;obtain⟨a8,Q0,Q1⟩:=QI;dsimp only at a8 Q0 Q1 |-;subst a8;have Q0:Hid _:=Q0;have Q1:Hid _:=Q1;generalize (rlm W me).s.length=r0 at *;generalize (rlm W me).hs.length=r1 at *;generalize (rlm W me).i.length=r2 at *;generalize (rlm W me).t.length=r3 at *;have d4:(me:Int)<(n:Int):=by omega
 go_enter Tryz.func124,Tryz.ntmps124
 go_upto_region 1 with fail
 obtain⟨J,a6,O,y0,y1,y2,y3,y4,sV⟩:=zcz V xk Z xb xc xn;rw[a6];clear a6;replace l0:=zab l0 O.out;replace l1:=zab l1 O.out;replace l2:=zab l2 O.out;replace l3:=zab l3 O.out;replace l4:=zab l4 O.out;replace k0:=zab k0 O.out;replace k1:=zab k1 O.out;replace k2:=zab k2 O.out;replace k3:=zab k3 O.out;have n0:¬ J.heap.size=d:=by omega
 have o0:¬ d=J.heap.size:=by omega
 have n1:¬ J.heap.size=s.g1:=by omega
 have o1:¬ s.g1=J.heap.size:=by omega
 have n2:¬ J.heap.size=V.heap.size:=by omega
 have o2:¬ V.heap.size=J.heap.size:=by omega
 have d8:d<J.heap.size:=by omega
 have d9:s.g1<J.heap.size:=by omega
 go_cut [8,9,10] (fun s8 s9 s10 wx=>∃ (b:Nat) (B:RA),s8=.pointer (some ⟨b,0,none⟩)/\s9=.int .i64 o/\s10=.int .i64 qe/\Hid (Below J.heap.size J wx)/\Hid (wx.heap[b]?=some (.cells #[.slice B.a0 r.s.length B.c0,.slice B.a1 r.hs.length B.c1,.slice B.a2 r.i.length B.c2,.slice B.a3 r.t.length B.c3] 50 (0,0)))/\J.heap.size<=b/\Hid (qe=0->RlO J.heap.size wx B r))
 case first =>
  go_region_held3 (fun M=>M.cell? ⟨d,1,none⟩=some (.slice (some ⟨s.g1,0,none⟩) n n)/\M.cell? ⟨s.g1,me*4,none⟩=some (.slice (s.R me).a0 r0 (s.R me).c0)/\M.cell? ⟨s.g1,me*4+1,none⟩=some (.slice (s.R me).a1 r1 (s.R me).c1)/\M.cell? ⟨s.g1,me*4+2,none⟩=some (.slice (s.R me).a2 r2 (s.R me).c2)/\M.cell? ⟨s.g1,me*4+3,none⟩=some (.slice (s.R me).a3 r3 (s.R me).c3)/\M.cell? ⟨V.heap.size,0,none⟩=some (.int .i64 xk)/\M.cell? ⟨V.heap.size,1,none⟩=some (.int .i64 Z)/\M.cell? ⟨V.heap.size,2,none⟩=some (.int .i64 xb)/\M.cell? ⟨V.heap.size,3,none⟩=some (.int .i64 xc)/\M.cell? ⟨V.heap.size,4,none⟩=some (.int .i64 xn)) (go_keep) (first|(go_at_call 148;refine ye (D.out J.drew O.out.drew) ?_;rintro e w3 ⟨B,rfl,T,_,U⟩;have F:Hid (Below J.heap.size J w3):=(yk _ _).drew.trans T;have O3:Hid (qe=0->RlO J.heap.size w3 B r):=U;have b6:=zab l1 F.out;have b2:=zab k0 F.out;have b3:=zab k1 F.out;have b4:=zab k2 F.out;have b5:=zab k3 F.out;have b7:=zab y0 F.out;have b8:=zab y1 F.out;have b9:=zab y2 F.out;have c6:=zab y3 F.out;have c7:=zab y4 F.out;clear T U)|(go_at_call 148;refine ye (D.out (J.alloc (.cells #[.slice none 0 0,.slice none 0 0,.slice none 0 0,.slice none 0 0] 50)).drew (O.out.trans ((zaa J _).mono O.out.size)).drew) ?_;rintro e w3 ⟨B,rfl,T,_,U⟩;have F:Hid (Below J.heap.size J w3):=(zaa J _).drew.trans (T.mono (by simp));have O3:Hid (qe=0->RlO (J.heap.size+1) w3 B r):=(by have h:=U;simp only[yr,World.size_drew] at h;exact h);have b6:=zab l1 F.out;have b2:=zab k0 F.out;have b3:=zab k1 F.out;have b4:=zab k2 F.out;have b5:=zab k3 F.out;have b7:=zab y0 F.out;have b8:=zab y1 F.out;have b9:=zab y2 F.out;have c6:=zab y3 F.out;have c7:=zab y4 F.out;have X3:Hid (w3.heap[J.heap.size]?=some (.cells #[.slice none 0 0,.slice none 0 0,.slice none 0 0,.slice none 0 0] 50 (0,0))):=zaA (W:=(J.alloc (.cells #[.slice none 0 0,.slice none 0 0,.slice none 0 0,.slice none 0 0] 50)).drew) (yL J _) T;obtain⟨x0,x1,x2,x3,xf,xl⟩:=zak X3.out;clear T U))
  ·go_wp2_with fail
   go_meet
   case rel=>exact⟨_,B,rfl,rfl,rfl,F.out.trans ((zaa _ _).mono F.out.size),zcc _ _ _ _ _ _,F.out.size,fun h=>(O3.out h).off (zaq.of_below (zaa _ _))⟩
  ·go_wp2_with fail
   go_meet
   case rel=>exact⟨_,B,rfl,rfl,rfl,(((F.out.setCell (yj _) _).setCell (yj _) _).setCell (yj _) _).setCell (yj _) _,zcL X3.out,yj _,fun h=>((O3.out h).off (zpY (Nat.lt_succ_self _) _ _ _ _ _)).mono (Nat.le_succ _)⟩
 case rest =>
  obtain⟨b,B,rfl,rfl,rfl,HB,HX,d6,HO⟩:=hcut;have I2:Hid _:=II.out.below (O.out.trans (HB.out.mono O.out.size));obtain⟨e6,c9,e7,e8,e9,g0,g4⟩:=zal I2.out.box;rw[HN.out] at c9;obtain⟨e0,e1,e2,e3,e4,e5⟩:=I2.out.rcells I2.out.sf;obtain⟨m0,m1,m2,m3,ml⟩:=zxZ HX.out;clear l0 l1 l2 l3 l4 k0 k1 k2 k3 D y0 y1 y2 y3 y4;have ng:¬ s.g1=b:=by omega
  have g6:¬ b=s.g1:=by omega
  have nd:¬ d=b:=by omega
  have g5:¬ b=d:=by omega
  by_cases hE:qe=0
  ·subst hE;obtain⟨rfl,rfl⟩:=Q0.out rfl;obtain⟨s', a9⟩:=I2.out.own (RK.out rfl) (HO.out rfl) (fun b hb=>yz (b1.out b hb) O.out.size) rfl;have HS:Hid _:=a9;clear a9
   go_wp2_with fail
   go_region
   go_wp2
   exact yw (v:=.tuple #[.int .i64 qo,.int .i64 0]) (by simp[results,Tryz.results124,go_sem]) rfl (zdJ.ok (HS.out.below (yk _ _).drew))
  ·obtain rfl:=Q1.out hE;have hz:(qe == 0)=false:=by simp[hE]
   go_wp2
   exact yw (v:=.tuple #[.int .i64 0,.int .i64 qe]) (by simp[results,Tryz.results124,go_sem]) rfl (zdJ.no I2.out hE)
def N0:List Fr:=[⟨-1,0,7,0,false⟩]
def N1:List Fr:=[⟨-1,0,7,0,false⟩,⟨0,1,7,0,false⟩]
def N2:List Fr:=[⟨-1,0,7,0,false⟩,⟨0,1,7,0,false⟩,⟨1,1,7,0,false⟩]
def N3:List Fr:=[⟨-1,0,7,0,false⟩,⟨0,5,7,1,false⟩,⟨1,1,7,0,true⟩]
def mkF(R:Rl)(m h k j:Nat):Value :=
 if j=0 then .int .i64 (m:Int) else if j=1 then .slice (some ⟨h,0,none⟩) m m
 else if j % 2=0 then (if j / 2-1<k then .int .i64 (nd R.s (hd R ((j / 2-1:Nat):Int)).1.toNat).m else .int .i64 0) else .slice none 0 0
def kdF(k j:Nat):Value:=if j<k then .int .i64 ((j:Int)+1) else .int .i64 0
structure MkI (w:World) (A:RA) (R:Rl) (m k:Nat) (V:World):Prop where
 bel:Below w.heap.size w V
 r:V.heap[w.heap.size]?=some (.cells #[.slice A.a0 R.s.length A.c0,.slice A.a1 R.hs.length A.c1,.slice A.a2 R.i.length A.c2,.slice A.a3 R.t.length A.c3] 50 (0,0))
 z:V.heap[w.heap.size+1]?=some (.cells #[.slice none 0 0] 47 (0,0))
 g:V.rowIs (w.heap.size+1+1) 55 ((m+1)*2) (mkF R m (w.heap.size+1+1+1) k)
 h:V.rowIs (w.heap.size+1+1+1) 3 m (kdF k)
 ok:∀ i:Nat,i<k->zaG R.s (hd R i).1 (hd R i).2=0
theorem MkI.below{w:World}{A:RA}{R:Rl}{m k:Nat}{V E:World}(I:MkI w A R m k V)(D:Below V.heap.size V E):MkI w A R m k E:=⟨I.bel.trans (D.mono I.bel.size),zaA I.r D,zaA I.z D,I.g.of_block (D.block _ I.g.lt),I.h.of_block (D.block _ I.h.lt),I.ok⟩
theorem MkI.step{w:World}{A:RA}{R:Rl}{m k:Nat}{V:World}(I:MkI w A R m k V)(hk:k<m)(U:zaG R.s (hd R k).1 (hd R k).2=0):MkI w A R m (k+1) (((V.setCell ⟨w.heap.size+1+1+1,k,none⟩ (.int .i64 ((k:Int)+1))).setCell ⟨w.heap.size+1+1,(k+1)*2,none⟩ (.int .i64 (nd R.s (hd R (k:Int)).1.toNat).m)).setCell ⟨w.heap.size+1+1,(k+1)*2+1,none⟩ (.slice none 0 0)):=by
 have h0:∀ b,b≠w.heap.size+1+1->b≠w.heap.size+1+1+1->(((V.setCell ⟨w.heap.size+1+1+1,k,none⟩ (.int .i64 ((k:Int)+1))).setCell ⟨w.heap.size+1+1,(k+1)*2,none⟩ (.int .i64 (nd R.s (hd R (k:Int)).1.toNat).m)).setCell ⟨w.heap.size+1+1,(k+1)*2+1,none⟩ (.slice none 0 0)).heap[b]?=V.heap[b]?:=fun b h1 T=>by
  rw[yv _ _ _ _ h1,yv _ _ _ _ h1,yv _ _ _ _ T]
 refine⟨((I.bel.setCell (by simp;omega) _).setCell (by simp;omega) _).setCell (by simp;omega) _,(h0 _ (by omega) (by omega)).trans I.r,(h0 _ (by omega) (by omega)).trans I.z,?_,?_,fun i hi=>?_⟩
 ·refine yE (((I.g.setOther (by simp) _).set ((k+1)*2) _).set ((k+1)*2+1) _) (fun j Z=>?_);unfold mkF;by_cases M:j=(k+1)*2+1
  ·rw[yb M,ya (by omega),ya (by omega),ya (by omega)]
  ·rw[ya M];by_cases D:j=(k+1)*2
   ·rw[yb D,ya (by omega),ya (by omega),yb (by omega),show j / 2-1=k by omega,yb (by omega)]
   ·rw[ya D];by_cases E:j=0
    ·rw[yb E,yb E]
    ·rw[ya E,ya E];by_cases F:j=1
     ·rw[yb F,yb F]
     ·rw[ya F,ya F];by_cases J:j % 2=0
      ·rw[yb J,yb J];by_cases O:j / 2-1<k
       ·rw[yb O,yb (by omega)]
       ·rw[ya O,ya (by omega)]
      ·rw[ya J,ya J]
 ·refine yE (((I.h.set k _).setOther (by simp) _).setOther (by simp) _) (fun j Z=>?_);unfold kdF;by_cases e:j=k
  ·subst e;rw[yb rfl,yb (by omega)]
  ·rw[ya e];by_cases D:j<k
   ·rw[yb D,yb (by omega)]
   ·rw[ya D,ya (by omega)]
 ·by_cases e:i=k
  ·rw[e];exact U
  ·exact I.ok i (by omega)
theorem ztJ{R:Rl}{n:Int}(h:¬ (0<=n/\n<=8)):zbu R n=2:=ya h
theorem ztI{R:Rl}{m:Nat}(E:m<=8)(h:∀ i:Nat,i<m->zaG R.s (hd R i).1 (hd R i).2=0):zbu R m=0:=by
 have key:∀ n,n<=m->zdb R n=0:=fun n=>by
  induction n with
  | zero=>intro _;rfl
  | succ n D=>intro hn;unfold zdb;rw[yb (D (by omega))];exact h n (by omega)
 unfold zbu;rw[yb (by omega),yi];exact key m (yj _)
theorem zwG{R:Rl}{m k:Nat}(J:m<=8)(M:k<m)(h:∀ i:Nat,i<k->zaG R.s (hd R i).1 (hd R i).2=0)(F:zaG R.s (hd R k).1 (hd R k).2≠0):zbu R m=zaG R.s (hd R k).1 (hd R k).2:=by
 have key:∀ n,n<=k->zdb R n=0:=fun n=>by
  induction n with
  | zero=>intro _;rfl
  | succ n E=>intro hn;unfold zdb;rw[yb (E (by omega))];exact h n (by omega)
 have I:zdb R (k+1)=zaG R.s (hd R k).1 (hd R k).2:=by unfold zdb;rw[yb (key k (yj _))]
 have D:∀ n,zdb R (k+1+n)=zaG R.s (hd R k).1 (hd R k).2:=fun n=>by
  induction n with
  | zero=>exact I
  | succ n E=>show (if zdb R (k+1+n)=0 then _ else zdb R (k+1+n))=_;rw[E,ya F]
 unfold zbu;rw[yb (by omega),yi,show m=k+1+(m-k-1) by omega];exact D _
def mkG(R:Rl)(n:Int):List Cl:=if zbu R n=0 then zbg R n.toNat else []
theorem zyW{P:Program}(w:World)(t ty:TypeId)(e:TypeId)(i:TypeInfo)(z:Value)(size bytes:Nat)(ht:P.underlying t=some (.slice e))(hi:P.info? e=some i)(hz:i.zero=some z)
  (F:i.size=size) (J:i.bytes=bytes) (O:z.cells.size=size) (M:0<size)
  {X:Nat->Prop} {B:Nat} (av:Option Addr) (n cv:Nat) (Z:List Value) (tt:Option Nat) (hA:App X B e size av n cv Z tt w) (hB:B<=w.heap.size)
  (T:Addr) (m c:Nat) (news:List Value) (hl:news.length=m*size) (E:∀ j u,news[j]?=some u->w.cell? (T.add j)=some u) (h1:∀ u ∈ news,u.oneCell' = true)
  (hm:0<m) (I:n+m<=maxLen) (D:(n+m)*bytes<=140737488355328) :
  ∃ g cap w',(Builtin.append_ #[t,t] ty #[.slice av n cv,.slice (some T) m c]).run P w=.ok (.slice (some ⟨g,0,none⟩) (n+m) cap) w' /\
   w'.ownsRow B e size (.slice (some ⟨g,0,none⟩) (n+m) cap) (n+m) (Z++news)/\w.grownBy w' tt/\(tt=some g\/w.heap.size<=g)/\g<w'.heap.size:=by
 rcases hA.2 with ⟨rfl,rfl,h3,h4⟩ |⟨b,rfl,rfl,h3⟩
 ·cases av with
  | some b =>
   obtain⟨v', w', U,r1,r2⟩:=run_append_arg_grows (P:=P) w t ty e i z size bytes ht hi hz F J O M b cv cv Z hA.1 (h4.at b rfl) T m c news hl E (by omega) I D;obtain⟨g,cap,rfl,h5,h6⟩:=r1.form (by omega);exact⟨g,cap,w', U,zaV r1 hB,r2,.inr h5,h6⟩
  | none =>
   obtain rfl:=h3.1 rfl;obtain rfl:Z=[]:=List.eq_nil_of_length_eq_zero (by simpa using hA.1);obtain⟨g,cap,w', U,r1,r2,r3,r4⟩:=run_append_lies (P:=P) w t ty w.heap.size e i z size bytes ht hi hz F J O M (.slice none 0 0) 0 [] (World.ownsRow_nil w _ e size) T m c news hl E h1 hm I D (yj _) _ rfl;refine⟨g,cap,w', U,zaV r1 hB,r2,?_,r4⟩;rcases r3 with r3|r3
   ·cases r3
   ·exact .inr (by omega)
 ·obtain⟨g,cap,w', U,r1,r2,r3,r4⟩:=run_append_lies (P:=P) w t ty B e i z size bytes ht hi hz F J O M (.slice (some ⟨b,0,none⟩) n cv) n Z h3 T m c news hl E h1 hm I D hB _ rfl;refine⟨g,cap,w', U,r1,r2,?_,r4⟩;rcases r3 with r3|r3
  ·exact .inl r3
  ·exact .inr (by omega)
theorem zAJ{P:Program}(w:World){o:Oper}{a:Act}{K:Act->World->Prop}{Q:Exit->Act->World->Prop}(s x:Operand)(t:TypeId)
  (ho:o.op=.call { callee:=.builtin .append,args:=#[s,x],argTypes:=#[t,t] })
  (e:TypeId) (i:TypeInfo) (z:Value) (size bytes:Nat) (ht:P.underlying t=some (.slice e)) (hi:P.info? e=some i) (hz:i.zero=some z)
  (F:i.size=size) (O:i.bytes=bytes) (U:z.cells.size=size) (T:0<size)
  {X:Nat->Prop} {B:Nat} (J:Option Addr) (n cv:Nat) (Z:List Value) (tt:Option Nat) (hA:App X B e size J n cv Z tt w) (hB:B<=w.heap.size) (hs:a.eval s=.slice J n cv)
  (I:Addr) (m c:Nat) (news:List Value) (hx:a.eval x=.slice (some I) m c) (hl:news.length=m*size) (E:∀ j u,news[j]?=some u->w.cell? (I.add j)=some u) (h1:∀ u ∈ news,u.oneCell' = true)
  (hm:0<m) (M:n+m<=maxLen) (D:(n+m)*bytes<=140737488355328)
  (h:∀ g cap w', w'.ownsRow B e size (.slice (some ⟨g,0,none⟩) (n+m) cap) (n+m) (Z++news)->w.grownBy w' tt->(tt=some g\/w.heap.size<=g)->g<w'.heap.size->K (a.put o.dst (.slice (some ⟨g,0,none⟩) (n+m) cap)) w'):o.wp P a w K Q:=by
 obtain⟨g,cap,w', hr,h2,h3,h4,h5⟩:=zyW (P:=P) w t o.type e i z size bytes ht hi hz F O U T J n cv Z tt hA hB I m c news hl E h1 hm M D;unfold Oper.wp execOp;simp only[ho,resolve,invoke,builtin,Sem.run_bind,Sem.run_pure,Result.andThen_ok,List.map_toArray,List.map_cons,List.map_nil,hs,hx,hr];exact h g cap w' h2 h3 h4 h5
theorem zma{P:Program}(w:World){ops:Array Oper}{o:Oper}{a:Act}{K:Act->World->Prop}{Q:Exit->Act->World->Prop}{E:Prop}(U:o.guard=none)(s x:Operand)(t:TypeId)
  (ho:o.op=.call { callee:=.builtin .append,args:=#[s,x],argTypes:=#[t,t] })
  (e:TypeId) (i:TypeInfo) (z:Value) (size bytes:Nat) (ht:P.underlying t=some (.slice e)) (hi:P.info? e=some i) (hz:i.zero=some z)
  (I:i.size=size) (T:i.bytes=bytes) (a5:z.cells.size=size) (Z:0<size)
  {X:Nat->Prop} {B:Nat} (M:Option Addr) (n cv:Nat) (xs:List Value) (tt:Option Nat) (hA:App X B e size M n cv xs tt w) (hB:B<=w.heap.size) (hs:a.eval s=.slice M n cv)
  (J:Addr) (m c:Nat) (news:List Value) (hx:a.eval x=.slice (some J) m c) (hl:news.length=m*size) (F:∀ j u,news[j]?=some u->w.cell? (J.add j)=some u) (h1:∀ u ∈ news,u.oneCell' = true)
  (hm:0<m) (O:n+m<=maxLen) (D:(n+m)*bytes<=140737488355328)
  (h:∀ g cap w', w'.ownsRow B e size (.slice (some ⟨g,0,none⟩) (n+m) cap) (n+m) (xs++news)->w.grownBy w' tt->(tt=some g\/w.heap.size<=g)->g<w'.heap.size->K (a.put o.dst (.slice (some ⟨g,0,none⟩) (n+m) cap)) w') :
  if Region.wanted o (yielded ops a.tmps)=true then Oper.wp P o a w K Q else E:=by
 have hw:Region.wanted o (yielded ops a.tmps)=true:=by simp[Region.wanted,U]
 rw[yb hw];exact zAJ w s x t ho e i z size bytes ht hi hz I T a5 Z M n cv xs tt hA hB hs J m c news hx hl F h1 hm O D h
end Go.Proofs.YtcbcpomacdngmaaGreat
