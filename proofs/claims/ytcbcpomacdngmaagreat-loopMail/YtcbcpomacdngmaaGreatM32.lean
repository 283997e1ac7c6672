/-
  x
-/
import Derived.Test.YtcbcpomacdngmaaGreatM31
namespace Go.Proofs.YtcbcpomacdngmaaGreat
set_option maxRecDepth 100000
set_option maxHeartbeats 4000000
set_option linter.unusedVariables false
open Go.RowKit Go.ChangeShapes Go.WideShapes
def zme(K:Nat)(D:Array Value)(w:World)(R:Rl)(x:Ac)(q:Rs):Prop:=∀ (d h g:Nat) (A:RA) (V:World),WI w R d h g A V ->
 yL K (#[.pointer (some ⟨d,0,none⟩),acV x] ++ D) V fun e E=>∃ o:Int,e=.returned (.tuple #[.int .i64 o,.int .i64 q.e])/\Below w.heap.size w E/\(q.e=0->o=q.o/\∃ B:RA,E.heap[d]?=some (bxR B q.r)/\RlF w.heap.size d E B q.r)
theorem zlg(E:Int)(Q:Rl)(o:Int):(ans E Q o).e=E:=by
 unfold ans;by_cases h:E=0
 ·rw[yb h];exact h.symm
 ·rw[ya h]
theorem zlf{E:Int}(h:E=0)(Q:Rl)(o:Int):ans E Q o=⟨0,Q,o⟩:=yb h
theorem WI.rl{w V:World}{R:Rl}{d h g:Nat}{A:RA}(I:WI w R d h g A V):RlF w.heap.size d V A R :=
 ⟨I.a3,I.c3,I.t0,I.td,I.tr,fun E D=>⟨by rw[I.a0];exact I.own.st.less (fun b F=>by omega) E D,by rw[I.a1];exact zff (I.row.of_block (D.block h I.row.lt (by have:=I.h0;have:=I.dh;have:=I.th;omega))),I.cls.less (fun b F=>by omega) E D⟩⟩
theorem WI.store{w V:World}{R:Rl}{d h g:Nat}{A:RA}(I:WI w R d h g A V){a:Option Addr}{T:List Nd}(c:Nat){N:Nat}(hn:St (fun b=>b<N) (fun V=>zah V a T) V)(O:w.heap.size<=N/\d<N/\h<N/\tOf A<N) :
  Below w.heap.size w (V.setCell ⟨d,0,none⟩ (.slice a T.length c))/\(V.setCell ⟨d,0,none⟩ (.slice a T.length c)).heap[d]?=some (bxR ⟨a,A.a1,A.a2,A.a3,c,A.c1,A.c2,A.c3⟩ ⟨T,R.hs,R.i,R.t⟩)/\RlF w.heap.size d (V.setCell ⟨d,0,none⟩ (.slice a T.length c)) ⟨a,A.a1,A.a2,A.a3,c,A.c1,A.c2,A.c3⟩ ⟨T,R.hs,R.i,R.t⟩:=by
 have J:∀ X:Nat->Prop,X d->zar X V (V.setCell ⟨d,0,none⟩ (.slice a T.length c)):=fun X U=>zar.set V _ U;have D:=I.rl;refine⟨I.bel.setCell I.d0 _,zaG I.box,D.a3,D.c3,D.t0,D.td,D.tr.setOther D.td _,fun E F=>⟨hn E ((J _ O.2.1).trans (F.mono (fun b M=>?_))),(D.st E ((J _ (Or.inr (Or.inl rfl))).trans F)).2⟩⟩;have Z:b<w.heap.size\/b=d\/b=tOf A:=M;show b<N;omega
theorem zpG{V:World}{h:Nat}{hs:List (Int × Int)}(E:V.rowIs h 61 (hs.length*2) (hcF hs)){k:Nat}(D:k<hs.length)(y:Int × Int):((V.setCell ⟨h,k*2,none⟩ (.int .i64 y.1)).setCell ⟨h,k*2+1,none⟩ (.int .i64 y.2)).rowIs h 61 ((hs.set k y).length*2) (hcF (hs.set k y)):=by
 rw[List.length_set,<- zyk hs k y D];exact(E.set (k*2) _).set (k*2+1) _
theorem zpz{X:Nat->Prop}{h:Nat}(V:World)(D:X h)(o E:Nat)(u v:Value):zar X V ((V.setCell ⟨h,o,none⟩ u).setCell ⟨h,E,none⟩ v):=(zar.set V u D).trans (zar.set _ v D)
theorem WI.setHand{w V:World}{R:Rl}{d h g:Nat}{A:RA}(I:WI w R d h g A V){k:Nat}(O:k<R.hs.length)(y:Int × Int){D:World}(M:D=(V.setCell ⟨h,k*2,none⟩ (.int .i64 y.1)).setCell ⟨h,k*2+1,none⟩ (.int .i64 y.2)) :
  Below w.heap.size w D/\D.heap[d]?=some (bxR A ⟨R.s,R.hs.set k y,R.i,R.t⟩)/\RlF w.heap.size d D A ⟨R.s,R.hs.set k y,R.i,R.t⟩:=by
 subst M;have h1:=zpG I.row O y;have E:=I.box;have J:=zpz (X:=fun b=>b<w.heap.size\/b=d\/b=h\/b=tOf A) V (Or.inr (Or.inr (Or.inl rfl))) (k*2) (k*2+1) (.int .i64 y.1) (.int .i64 y.2);refine⟨(I.bel.setCell I.h0 _).setCell I.h0 _,?_,I.a3,I.c3,I.t0,I.td,(I.tr.setOther I.th _).setOther I.th _,fun D F=>⟨by rw[I.a0];exact I.own.st D (J.trans (F.mono (fun b E=>by omega))),by rw[I.a1];exact zff (h1.of_block (F.block h h1.lt (by have:=I.h0;have:=I.dh;have:=I.th;omega))),I.cls D ((J.mono (fun b E=>by omega)).trans (F.mono (fun b E=>by omega)))⟩⟩;rw[ys _ _ _ _ (Ne.symm I.dh),ys _ _ _ _ (Ne.symm I.dh),E];dsimp only[bxR];rw[List.length_set]
theorem WI.storeHand{w V:World}{R:Rl}{d h g:Nat}{A:RA}(I:WI w R d h g A V){a:Option Addr}{T:List Nd}(c:Nat){N:Nat}(hn:St (fun b=>b<N) (fun V=>zah V a T) V)(E:w.heap.size<=N/\d<N/\h<N/\tOf A<N){k:Nat}(hk:k<R.hs.length)(y:Int × Int){D:World}(hV:D=((V.setCell ⟨d,0,none⟩ (.slice a T.length c)).setCell ⟨h,k*2,none⟩ (.int .i64 y.1)).setCell ⟨h,k*2+1,none⟩ (.int .i64 y.2)) :
  Below w.heap.size w D/\D.heap[d]?=some (bxR ⟨a,A.a1,A.a2,A.a3,c,A.c1,A.c2,A.c3⟩ ⟨T,R.hs.set k y,R.i,R.t⟩)/\RlF w.heap.size d D ⟨a,A.a1,A.a2,A.a3,c,A.c1,A.c2,A.c3⟩ ⟨T,R.hs.set k y,R.i,R.t⟩:=by
 subst hV;obtain⟨U,x1,r1⟩:=I.store c hn E;have h1:=zpG (I.row.setOther (a:=⟨d,0,none⟩) I.dh (.slice a T.length c)) hk y;have M:∀ X:Nat->Prop,X d->zar X V (V.setCell ⟨d,0,none⟩ (.slice a T.length c)):=fun X J=>zar.set V _ J;have O:=fun X (J:X h)=>zpz (X:=X) (V.setCell ⟨d,0,none⟩ (.slice a T.length c)) J (k*2) (k*2+1) (.int .i64 y.1) (.int .i64 y.2);refine⟨(U.setCell I.h0 _).setCell I.h0 _,?_,r1.a3,r1.c3,r1.t0,r1.td,(r1.tr.setOther (a:=⟨h,k*2,none⟩) I.th _).setOther (a:=⟨h,k*2+1,none⟩) I.th _,fun D F=>⟨hn D (((M _ E.2.1).trans (O _ E.2.2.1)).trans (F.mono (fun b Z=>?_))),?_,I.cls D (((M _ (Or.inr (Or.inl rfl))).trans (O _ (Or.inr (Or.inr (Or.inl rfl))))).trans (F.mono (fun b E=>?_)))⟩⟩
 ·rw[ys _ _ _ _ (Ne.symm I.dh),ys _ _ _ _ (Ne.symm I.dh),x1];dsimp only[bxR];rw[List.length_set]
 ·have h4:b<w.heap.size\/b=d\/b=tOf A:=Z;show b<N;omega
 ·show zaw _ A.a1 _;rw[I.a1];exact zff (h1.of_block (F.block h h1.lt (by show ¬ (h<w.heap.size\/h=d\/h=tOf A);have:=I.h0;have:=I.dh;have:=I.th;omega)))
 ·have h4:b<w.heap.size\/b=d\/b=tOf A:=E;omega
theorem WI.setMark{w V:World}{R:Rl}{d h g:Nat}{A:RA}(I:WI w R d h g A V){k:Nat}(T:k<R.s.length)(n:Int){D:World}(M:D=V.setCell ⟨g,k*8+3,none⟩ (.int .i64 n)) :
  Below w.heap.size w D/\D.heap[d]?=some (bxR A ⟨R.s.set k { nd R.s k with m:=n },R.hs,R.i,R.t⟩)/\RlF w.heap.size d D A ⟨R.s.set k { nd R.s k with m:=n },R.hs,R.i,R.t⟩:=by
 subst M;obtain⟨F,J,hg,U⟩:=I.gs;have r1:=I.row.setOther (a:=⟨g,k*8+3,none⟩) hg (.int .i64 n);refine⟨I.bel.setCell F _,?_,I.a3,I.c3,I.t0,I.td,I.tr.setOther U _,fun D E=>⟨by rw[I.a0];exact(I.own.mark T n).st D (E.mono (fun b O=>by omega)),by rw[I.a1];exact zff (r1.of_block (E.block h r1.lt (by have:=I.h0;have:=I.dh;have:=I.th;omega))),I.cls D ((zar.set V _ (by omega)).trans (E.mono (fun b O=>by omega)))⟩⟩;rw[ys _ _ _ _ (Ne.symm J),I.box];dsimp only[bxR];rw[List.length_set]
theorem zAD{V D w3:World}{a:Option Addr}{T:List Nd}(c t:Nat)(E:Below V.heap.size V D)(F:Below D.heap.size D w3)(J:St (fun b=>b<D.heap.size) (fun V=>zah V a T) w3) :
  Hid (Below V.heap.size V (w3.alloc (.cells #[.slice a T.length c] t)))/\Hid (St (fun b=>b<V.heap.size) (fun V=>zah V a T) (w3.alloc (.cells #[.slice a T.length c] t)))/\(w3.alloc (.cells #[.slice a T.length c] t)).cell? ⟨w3.heap.size,0,none⟩=some (.slice a T.length c)/\V.heap.size<=w3.heap.size:=by
 have b:=E.trans (F.mono E.size);have M:=E.size;exact⟨b.trans ((zaa _ _).mono b.size),(J.less (fun b I=>by show b<D.heap.size;have:b<V.heap.size:=I;omega)).off (zar.of_below (zaa _ _)),zad _ _ _ 0 rfl,b.size⟩
theorem zAE{V D w3:World}{a:Option Addr}{T:List Nd}(c:Nat){t:Nat}(E:Below V.heap.size V D)(F:Below D.heap.size D w3)(J:St (fun b=>b<D.heap.size+1) (fun V=>zah V a T) w3)(M:w3.heap[D.heap.size]?=some (.cells #[.slice none 0 0] t (0,0))) :
  Hid (Below V.heap.size V (w3.setCell ⟨D.heap.size,0,none⟩ (.slice a T.length c)))/\Hid (St (fun b=>b<V.heap.size) (fun V=>zah V a T) (w3.setCell ⟨D.heap.size,0,none⟩ (.slice a T.length c)))/\(w3.setCell ⟨D.heap.size,0,none⟩ (.slice a T.length c)).cell? ⟨D.heap.size,0,none⟩=some (.slice a T.length c)/\V.heap.size<=D.heap.size:=by
 have b:=E.trans (F.mono E.size);have O:=E.size;exact⟨b.setCell E.size _,(J.off (zar.set w3 _ (by show D.heap.size<D.heap.size+1;omega))).less (fun b I=>by show b<D.heap.size+1;have:b<V.heap.size:=I;omega),zaI (zaG (i:=0) M),E.size⟩
theorem zkw(F:Nat)(eg:∀ args w,(callFunc F args).run Tryz.prog w=.ok (.enter F args) w)(cb:Nat)(w:World)(hc:w.cell? ⟨cb,0,none⟩=some (.func (.func F) #[] #[]))(R:Rl)(x:Ac)(hl:R.hs.length=16)(ha:isH x.a)(T:List Nd)(E:Int)(hF:znE F R.s (rS E T) #[hdV (hd R x.a)] E) :
  zme 183 #[.pointer (some ⟨cb,0,none⟩)] w R x (ans E ⟨T,R.hs,R.i,R.t⟩ 0):=fun d h g A V I=>by
 rw[zlg];obtain⟨a0,a1,a2,a3,c0,c1,c2,c3⟩:=A;obtain rfl:a0=some ⟨g,0,none⟩:=I.a0;obtain rfl:a1=some ⟨h,0,none⟩:=I.a1;obtain⟨xk,xa,xb,xc,xn⟩:=x;obtain⟨p,hp,b2⟩:=zmh ha;dsimp only at hp;subst hp;obtain⟨u0,u1⟩:=I.hand (k:=p) (by omega);have II:Hid (WI w R d h g _ V):=I;have D:Hid (∀ W,Below V.heap.size V W->yL F #[.agg #[.slice (some ⟨g,0,none⟩) R.s.length c0],.agg #[.int .i64 (hd R (p:Int)).1,.int .i64 (hd R (p:Int)).2]] W fun e w' => ∃ a' c', e=.returned (.tuple #[.agg #[.slice a' (rS E T).length c'],.int .i64 E])/\Below W.heap.size W w' /\ St (fun b=>b<W.heap.size) (fun V=>zah V a' (rS E T)) w'):=fun W hW=>hF (some ⟨g,0,none⟩) c0 W (I.nds.below hW);have k0:=(I.bel.cell (yd _ _ hc)).trans hc;obtain⟨l0,l1,l2,l3,fz,lt⟩:=zai I.box;dsimp only at l0 l1 l2 l3;rw[hl] at l1;clear hF;generalize hd R (p:Int)=hh at *;obtain⟨P,U⟩:=hh;have a9:d<V.heap.size:=lt;have b0:h<V.heap.size:=yd _ _ u0;have a8:cb<V.heap.size:=yd _ _ k0;show yL _ #[.pointer (some ⟨d,0,none⟩),.agg #[.int .i64 xk,.int .i64 p,.int .i64 xb,.int .i64 xc,.int .i64 xn],.pointer (some ⟨cb,0,none⟩)] V _;clear hl ha I hc;obtain⟨ns,b1⟩:∃ n,R.s.length=n:=⟨_,rfl⟩;rw[b1] at D l0;have b5:(p:Int)<16:=by omega
 go_enter Tryz.func183,Tryz.ntmps183
 go_upto_region 1 with fail
 obtain⟨J,a6⟩:∃ J,V.alloc (.cells #[.int .i64 xk,.int .i64 p,.int .i64 xb,.int .i64 xc,.int .i64 xn] 36)=J:=⟨_,rfl⟩;have BV:Hid (Below V.heap.size V J):=by rw[<- a6];exact zaa _ _
 have y1:J.cell? ⟨V.heap.size,1,none⟩=some (.int .i64 p):=by rw[<- a6];exact zad _ _ _ 1 rfl
 have sV:V.heap.size<J.heap.size:=yd _ _ y1;rw[a6];clear a6;replace u0:=zab u0 BV.out;replace u1:=zab u1 BV.out;replace l0:=zab l0 BV.out;replace l1:=zab l1 BV.out;replace k0:=zab k0 BV.out;have b4:d<V.heap.size:=lt;have n1:¬ J.heap.size=cb:=by omega
 have n2:¬ J.heap.size=d:=by omega
 have n3:¬ J.heap.size=h:=by omega
 have n4:¬ J.heap.size=V.heap.size:=by omega
 have b6:¬ cb=J.heap.size:=by omega
 have b7:¬ d=J.heap.size:=by omega
 have b8:¬ h=J.heap.size:=by omega
 have b9:¬ V.heap.size=J.heap.size:=by omega
 replace a9:d<J.heap.size:=by omega
 replace b0:h<J.heap.size:=by omega
 replace a8:cb<J.heap.size:=by omega
 clear l2 l3 fz lt
 go_cut [7,8] (fun s7 s8 wx=>∃ (b:Nat) (a' : Option Addr) (c' : Nat),s7=.pointer (some ⟨b,0,none⟩)/\s8=.int .i64 E/\Hid (Below V.heap.size V wx)/\Hid (St (fun b=>b<V.heap.size) (fun V=>zah V a' (rS E T)) wx)/\wx.cell? ⟨b,0,none⟩=some (.slice a' (rS E T).length c')/\V.heap.size<=b)
 case first =>
  go_region_held3 (fun Z=>Z.cell? ⟨cb,0,none⟩=some (.func (.func F) #[] #[])/\Z.cell? ⟨d,0,none⟩=some (.slice (some ⟨g,0,none⟩) ns c0)/\Z.cell? ⟨d,1,none⟩=some (.slice (some ⟨h,0,none⟩) 16 c1)/\Z.cell? ⟨h,p*2,none⟩=some (.int .i64 P)/\Z.cell? ⟨h,p*2+1,none⟩=some (.int .i64 U)/\Z.cell? ⟨V.heap.size,1,none⟩=some (.int .i64 p)) (go_keep) (first|(refine ye (D.out J.drew BV.out.drew) ?_;rintro e w3 ⟨a', c', rfl,O,a5⟩;have M:Hid (Below J.heap.size J w3):=(yk _ _).drew.trans O;have N3:Hid (St (fun b=>b<J.heap.size) (fun V=>zah V a' (rS E T)) w3):=a5;have g0:=zab k0 M.out;have g1:=zab l0 M.out;have g2:=zab l1 M.out;have g3:=zab u0 M.out;have g4:=zab u1 M.out;have g5:=zab y1 M.out;clear O a5)|(refine ye (D.out (J.alloc (.cells #[.slice none 0 0] 43)).drew (BV.out.trans ((zaa J _).mono BV.out.size)).drew) ?_;rintro e w3 ⟨a', c', rfl,O,a5⟩;have M:Hid (Below J.heap.size J w3):=(zaa J _).drew.trans (O.mono (by simp));have N3:Hid (St (fun b=>b<J.heap.size+1) (fun V=>zah V a' (rS E T)) w3):=(by have h:=a5;simp only[yr,World.size_drew] at h;exact h);have g0:=zab k0 M.out;have g1:=zab l0 M.out;have g2:=zab l1 M.out;have g3:=zab u0 M.out;have g4:=zab u1 M.out;have g5:=zab y1 M.out;have X3:Hid (w3.heap[J.heap.size]?=some (.cells #[.slice none 0 0] 43 (0,0))):=zav (W:=(J.alloc (.cells #[.slice none 0 0] 43)).drew) (yK J _) O;have x3:=zaI X3.out;have xf:=zaY (o:=0) X3.out;have xl:J.heap.size<w3.heap.size:=zau X3.out;clear O a5))
  ·go_wp2_with fail
   go_meet
   case rel=>exact⟨_,_,_,rfl,rfl,zAD _ _ BV.out M.out N3.out⟩
  ·go_wp2_with fail
   go_meet
   case rel=>exact⟨_,_,_,rfl,rfl,zAE _ BV.out M.out N3.out X3.out⟩
 case rest =>
  obtain⟨b,a', c', rfl,rfl,HB,HN,a7,b3⟩:=hcut;have I2:Hid _:=II.out.below HB.out;have hS:=I2.out.store c' HN.out II.out.base;have HS:Hid _:=hS;obtain⟨m0,m1,m2,m3,mf,ml⟩:=zai I2.out.box;have bl:b<wc.heap.size:=yd _ _ a7;have c6:¬ b=d:=by omega
  clear hS II D u0 u1 l0 l1 k0 y1
  go_wp2
  refine yv (v:=.tuple #[.int .i64 0,.int .i64 E]) (by simp[results,Tryz.results183,go_sem]) rfl ⟨0,rfl,HS.out.1,fun hE=>?_⟩;rw[zlf hE];have h2:=HS.out.2;rw[hE,zhM] at h2;rw[hE,zhM];exact⟨rfl,_,h2⟩
theorem zom(a:Option Addr)(c:Nat)(L:List Fr)(k top:Int)(w:World)(I:L.length<=9223372036854775807)(F:zaS w a L) :
  yL 163 #[.slice a L.length c,.int .i64 k,.int .i64 top] w fun e w' => e=.returned (.bool ((!decide (k=top)) && inF L k top))/\w' = w:=by
 have D:Hid _:=zgl a c L k top w I F;clear F;generalize inF L k top=r at *;generalize L.length=n at *;by_cases h:k=top
 ·subst h;simp only[decide_true,Bool.not_true,Bool.false_and]
  go_enter Tryz.func163,Tryz.ntmps163
  go_wp2_with fail
  go_ret;exact⟨rfl,rfl⟩
 ·have h1:decide (k=top)=false:=yE h;have J:(k == top)=false:=by simp[h]
  have M:(k != top)=true:=by simp[h]
  rw[h1];simp only[Bool.not_false,Bool.true_and]
  go_enter Tryz.func163,Tryz.ntmps163
  go_wp2_with fail
  refine ye D.out ?_;rintro e w1 ⟨rfl,E⟩;subst E
  go_wp2_with fail
  go_ret;exact⟨rfl,rfl⟩
theorem zwf(a:Option Addr)(c:Nat)(L:List Fr)(f t:Nat)(al:Bool)(nd:Int)(T:Bool)(w:World)(hN:L.length<=1000)(U:zaS w a L)(hf:f<L.length)(ht:t<L.length) :
  yL 155 #[.agg #[.bool al,.int .i64 nd,.bool T],.slice a L.length c,.int .i64 (f:Int),.int .i64 (t:Int)] w fun e w' => e=.returned (.bool (zto L f t al nd T))/\Below w.heap.size w w' := by
 have D:Hid (∀ W,zaS W a L->_):=fun W hW=>zom a c L t f W (by omega) hW;have HL:Hid (zaS w a L):=U;obtain⟨b,o,ea,f0,f1,f2,f3,f4⟩:=U f hf;obtain⟨b', o', O,t0,t1,t2,t3,t4⟩:=U t ht;rw[ea] at O;cases O;subst ea;have a8:b<w.heap.size:=yd _ _ f0;have a7:(f:Int)<(L.length:Int):=by omega
 have a9:(t:Int)<(L.length:Int):=by omega
 unfold zto;rw[yi,yi];clear U f0 f3 f4 t0 t2 t3 t4;generalize ((!decide ((t:Int)=(f:Int))) && inF L t f)=r at *;generalize fr L f=x at *;generalize fr L t=y at *;obtain⟨xp,Z,F,xt,xg⟩:=x;obtain⟨yp,yo,ym,yt,yg⟩:=y;dsimp only at f1 f2 t1 |-;generalize L.length=n at *;cases al
 ·simp only[Bool.not_false,Bool.true_or,Bool.true_and];by_cases J:bits .andNot .i64 nd F=0
  ·have E:decide (bits .andNot .i64 nd F=0)=true:=yF J;rw[E];simp only[Bool.true_and];cases T
   ·simp only[Bool.not_false,Bool.true_or]
    go_enter Tryz.func155,Tryz.ntmps155
    go_wp2_with fail
    go_big_quiet (fail)
    go_wp2_with fail
    go_big_quiet (fail)
    go_wp2_with fail
    go_ret;exact⟨rfl,zcZ (zaa w _) _⟩
   ·simp only[Bool.not_true,Bool.false_or]
    go_enter Tryz.func155,Tryz.ntmps155
    go_wp2_with fail
    go_big_quiet (fail)
    go_wp2_with fail
    go_big_quiet (fail)
    go_wp2_with fail
    refine ye (D.out _ (HL.out.below (zcZ (zaa w _) _))) ?_;rintro e w1 ⟨rfl,M⟩;subst M
    go_wp2_with fail
    go_ret;exact⟨rfl,zcZ (zaa w _) _⟩
  ·have E:decide (bits .andNot .i64 nd F=0)=false:=yE J;have a5:(bits .andNot .i64 nd F != 0)=true:=(by simp[J]);rw[E];simp only[Bool.false_and]
   go_enter Tryz.func155,Tryz.ntmps155
   go_wp2_with fail
   go_big_quiet (fail)
   go_wp2_with fail
   go_big_quiet (fail)
   go_wp2_with fail
   go_ret;exact⟨rfl,zcZ (zcZ (zaa w _) _) _⟩
 ·by_cases h1:Z=yo
  ·have I:decide (Z=yo)=true:=yF h1;rw[I];simp only[Bool.not_true,Bool.false_or,Bool.true_and];subst h1;by_cases J:bits .andNot .i64 nd F=0
   ·have E:decide (bits .andNot .i64 nd F=0)=true:=yF J;rw[E];simp only[Bool.true_and];cases T
    ·simp only[Bool.not_false,Bool.true_or]
     go_enter Tryz.func155,Tryz.ntmps155
     go_wp2_with fail
     go_big_quiet (fail)
     go_wp2_with fail
     go_big_quiet (fail)
     go_wp2_with fail
     go_ret;exact⟨rfl,zcZ (zaa w _) _⟩
    ·simp only[Bool.not_true,Bool.false_or]
     go_enter Tryz.func155,Tryz.ntmps155
     go_wp2_with fail
     go_big_quiet (fail)
     go_wp2_with fail
     go_big_quiet (fail)
     go_wp2_with fail
     refine ye (D.out _ (HL.out.below (zcZ (zaa w _) _))) ?_;rintro e w1 ⟨rfl,M⟩;subst M
     go_wp2_with fail
     go_ret;exact⟨rfl,zcZ (zaa w _) _⟩
   ·have E:decide (bits .andNot .i64 nd F=0)=false:=yE J;have a5:(bits .andNot .i64 nd F != 0)=true:=(by simp[J]);rw[E];simp only[Bool.false_and]
    go_enter Tryz.func155,Tryz.ntmps155
    go_wp2_with fail
    go_big_quiet (fail)
    go_wp2_with fail
    go_big_quiet (fail)
    go_wp2_with fail
    go_ret;exact⟨rfl,zcZ (zcZ (zaa w _) _) _⟩
  ·have I:decide (Z=yo)=false:=yE h1;have a6:(Z != yo)=true:=(by simp[h1]);rw[I];simp only[Bool.not_true,Bool.false_or,Bool.false_and]
   go_enter Tryz.func155,Tryz.ntmps155
   go_wp2_with fail
   go_big_quiet (fail)
   go_wp2_with fail
   go_ret;exact⟨rfl,zcZ (zaa w _) _⟩
abbrev rv(r:Bool × Int × Bool):Value:=.agg #[.bool r.1,.int .i64 r.2.1,.bool r.2.2]
def zeZ(n:Int):Lit->Option Value
 | .int .i64 k=>if k<=n then (zhe k).map rv else none
 | _=>none
theorem znj(n k:Int):zeZ n (.int .i64 k)=if k<=n then (zhe k).map rv else none:=rfl
theorem zfx{n:Int}(j:Lit)(h:j≠.int .i64 (n+1)):zeZ (n+1) j=zeZ n j:=by
 unfold zeZ;split
 ·rename_i k;have E:k≠n+1:=fun e=>h (by rw[e]);by_cases D:k<=n
  ·rw[yb D,yb (by omega)]
  ·rw[ya D,ya (by omega)]
 ·rfl
theorem zrp(j:Lit):zeZ 0 j=none:=by
 unfold zeZ;split
 ·rename_i k;by_cases D:k<=0
  ·rw[yb D,zjy.2 (by omega)];rfl
  ·rw[ya D]
 ·rfl
theorem zgo{k:Int}(h:(Lit.int .i64 k).wf=true):keyOf Tryz.prog 3 (.int .i64 k)=some (.int .i64 k):=Maps.keyOf_int_mk Tryz.underlying3 h
theorem znk(w:World) :
  yL 154 #[] w fun e w' => ∃ b,e=.returned (.map (some b))/\zcw Tryz.prog 3 w' b 5 (zeZ 5)/\Below w.heap.size w w' := by
 have a5:=@run_makeMap Tryz.prog;have m0:zcw Tryz.prog 3 (w.alloc (.map #[] 0)) w.heap.size 0 (zeZ 0):=(zcw.made Tryz.prog 3 w).congr (fun kl _=>(zrp kl).symm);obtain⟨w1,p1,k1,g1⟩:=m0.put (Maps.int_keyed Tryz.underlying3) (t:=201) Tryz.underlying201 (by unfold maxLen;omega) (zgo (k:=1) (by decide)) trivial (rv (true,0,false));have m1:=k1 (zeZ 1) rfl (fun j D=>zfx (n:=0) j D);obtain⟨w2,p2,k2,g2⟩:=m1.put (Maps.int_keyed Tryz.underlying3) (t:=201) Tryz.underlying201 (by unfold maxLen;omega) (zgo (k:=2) (by decide)) trivial (rv (false,0,false));have m2:=k2 (zeZ 2) rfl (fun j D=>zfx (n:=1) j D);obtain⟨w3,p3,k3,g3⟩:=m2.put (Maps.int_keyed Tryz.underlying3) (t:=201) Tryz.underlying201 (by unfold maxLen;omega) (zgo (k:=3) (by decide)) trivial (rv (false,2,false));have m3:=k3 (zeZ 3) rfl (fun j D=>zfx (n:=2) j D);obtain⟨w4,p4,k4,T⟩:=m3.put (Maps.int_keyed Tryz.underlying3) (t:=201) Tryz.underlying201 (by unfold maxLen;omega) (zgo (k:=4) (by decide)) trivial (rv (false,0,true));have m4:=k4 (zeZ 4) rfl (fun j D=>zfx (n:=3) j D);obtain⟨w5,p5,k5,U⟩:=m4.put (Maps.int_keyed Tryz.underlying3) (t:=201) Tryz.underlying201 (by unfold maxLen;omega) (zgo (k:=5) (by decide)) trivial (rv (false,0,true));have m5:=k5 (zeZ 5) rfl (fun j D=>zfx (n:=4) j D);have up:∀ {x y:World},x.grownBy y (some w.heap.size)->w.heap.size<=x.heap.size->Below w.heap.size x y:=fun h _=>⟨h.os,h.tape,h.output,h.size,fun k hk=>h.block k (by omega) (by intro e;have:=Option.some.inj e;omega)⟩
 have E:Below w.heap.size w (w.alloc (.map #[] 0)):=zaa w _;have F:=E.trans (up g1 E.size);have I:=F.trans (up g2 F.size);have J:=I.trans (up g3 I.size);have O:=J.trans (up T J.size);have z5:=O.trans (up U O.size);have M:Hid (zcw Tryz.prog 3 w5 w.heap.size 5 (zeZ 5)):=m5;have Z:Hid (Below w.heap.size w w5):=z5;clear m0 m1 m2 m3 m4 m5 k1 k2 k3 k4 k5 g1 g2 g3 T U E F I J O z5 up;dsimp only[rv] at p1 p2 p3 p4 p5
 go_enter Tryz.func154,Tryz.ntmps154
 go_wp2_with fail
 go_ret;exact⟨_,rfl,M.out,Z.out⟩
def zmg(L:List Fr)(k:Int)(i:Nat):List Fr:=(List.range L.length).map fun j=>if j<i then { fr L j with g:=(fr L j).g || inF L j k } else fr L j
theorem zlu(L:List Fr)(k:Int)(i:Nat):(zmg L k i).length=L.length:=by unfold zmg;simp
theorem zgg{L:List Fr}{k:Int}{i j:Nat}(h:j<L.length):fr (zmg L k i) j=if j<i then { fr L j with g:=(fr L j).g || inF L j k } else fr L j:=by
 rw[zgk (by rw[zlu];exact h)];unfold zmg;simp
theorem zvr(L:List Fr)(k:Int):zmg L k L.length=zjR L k:=by
 refine zzv (by rw[zlu,zdu]) (fun i hi=>?_);rw[zlu] at hi;rw[zgg hi,yb hi,zpf hi]
def zeW(w:World)(g n:Nat)(L:List Fr):Prop:=∃ F,w.rowIs g 65 (n*5) F/\∀ m,m<n*5->F m=frF L m
theorem zeW.start{w:World}{g:Nat}{L:List Fr}{k:Int}(h:zeW w g L.length L):zeW w g L.length (zmg L k 0):=by
 obtain⟨F,h1,D⟩:=h;exact⟨F,h1,fun m E=>(D m E).trans (zgS (by rw[zgg (by omega),ya (by omega)]))⟩
theorem zeW.no{w:World}{g i:Nat}{L:List Fr}{k:Int}(h:zeW w g L.length (zmg L k i))(hi:i<L.length)(D:inF L i k=false):zeW w g L.length (zmg L k (i+1)):=by
 obtain⟨F,h1,I⟩:=h;refine⟨F,h1,fun m J=>(I m J).trans (zgS ?_)⟩;rw[zgg (by omega),zgg (by omega)];by_cases e:m / 5<i
 ·rw[yb e,yb (by omega)]
 ·by_cases E:m / 5=i
  ·rw[E,ya (by omega),yb (by omega),D,Bool.or_false]
  ·rw[ya e,ya (by omega)]
theorem zeW.yes{w:World}{g i:Nat}{L:List Fr}{k:Int}(h:zeW w g L.length (zmg L k i))(hi:i<L.length)(E:inF L i k=true):zeW (w.setCell ⟨g,i*5+4,none⟩ (.bool true)) g L.length (zmg L k (i+1)):=by
 obtain⟨F,h1,M⟩:=h;refine⟨_,h1.set (i*5+4) (.bool true),fun m O=>?_⟩;by_cases e:m=i*5+4
 ·subst e;rw[yb rfl,zdx _ _ 4 (by omega),zgg hi,yb (by omega),E,Bool.or_true];rfl
 ·rw[ya e,M m O];unfold frF;rw[zgg (by omega),zgg (by omega)];by_cases I:m / 5<i
  ·rw[yb I,yb (by omega)]
  ·by_cases J:m / 5=i
   ·rw[J,ya (by omega),yb (by omega)];have D:m % 5=0\/m % 5=1\/m % 5=2\/m % 5=3:=(by omega);rcases D with D|D|D|D <;> rw[D] <;> rfl
   ·rw[ya I,ya (by omega)]
theorem zqr(a:Option Addr)(c:Nat)(L:List Fr)(k:Int)(w:World)(hN:L.length<=8)(hL:zaS w a L)(hE:zcs L k=0) :
  yL 140 #[.slice a L.length c,.int .i64 k] w fun e w' => ∃ g,e=.returned (.tuple #[.slice (some ⟨g,0,none⟩) L.length L.length,.int .i64 0])/\Below w.heap.size w w' /\ w.heap.size<=g/\zaS w' (some ⟨g,0,none⟩) (zjR L k):=by
 have d:=zeA a c L k w (by omega) hL;rw[hE] at d;have D:Hid _:=d;obtain⟨R,q,rfl,hq,hg⟩:=zfg hE;have HL:Hid (zaS w a L):=hL;obtain⟨b,ao,ea,c0,c1,c2,c3,c4⟩:=hL q hq;subst ea;clear c0 c1 c2 c3 c4 hg hE R d hL hq;have DW:Hid (∀ (i:Nat) (W:World),zaS W (some ⟨b,ao,none⟩) L->_):=fun i W hW=>zgl (some ⟨b,ao,none⟩) c L (i:Int) (q:Int) W (by omega) hW;obtain⟨i0,b8,d5,c7,d6⟩:=info_parts ziZ;have c6:=zkL L.length (by omega);have b7:Hid (∀ W,zaS W (some ⟨b,ao,none⟩) L->∀ j v,(zbA L)[j]?=some v->W.cell? ((⟨b,ao,none⟩:Addr).add j)=some v):=fun W hW=>hW.src;have b6:Hid _:=zhv L;have a6:Hid ((zbA L).length=L.length*5):=zdY L;have CP:Hid (∀ (W:World) (g:Nat),W.heap[g]?=some (.cells (zbA L++(madeCells zeu (L.length*5)).toList.drop (zbA L).length).toArray 65 (0,0))->zeW W g L.length (zmg L q 0)):=fun W g hg=>zeW.start (by obtain⟨F,h1,O⟩:=zky hg (yj _);exact⟨F,h1,O⟩);have b2:Hid (∀ (W:World) (g i:Nat),zeW W g L.length (zmg L q i)->i<L.length->inF L i q=true->zeW (W.setCell ⟨g,i*5+4,none⟩ (.bool true)) g L.length (zmg L q (i+1))):=fun W g i h1 O h3=>h1.yes O h3;have NO:Hid (∀ (W:World) (g i:Nat),zeW W g L.length (zmg L q i)->i<L.length->inF L i q=false->zeW W g L.length (zmg L q (i+1))):=fun W g i h1 O h3=>h1.no O h3
 have b0:Hid (∀ (W:World) (g:Nat),zeW W g L.length (zmg L q L.length)->zaS W (some ⟨g,0,none⟩) (zjR L q)):=fun W g ⟨F,h1,O⟩=>by
  rw[zvr] at O;exact zhy h1 (by rw[zdu];exact yj _) (fun m hm=>O m (by rw[zdu] at hm;exact hm))
 have T:Hid (∀ (W:World) (g i:Nat) (M:List Fr),zeW W g L.length M->i<L.length->(∃ u,W.cell? ⟨g,i*5+4,none⟩=some u)/\(∀ o,W.frozen? ⟨g,o,none⟩=false)/\g<W.heap.size):=fun W g i M ⟨F,h1,O⟩ hi=>⟨⟨_,h1.cell (by omega)⟩,h1.frozen,h1.lt⟩;generalize zbA L=cs at *;generalize zjR L q=DF at *;obtain⟨n,hn⟩:∃ n,L.length=n:=⟨_,rfl⟩;have HN:Hid (L.length=n):=hn;rw[hn] at hN D DW c6 a6 CP b2 NO b0 T |-;clear hn
 go_enter Tryz.func140,Tryz.ntmps140
 go_wp2_with fail
 refine ye D.out ?_;rintro e w1 ⟨rfl,a7⟩;have Z:Hid (Below w.heap.size w w1):=a7;have b1:Hid (zaS w1 (some ⟨b,ao,none⟩) L):=HL.out.below a7;clear a7
 have HG:Hid ((w1.alloc (.cells (madeCells zeu (n*5)) 65)).heap[w1.heap.size]?=some (.cells (madeCells zeu (n*5)).toList.toArray 65 (0,0))):=by
  have:=yK w1 (.cells (madeCells zeu (n*5)) 65);show _=_;simpa using this
 go_wp2_with (refine zcY rfl (.tmp 18) (.tmp 19) 22 22 rfl 65 i0 Tryz.underlying22 b8 w1.heap.size 0 n n ⟨b,ao,none⟩ n c n ?hd ?hs (madeCells zeu (n*5)).toList 65 ?hg cs ?hn ?hl ?hsrc ?hfit ?h1 ?_)
 case hd=>rfl
 case hs=>rfl
 case hg=>exact HG.out
 case hn=>show n=min n n;omega
 case hl=>rw[a6.out,c7]
 case hsrc=>exact b7.out _ (b1.out.below (zaa _ _))
 case hfit=>rw[a6.out];simp[size_madeCells]
 case h1=>exact b6.out
 intro w3 b4 b3;have b5:Hid (Below w1.heap.size w1 w3):=b3 _ _ (zaa w1 _) (yj _);have HR:Hid (zeW w3 w1.heap.size n (zmg L q 0)):=CP.out w3 _ b4;clear b4 b3 HG
 go_wp2_with fail
 go_loopg [23] n (fun g s23 wr=>∃ i:Nat,i<=n/\n-i<=g/\s23=.int .i64 i/\Hid (Below w1.heap.size w1 wr)/\Hid (zeW wr w1.heap.size n (zmg L q i)))
 case atStart=>exact⟨0,by omega,by omega,rfl,b5,HR⟩
 case round =>
  obtain⟨i,hi,hg,rfl,J,E⟩:=hrel;clear HR;by_cases a8:i<n
  ·have c8:(i:Int)<(n:Int):=(by omega);have DI:=DW.out i wr (b1.out.below J.out);obtain⟨⟨u,hu⟩,c9,d4⟩:=T.out wr _ i _ E.out a8
   cases hin:inF L (i:Int) (q:Int) with
   | true =>
    rw[hin] at DI;have U:Hid _:=DI;have a5:Hid _:=b2.out wr _ i E.out a8 hin;clear hin DI
    go_wp2_with fail
    refine ye U.out ?_;rintro e w4 ⟨rfl,I⟩;have a9:=I.symm;clear I;subst a9
    go_wp2_with fail
    go_roundg (n-(i+1))
    case measure=>omega
    case rel=>exact⟨i+1,by omega,by omega,by go_num,J.out.setCell (yj _) _,a5⟩
   | false =>
    rw[hin] at DI;have U:Hid _:=DI;have a5:Hid _:=NO.out wr _ i E.out a8 hin;clear hin DI
    go_wp2_with fail
    refine ye U.out ?_;rintro e w4 ⟨rfl,I⟩;have a9:=I.symm;clear I;subst a9
    go_wp2_with fail
    go_roundg (n-(i+1))
    case measure=>omega
    case rel=>exact⟨i+1,by omega,by omega,by go_num,J,a5⟩
  ·have b9:i=n:=(by omega);subst b9;have HF:Hid _:=b0.out wr _ E.out;clear E
   go_wp2_with fail
   exact yv (v:=.tuple #[.slice (some ⟨w1.heap.size,0,none⟩) i i,.int .i64 0]) (by simp[results,Tryz.results140,go_sem]) rfl ⟨_,rfl,Z.out.trans (J.out.mono Z.out.size),Z.out.size,HF.out⟩
def zAF(L:List Fr)(k:Int):Int:=if zcs L k=0 then (zki L k:Nat) else 0
theorem zqT(a:Option Addr)(c:Nat)(L:List Fr)(k:Int)(w:World)(F:L.length<=9223372036854775807)(E:zaS w a L) :
  yL 138 #[.slice a L.length c,.int .i64 k] w fun e w' => e=.returned (.tuple #[.int .i64 (zAF L k),.int .i64 (zcs L k)])/\Below w.heap.size w w' := by
 unfold zAF;by_cases D:zcs L k=0
 ·rw[yb D,D];exact ztn a c L k w (zfg D).1.few E D
 ·rw[ya D];exact zqU a c L k w F E D
end Go.Proofs.YtcbcpomacdngmaaGreat
