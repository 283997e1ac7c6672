/-
  x
-/
import Derived.Test.YtgjfmepbphfjoaaGreatQ41
namespace Go.Proofs.YtgjfmepbphfjoaaGreat
set_option maxRecDepth 100000
set_option maxHeartbeats 4000000
set_option linter.unusedVariables false
open Go.RowKit
def zkJ:Prop:=∀ (A B:RA) (R Q:Rl) (w:World),ziu R->zaS w A R->zaS w B Q ->
 Calls Tryz.prog 13 #[rlV A R,rlV B Q] w fun e w' => ∃ r:Bool,e=.returned (.bool r)/\Below w.heap.size w w' /\(r=true↔R=Q)
structure zeP (w:World) (xk xq xr xs xn:Int) (A B N Y:RA) (R Q NR YR:Rl) (nb yb:Nat) (V:World):Prop where
 bel:Below w.heap.size w V
 r:V.heap[w.heap.size]?=some (bxR A R)
 x:V.heap[w.heap.size+1]?=some (.cells #[.int .i64 xk,.int .i64 xq,.int .i64 xr,.int .i64 xs,.int .i64 xn] 41 (0,0))
 q:V.heap[w.heap.size+1+1]?=some (bxR B Q)
 n:V.heap[nb]?=some (bxR N NR)
 y:V.heap[yb]?=some (bxR Y YR)
 hr:zaS V A R
 hq:zaS V B Q
 hn:zaS V N NR
 hy:zaS V Y YR
theorem zeP.below{w:World}{T Z xr xs U:Int}{A B N Y:RA}{R Q F M:Rl}{O yb:Nat}{V J:World}(I:zeP w T Z xr xs U A B N Y R Q F M O yb V)(D:Below V.heap.size V J):zeP w T Z xr xs U A B N Y R Q F M O yb J :=
 ⟨I.bel.trans (D.mono I.bel.size),zaU I.r D,zaU I.x D,zaU I.q D,zaU I.n D,zaU I.y D,I.hr.below D,I.hq.below D,I.hn.below D,I.hy.below D⟩
theorem zeP.off{w:World}{Z xq xr xs xn:Int}{A B N Y:RA}{R Q T U:Rl}{M O F:Nat}{V J:World}(I:zeP w Z xq xr xs xn A B N Y R Q T U M O V)(hs:SlB V F)(D:zfZ F V J)(h0:w.heap.size+1+1<F)(h1:M≠F)(h2:O≠F)(hb:Below w.heap.size w J):zeP w Z xq xr xs xn A B N Y R Q T U M O J :=
 ⟨hb,zol I.r D (by omega),zol I.x D (by omega),zol I.q D (by omega),zol I.n D h1,zol I.y D h2,I.hr.offB hs D,I.hq.offB hs D,I.hn.offB hs D,I.hy.offB hs D⟩
theorem zeK(W:World):∀ j,j<8->(W.alloc (.cells #[.bool false,.int .i64 0,.int .i64 0,.int .i64 0,.int .i64 (-1),.slice none 0 0,.int .i64 (-1),.bool false] 47)).cell? ⟨W.heap.size,j,none⟩=some (zra j):=fun j w =>
 zad W _ _ j (by
  match j,w with
  | 0,_=>rfl
  | 1,_=>rfl
  | 2,_=>rfl
  | 3,_=>rfl
  | 4,_=>rfl
  | 5,_=>rfl
  | 6,_=>rfl
  | 7,_=>rfl)
theorem zql(p:Int):ziu (zje p):=by
 unfold zje;split
 ·rename_i h;have wf:=zsA p.toNat (by omega);exact⟨by rw[List.length_replicate];omega,wf.big,by rw[List.length_replicate];omega,Nat.zero_le _,fun _ h=>absurd h (yr _),Nat.zero_le _⟩
 ·exact zkP
theorem zih(hC:zbW)(hN:zkI)(hD:zps)(hK:ziw)(hS:zkJ)(A B:RA)(R Q:Rl)(x:Ac)(pl:Int)(w:World)(hB:ziu R)(hL:zaS w A R)(j4:zaS w B Q) :
  Calls Tryz.prog 4 #[rlV A R,acV x,.int .i64 pl,rlV B Q] w fun e w' => e=.returned (.bool true)/\Below w.heap.size w w' := by
 obtain⟨a0,a1,a2,a3,c0,c1,c2,c3⟩:=A;obtain⟨b0,b1,b2,b3,d0,d1,d2,d3⟩:=B;obtain⟨xk,xq,xr,xs,xn⟩:=x;have D1:Hid (∀ W,_):=fun W=>zqZ hN (R:=zje pl) (E:=zqk pl) rfl rfl W;have DH:Hid zkH:=zof hN hD;obtain⟨⟨fE,O,fo⟩,b4⟩:∃ s,doF R ⟨xk,xq,xr,xs,xn⟩=s:=⟨_,rfl⟩;have D2:Hid _:=znG hD (x:=⟨xk,xq,xr,xs,xn⟩) hB b4 a0 a1 a2 a3 c0 c1 c2 c3;have D3:Hid (∀ W,zaS W ⟨a0,a1,a2,a3,c0,c1,c2,c3⟩ R->_):=fun W hW=>zks hC ⟨a0,a1,a2,a3,c0,c1,c2,c3⟩ R W hB hW;have D4:Hid (∀ W,zaS W ⟨a0,a1,a2,a3,c0,c1,c2,c3⟩ R->_):=fun W hW=>hK ⟨a0,a1,a2,a3,c0,c1,c2,c3⟩ R W hB hW;have D5:Hid (∀ W,zaS W ⟨a0,a1,a2,a3,c0,c1,c2,c3⟩ R->zaS W ⟨b0,b1,b2,b3,d0,d1,d2,d3⟩ Q->_):=fun W h1 h2=>hS ⟨a0,a1,a2,a3,c0,c1,c2,c3⟩ ⟨b0,b1,b2,b3,d0,d1,d2,d3⟩ R Q W hB h1 h2;have D6:Hid (∀ W,zaS W ⟨a0,a1,a2,a3,c0,c1,c2,c3⟩ R->zaS W ⟨b0,b1,b2,b3,d0,d1,d2,d3⟩ Q->_):=fun W h1 h2=>zfJ ⟨a0,a1,a2,a3,c0,c1,c2,c3⟩ ⟨b0,b1,b2,b3,d0,d1,d2,d3⟩ R Q W hB h1 h2;have i4:=zql pl;have i5:ziu O:=by have:=zkO R ⟨xk,xq,xr,xs,xn⟩;rw[b4] at this;exact this
 have D7:Hid (∀ (N F:RA) W,zaS W N (zje pl)->zaS W F (zje pl)->_):=fun N F W h1 h2=>zfJ N F (zje pl) (zje pl) W i4 h1 h2;have D8:Hid (∀ (Y Z:RA) (YG:Rl) W,zaS W Y O->zaS W Z YG->_):=fun Y Z YG W h1 h2=>zfJ Y Z O YG W i5 h1 h2
 have FF:Hid (zaB R≠0->fE=zaB R/\fo=0/\O=zaW):=fun h=>by
  unfold doF at b4;rw[ya h] at b4;cases b4;exact⟨rfl,rfl,rfl⟩
 have DG:Hid (zaB R=0->∀ W,zaS W ⟨a0,a1,a2,a3,c0,c1,c2,c3⟩ R->Calls Tryz.prog 16 #[.agg #[.slice a0 R.s.length c0,.slice a1 R.hs.length c1,.slice a2 R.i.length c2,.slice a3 R.t.length c3],.agg #[.int .i64 xk,.int .i64 xq,.int .i64 xr,.int .i64 xs,.int .i64 xn]] W fun e w' => ∃ (z0 z1 z2 z3:Option Addr) (h0 h1 h2 h3:Nat),e=.returned (.tuple #[.agg #[.slice z0 O.s.length h0,.slice z1 O.hs.length h1,.slice z2 O.i.length h2,.slice z3 O.t.length h3],.int .i64 fo,.int .i64 fE])/\Below W.heap.size W w' /\ zaS w' ⟨z0,z1,z2,z3,h0,h1,h2,h3⟩ O):=fun h W hW=>by
  refine(zoY hC ⟨a0,a1,a2,a3,c0,c1,c2,c3⟩ R ⟨xk,xq,xr,xs,xn⟩ W h hW).mono ?_;rintro e w' ⟨⟨z0,z1,z2,z3,h0,h1,h2,h3⟩,e1,hb,hr⟩;unfold doF at b4;rw[yd h] at b4;rw[b4] at e1 hr;exact⟨z0,z1,z2,z3,h0,h1,h2,h3,e1,hb,hr⟩
 have HL:Hid (zaS w ⟨a0,a1,a2,a3,c0,c1,c2,c3⟩ R):=hL;have HQ:Hid (zaS w ⟨b0,b1,b2,b3,d0,d1,d2,d3⟩ Q):=j4
 have d9:Hid ((¬ (0<=pl/\pl<=24)->zqk pl=2/\zje pl=zaW)/\∀ m:Nat,pl=m->m<=24->zqk pl=0/\zje pl=⟨List.replicate m zaL,List.replicate 16 (0,0),[],[]⟩):=⟨fun h=>⟨ya h,ya h⟩,fun m e h=>by
  subst e;have h2:0<=(m:Int)/\(m:Int)<=24:=by omega
  exact⟨yd h2,by unfold zje;rw[yd h2,yg]⟩⟩
 clear hL j4 hC hN hD hK hS hB b4 i4 i5;dsimp only[rlV,acV];generalize zje pl=NR at *;generalize zqk pl=NE at *;generalize zaB R=BE at *
 go_enter Tryz.func4,Tryz.ntmps4
 go_wp2_with fail
 refine yf (D1.out _) ?_;rintro e U ⟨n0,n1,n2,n3,m0,m1,m2,m3,rfl,e7,j7⟩;have g9:Below w.heap.size w (((w.alloc (.cells #[.slice a0 R.s.length c0,.slice a1 R.hs.length c1,.slice a2 R.i.length c2,.slice a3 R.t.length c3] 31)).alloc (.cells #[.int .i64 xk,.int .i64 xq,.int .i64 xr,.int .i64 xs,.int .i64 xn] 41)).alloc (.cells #[.slice b0 Q.s.length d0,.slice b1 Q.hs.length d1,.slice b2 Q.i.length d2,.slice b3 Q.t.length d3] 31)):=(zai w _ _).trans ((zab _ _).mono (by first|(simp;done)|(simp;omega)));have d6:Hid (Below w.heap.size w U):=g9.trans (e7.mono g9.size);have br:U.heap[w.heap.size]?=some (bxR ⟨a0,a1,a2,a3,c0,c1,c2,c3⟩ R):=(e7.block _ (by first|(simp;done)|(simp;omega))).trans (((zab _ _).block _ (by first|(simp;done)|(simp;omega))).trans (((zab _ _).block _ (by simp)).trans (zbS _ _ _ _ _ _)));have h4:U.heap[w.heap.size+1]?=some (.cells #[.int .i64 xk,.int .i64 xq,.int .i64 xr,.int .i64 xs,.int .i64 xn] 41 (0,0)):=(e7.block _ (by first|(simp;done)|(simp;omega))).trans (((zab _ _).block _ (by simp)).trans (by simpa using heap_alloc_new (w.alloc (.cells #[.slice a0 R.s.length c0,.slice a1 R.hs.length c1,.slice a2 R.i.length c2,.slice a3 R.t.length c3] 31)) (.cells #[.int .i64 xk,.int .i64 xq,.int .i64 xr,.int .i64 xs,.int .i64 xn] 41)))
 have bq:U.heap[w.heap.size+1+1]?=some (bxR ⟨b0,b1,b2,b3,d0,d1,d2,d3⟩ Q):=(e7.block _ (by simp)).trans (by simpa using heap_alloc_new ((w.alloc (.cells #[.slice a0 R.s.length c0,.slice a1 R.hs.length c1,.slice a2 R.i.length c2,.slice a3 R.t.length c3] 31)).alloc (.cells #[.int .i64 xk,.int .i64 xq,.int .i64 xr,.int .i64 xs,.int .i64 xn] 41)) (.cells #[.slice b0 Q.s.length d0,.slice b1 Q.hs.length d1,.slice b2 Q.i.length d2,.slice b3 Q.t.length d3] 31));have g8:Hid (zaS U ⟨a0,a1,a2,a3,c0,c1,c2,c3⟩ R):=HL.out.below d6.out;have j2:Hid (zaS U ⟨b0,b1,b2,b3,d0,d1,d2,d3⟩ Q):=HQ.out.below d6.out;have j0:Hid (zaS U ⟨n0,n1,n2,n3,m0,m1,m2,m3⟩ NR):=j7;have i6:Hid _:=br;have i7:Hid _:=h4;have g5:Hid _:=bq;have l0:U.cell? ⟨w.heap.size,0,none⟩=some (.slice a0 R.s.length c0):=(zaa br).1;have l1:U.cell? ⟨w.heap.size,1,none⟩=some (.slice a1 R.hs.length c1):=(zaa br).2.1;have l2:U.cell? ⟨w.heap.size,2,none⟩=some (.slice a2 R.i.length c2):=(zaa br).2.2.1;have l3:U.cell? ⟨w.heap.size,3,none⟩=some (.slice a3 R.t.length c3):=(zaa br).2.2.2.1;have ll:w.heap.size<U.heap.size:=zaC br;obtain⟨x0,x1,x2,x3,x4,xl⟩:=zaN h4;clear e7 j7 br h4 bq g9
 go_wp2_with fail
 refine yf (D2.out _ (g8.out.below (zab _ _))) ?_;rintro e w2 ⟨y0,y1,y2,y3,e0,e1,e2,e3,rfl,h6,k6⟩;have b8:Below U.heap.size U w2:=(zab _ _).trans (h6.mono (by simp));have bn:w2.heap[U.heap.size]?=some (bxR ⟨n0,n1,n2,n3,m0,m1,m2,m3⟩ NR):=(h6.block _ (by simp)).trans (heap_alloc_new U (.cells #[.slice n0 NR.s.length m0,.slice n1 NR.hs.length m1,.slice n2 NR.i.length m2,.slice n3 NR.t.length m3] 31));replace l0:=zac l0 b8;replace l1:=zac l1 b8;replace l2:=zac l2 b8;replace l3:=zac l3 b8;have o2:w.heap.size<w2.heap.size:=ye _ _ l0;clear ll x0 x1 x2 x3 x4 xl
 have HI:Hid (zeP w xk xq xr xs xn ⟨a0,a1,a2,a3,c0,c1,c2,c3⟩ ⟨b0,b1,b2,b3,d0,d1,d2,d3⟩ ⟨n0,n1,n2,n3,m0,m1,m2,m3⟩ ⟨y0,y1,y2,y3,e0,e1,e2,e3⟩ R Q NR O U.heap.size w2.heap.size (w2.alloc (.cells #[.slice y0 O.s.length e0,.slice y1 O.hs.length e1,.slice y2 O.i.length e2,.slice y3 O.t.length e3] 31))):=by
  have hv:Below w2.heap.size w2 (w2.alloc (.cells #[.slice y0 O.s.length e0,.slice y1 O.hs.length e1,.slice y2 O.i.length e2,.slice y3 O.t.length e3] 31)):=zab _ _;have b7:Below U.heap.size U (w2.alloc (.cells #[.slice y0 O.s.length e0,.slice y1 O.hs.length e1,.slice y2 O.i.length e2,.slice y3 O.t.length e3] 31)):=b8.trans (hv.mono b8.size);exact⟨d6.out.trans (b7.mono d6.out.size),zaU i6.out b7,zaU i7.out b7,zaU g5.out b7,zaU bn hv,heap_alloc_new w2 (.cells #[.slice y0 O.s.length e0,.slice y1 O.hs.length e1,.slice y2 O.i.length e2,.slice y3 O.t.length e3] 31),g8.out.below b7,j2.out.below b7,j0.out.below b7,k6.below hv⟩
 have s21:U.heap.size<w2.heap.size:=zaC bn;have s1:w.heap.size+1+1<U.heap.size:=zaC g5.out;clear h6 k6 b8 bn i6 i7 g5 g8 j2 j0 d6 D1 D2
 go_wp2_with fail
 refine yf (D3.out _ HI.out.hr) ?_;rintro e w3 ⟨rfl,a9⟩;have M:Hid (zeP w xk xq xr xs xn ⟨a0,a1,a2,a3,c0,c1,c2,c3⟩ ⟨b0,b1,b2,b3,d0,d1,d2,d3⟩ ⟨n0,n1,n2,n3,m0,m1,m2,m3⟩ ⟨y0,y1,y2,y3,e0,e1,e2,e3⟩ R Q NR O U.heap.size w2.heap.size w3):=HI.out.below a9;have s3:w2.heap.size<w3.heap.size:=zaC M.out.y;clear a9 D3 HI l0 l1 l2 l3 o2;have l0:w3.cell? ⟨w.heap.size,0,none⟩=some (.slice a0 R.s.length c0):=(zaa M.out.r).1;have l1:w3.cell? ⟨w.heap.size,1,none⟩=some (.slice a1 R.hs.length c1):=(zaa M.out.r).2.1;have l2:w3.cell? ⟨w.heap.size,2,none⟩=some (.slice a2 R.i.length c2):=(zaa M.out.r).2.2.1;have l3:w3.cell? ⟨w.heap.size,3,none⟩=some (.slice a3 R.t.length c3):=(zaa M.out.r).2.2.2.1;have lf:∀ o,w3.frozen? ⟨w.heap.size,o,none⟩=false:=(zaa M.out.r).2.2.2.2.1;have ll:w.heap.size<w3.heap.size:=(zaa M.out.r).2.2.2.2.2;have q0:w3.cell? ⟨w.heap.size+1+1,0,none⟩=some (.slice b0 Q.s.length d0):=(zaa M.out.q).1;have q1:w3.cell? ⟨w.heap.size+1+1,1,none⟩=some (.slice b1 Q.hs.length d1):=(zaa M.out.q).2.1;have q2:w3.cell? ⟨w.heap.size+1+1,2,none⟩=some (.slice b2 Q.i.length d2):=(zaa M.out.q).2.2.1;have q3:w3.cell? ⟨w.heap.size+1+1,3,none⟩=some (.slice b3 Q.t.length d3):=(zaa M.out.q).2.2.2.1;have qf:∀ o,w3.frozen? ⟨w.heap.size+1+1,o,none⟩=false:=(zaa M.out.q).2.2.2.2.1;have ql:w.heap.size+1+1<w3.heap.size:=(zaa M.out.q).2.2.2.2.2;have k7:(BE == BE)=true:=by simp
 go_wp2_with fail
 go_region_held3 (fun a7=>a7.cell? ⟨w.heap.size,0,none⟩=some (.slice a0 R.s.length c0)/\a7.cell? ⟨w.heap.size,1,none⟩=some (.slice a1 R.hs.length c1)/\a7.cell? ⟨w.heap.size,2,none⟩=some (.slice a2 R.i.length c2)/\a7.cell? ⟨w.heap.size,3,none⟩=some (.slice a3 R.t.length c3)/\a7.cell? ⟨w.heap.size+1+1,0,none⟩=some (.slice b0 Q.s.length d0)/\a7.cell? ⟨w.heap.size+1+1,1,none⟩=some (.slice b1 Q.hs.length d1)/\a7.cell? ⟨w.heap.size+1+1,2,none⟩=some (.slice b2 Q.i.length d2)/\a7.cell? ⟨w.heap.size+1+1,3,none⟩=some (.slice b3 Q.t.length d3)) (go_keep) (first|(go_at_call 6;refine yf (DH.out _) ?_;rintro e w4 ⟨rfl,hb⟩;have T:Hid (Below w3.heap.size w3 w4):=(yj w3.heap.size w3).drew.trans hb;have l7:=zac l0 T.out;have m5:=zac l1 T.out;have m9:=zac l2 T.out;have n7:=zac l3 T.out;have o4:=zac q0 T.out;have o8:=zac q1 T.out;have p2:=zac q2 T.out;have p6:=zac q3 T.out;clear hb)|(go_at_call 7;refine yf (D4.out _ (M.out.below T.out).hr) ?_;rintro e w5 ⟨rfl,hb⟩;have I:Hid (Below w3.heap.size w3 w5):=T.out.trans (hb.mono T.out.size);have l8:=zac l0 I.out;have m6:=zac l1 I.out;have n4:=zac l2 I.out;have n8:=zac l3 I.out;have o5:=zac q0 I.out;have o9:=zac q1 I.out;have p3:=zac q2 I.out;have p7:=zac q3 I.out;clear hb)|(go_at_call 13;refine yf (D5.out _ (M.out.below I.out).hr (M.out.below I.out).hq) ?_;rintro e w6 ⟨r1,rfl,hb,j8⟩;have J:Hid (Below w3.heap.size w3 w6):=I.out.trans (hb.mono I.out.size);have l9:=zac l0 J.out;have m7:=zac l1 J.out;have n5:=zac l2 J.out;have n9:=zac l3 J.out;have o6:=zac q0 J.out;have p0:=zac q1 J.out;have p4:=zac q2 J.out;have p8:=zac q3 J.out;clear hb)|(go_at_call 14;refine yf (D6.out _ (M.out.below J.out).hr (M.out.below J.out).hq) ?_;rintro e D ⟨r2,rfl,hb,j9⟩;have a4:Hid (Below w3.heap.size w3 D):=J.out.trans (hb.mono J.out.size);have er:r1=r2:=Bool.eq_iff_iff.2 (j8.trans j9.symm);subst er;have m4:=zac l0 a4.out;have m8:=zac l1 a4.out;have n6:=zac l2 a4.out;have o0:=zac l3 a4.out;have o7:=zac q0 a4.out;have p1:=zac q1 a4.out;have p5:=zac q2 a4.out;have p9:=zac q3 a4.out;clear hb))
 have c8:Hid (zeP w xk xq xr xs xn ⟨a0,a1,a2,a3,c0,c1,c2,c3⟩ ⟨b0,b1,b2,b3,d0,d1,d2,d3⟩ ⟨n0,n1,n2,n3,m0,m1,m2,m3⟩ ⟨y0,y1,y2,y3,e0,e1,e2,e3⟩ R Q NR O U.heap.size w2.heap.size D):=M.out.below a4.out;have s7:w2.heap.size<D.heap.size:=zaC c8.out.y;have s71:U.heap.size<D.heap.size:=zaC c8.out.n;clear l0 l7 l8 l9 m4 l1 m5 m6 m7 m8 l2 m9 n4 n5 n6 l3 n7 n8 n9 o0 q0 o4 o5 o6 o7 q1 o8 o9 p0 p1 q2 p2 p3 p4 p5 q3 p6 p7 p8 p9 lf ll qf ql T I J a4 M D4 D5 D6 DH j8 j9 k7 s3;obtain⟨BP,j3⟩:∃ b:Bool,decide (0<=pl/\pl<=24)=b:=⟨_,rfl⟩;have a8:Hid (decide (0<=pl/\pl<=24)=BP):=j3;clear j3
 go_upto_region 8 with fail
 go_cut [57] (fun s57 wx=>s57=.bool BP/\wx=D.alloc (.cells #[.slice none 0 0,.slice none 0 0,.slice none 0 0,.slice none 0 0] 31))
 case first =>
  have a9:=a8.out;by_cases h1:0<=pl
  ·have b1:decide (0<=pl)=true:=decide_eq_true h1;by_cases h2:pl<=24
   ·have e:BP=true:=by rw[<- a9];exact decide_eq_true ⟨h1,h2⟩
    subst e;clear a9 a8;have b2:decide (pl<=24)=true:=decide_eq_true h2
    go_wp2_with fail
    go_meet
    case rel=>exact⟨rfl,rfl⟩
   ·have e:BP=false:=by rw[<- a9];exact decide_eq_false (fun h=>h2 h.2)
    subst e;clear a9 a8;have b2:decide (pl<=24)=false:=decide_eq_false h2
    go_wp2_with fail
    go_meet
    case rel=>exact⟨rfl,rfl⟩
  ·have b1:decide (0<=pl)=false:=decide_eq_false h1;have e:BP=false:=by rw[<- a9];exact decide_eq_false (fun h=>h1 h.1)
   subst e;clear a9 a8
   go_wp2_with fail
   go_meet
   case rel=>exact⟨rfl,rfl⟩
 case rest =>
 obtain⟨rfl,k4⟩:=hcut;have k5:=k4.symm;clear k4;subst k5
 go_upto_if 57 with fail
 go_cut [16] (fun s16 wx=>s16=.int .i64 NE/\Hid (∃ (f0 f1 f2 f3:Option Addr) (g0 g1 g2 g3:Nat),wx.heap[D.heap.size]?=some (bxR ⟨f0,f1,f2,f3,g0,g1,g2,g3⟩ NR)/\zaS wx ⟨f0,f1,f2,f3,g0,g1,g2,g3⟩ NR/\zeP w xk xq xr xs xn ⟨a0,a1,a2,a3,c0,c1,c2,c3⟩ ⟨b0,b1,b2,b3,d0,d1,d2,d3⟩ ⟨n0,n1,n2,n3,m0,m1,m2,m3⟩ ⟨y0,y1,y2,y3,e0,e1,e2,e3⟩ R Q NR O U.heap.size w2.heap.size wx))
 case first =>
  cases BP with
  | true =>
   have f6:0<=pl/\pl<=24:=of_decide_eq_true a8.out;obtain⟨m,hm⟩:∃ m:Nat,pl=m:=⟨pl.toNat,by omega⟩;have g4:m<=24:=by omega
   obtain⟨h5,c9⟩:=d9.out.2 m hm g4;subst h5;have j1:Hid (NR=⟨List.replicate m zaL,List.replicate 16 (0,0),[],[]⟩):=c9;have k8:Hid (∀ (xb xc:Nat) (W:World),(∀ j,j<8->W.cell? ⟨xb,j,none⟩=some (zra j))->_):=fun xb xc W h=>zmM m xb xc g4 W h;subst hm;have q7:=zgw;clear c9 d9 f6 a8;obtain⟨Z,hZ⟩:∃ Z,D.alloc (.cells #[.slice none 0 0,.slice none 0 0,.slice none 0 0,.slice none 0 0] 31)=Z:=⟨_,rfl⟩;have bZ:Z.heap[D.heap.size]?=some (.cells #[.slice none 0 0,.slice none 0 0,.slice none 0 0,.slice none 0 0] 31 (0,0)):=by rw[<- hZ];exact heap_alloc_new D _
   have g6:Hid (zeP w xk xq xr xs xn ⟨a0,a1,a2,a3,c0,c1,c2,c3⟩ ⟨b0,b1,b2,b3,d0,d1,d2,d3⟩ ⟨n0,n1,n2,n3,m0,m1,m2,m3⟩ ⟨y0,y1,y2,y3,e0,e1,e2,e3⟩ R Q NR O U.heap.size w2.heap.size Z):=by rw[<- hZ];exact c8.out.below (zab _ _)
   rw[hZ];clear hZ c8;have l0:Z.cell? ⟨w.heap.size,0,none⟩=some (.slice a0 R.s.length c0):=(zaa g6.out.r).1;have ll:w.heap.size<Z.heap.size:=zaC g6.out.r;obtain⟨k0,k1,k2,k3,kf,kl⟩:=zaa bZ
   have c7:Hid (∀ (w8:World) (gr hb:Nat),Below Z.heap.size Z w8->zae w8 (some ⟨gr,0,none⟩) (List.replicate m zaL)->∀ X' : World,Below ((((w8.setCell ⟨D.heap.size,0,none⟩ (.slice (some ⟨gr,0,none⟩) m m)).setCell ⟨D.heap.size,1,none⟩ (.slice (some ⟨hb,0,none⟩) 16 16)).setCell ⟨D.heap.size,2,none⟩ (.slice none 0 0)).setCell ⟨D.heap.size,3,none⟩ (.slice none 0 0)).heap.size ((((w8.setCell ⟨D.heap.size,0,none⟩ (.slice (some ⟨gr,0,none⟩) m m)).setCell ⟨D.heap.size,1,none⟩ (.slice (some ⟨hb,0,none⟩) 16 16)).setCell ⟨D.heap.size,2,none⟩ (.slice none 0 0)).setCell ⟨D.heap.size,3,none⟩ (.slice none 0 0)) X' -> zam X' (some ⟨hb,0,none⟩) (List.replicate 16 (0,0))->∃ (f0 f1 f2 f3:Option Addr) (g0 g1 g2 g3:Nat),X'.heap[D.heap.size]?=some (bxR ⟨f0,f1,f2,f3,g0,g1,g2,g3⟩ NR)/\zaS X' ⟨f0,f1,f2,f3,g0,g1,g2,g3⟩ NR/\zeP w xk xq xr xs xn ⟨a0,a1,a2,a3,c0,c1,c2,c3⟩ ⟨b0,b1,b2,b3,d0,d1,d2,d3⟩ ⟨n0,n1,n2,n3,m0,m1,m2,m3⟩ ⟨y0,y1,y2,y3,e0,e1,e2,e3⟩ R Q NR O U.heap.size w2.heap.size X'):=fun w8 gr hb j5 e9 X' hX hH=>by
    have I8:=g6.out.below j5;have h7:=zaU bZ j5;have ho:zfZ D.heap.size w8 ((((w8.setCell ⟨D.heap.size,0,none⟩ (.slice (some ⟨gr,0,none⟩) m m)).setCell ⟨D.heap.size,1,none⟩ (.slice (some ⟨hb,0,none⟩) 16 16)).setCell ⟨D.heap.size,2,none⟩ (.slice none 0 0)).setCell ⟨D.heap.size,3,none⟩ (.slice none 0 0)):=(zfZ.refl _ _).set.set.set.set;have e8:w.heap.size<=D.heap.size:=by omega
    have I9:=I8.off (sl4 h7) ho (by omega) (by omega) (by omega) ((((I8.bel.setCell e8 _).setCell e8 _).setCell e8 _).setCell e8 _);refine⟨some ⟨gr,0,none⟩,some ⟨hb,0,none⟩,none,none,m,16,0,0,?_,?_,I9.below hX⟩
    ·rw[j1.out];have h:=zaU (zbl (u0:=.slice (some ⟨gr,0,none⟩) m m) (u1:=.slice (some ⟨hb,0,none⟩) 16 16) (u2:=.slice none 0 0) (u3:=.slice none 0 0) h7) hX;rw[h];simp[bxR]
    ·rw[j1.out];exact⟨(e9.offB (sl4 h7) ho).below hX,hH,fun _ h=>absurd h (yr _),fun _ h=>absurd h (yr _)⟩
   have r0:¬ D.heap.size=w.heap.size:=by omega
   have r5:¬ w.heap.size=D.heap.size:=by omega
   go_upto_region 10 with fail
   go_region_held3 (fun a7=>a7.cell? ⟨w.heap.size,0,none⟩=some (.slice a0 R.s.length c0)) (go_keep) (first|(go_at_call 15;refine yf (k8.out _ _ _ ?pt) ?_;(case pt=>first|exact zeK _|exact fun j hj=>zeK Z j hj|exact fun j hj=>zac (zeK Z j hj) ((zab _ _).drew)|exact fun j hj=>(by have h:=zeK (Z.alloc (.cells (madeCells #[.int .i64 0,.int .i64 0] 32) 39)) j hj;rw[yk] at h;exact h));rintro e w8 ⟨gr,rfl,hb,e9⟩;have a6:Hid (Below Z.heap.size Z w8):=(by first|exact((yj Z.heap.size Z).drew.alloc (yi _) _).trans (hb.mono (by simp))|exact(((yj Z.heap.size Z).drew.alloc (yi _) _).alloc (by simp) _).trans (hb.mono (by simp;omega)));have g7:Hid (zae w8 (some ⟨gr,0,none⟩) (List.replicate m zaL)):=e9;have i9:Hid (Below _ _ w8):=hb;have f8:=zac l0 a6.out;have f7:=zac k0 a6.out;have h9:=zac k1 a6.out;have i0:=zac k2 a6.out;have i1:=zac k3 a6.out;have i2:∀ o,w8.frozen? ⟨D.heap.size,o,none⟩=false:=fun o=>(a6.out.frozen (show (⟨D.heap.size,o,none⟩:Addr).block<Z.heap.size from kl)).trans (kf o);have q8:D.heap.size<w8.heap.size:=ye _ _ f7;have q9:w.heap.size<w8.heap.size:=ye _ _ f8;clear hb e9))
   ·have HH:zam (((((w8.setCell ⟨D.heap.size,0,none⟩ (.slice (some ⟨gr,0,none⟩) m m)).setCell ⟨D.heap.size,1,none⟩ (.slice (some ⟨w8.heap.size,0,none⟩) 16 16)).setCell ⟨D.heap.size,2,none⟩ (.slice none 0 0)).setCell ⟨D.heap.size,3,none⟩ (.slice none 0 0)).alloc (.cells (madeCells #[.int .i64 0,.int .i64 0] 32) 39)) (some ⟨w8.heap.size,0,none⟩) (List.replicate 16 (0,0)):=by
     have h:=zeD ((((w8.setCell ⟨D.heap.size,0,none⟩ (.slice (some ⟨gr,0,none⟩) m m)).setCell ⟨D.heap.size,1,none⟩ (.slice (some ⟨w8.heap.size,0,none⟩) 16 16)).setCell ⟨D.heap.size,2,none⟩ (.slice none 0 0)).setCell ⟨D.heap.size,3,none⟩ (.slice none 0 0));rw[show ((((w8.setCell ⟨D.heap.size,0,none⟩ (.slice (some ⟨gr,0,none⟩) m m)).setCell ⟨D.heap.size,1,none⟩ (.slice (some ⟨w8.heap.size,0,none⟩) 16 16)).setCell ⟨D.heap.size,2,none⟩ (.slice none 0 0)).setCell ⟨D.heap.size,3,none⟩ (.slice none 0 0)).heap.size=w8.heap.size by simp] at h;exact h
    have FF:Hid _:=c7.out w8 gr w8.heap.size a6.out g7.out _ (zab _ _) HH;clear c7 f7 h9 i0 i1 i2 f8 HH
    go_wp2_with fail
    go_meet
    case rel=>exact⟨rfl,FF⟩
   ·have d8:zam w8 (some ⟨Z.heap.size+1,0,none⟩) (List.replicate 16 (0,0)):=by
     have h:=zeD (Z.alloc (.cells #[.bool false,.int .i64 0,.int .i64 0,.int .i64 0,.int .i64 (-1),.slice none 0 0,.int .i64 (-1),.bool false] 47));rw[yk] at h;exact(h.below (yj _ _).drew).below i9.out
    have FF:Hid _:=c7.out w8 gr (Z.heap.size+1) a6.out g7.out _ (yj _ _) (d8.offB (sl4 (zaU bZ a6.out)) (zfZ.refl _ _).set.set.set.set);clear c7 f7 h9 i0 i1 i2 f8 d8
    go_wp2_with fail
    go_meet
    case rel=>exact⟨rfl,FF⟩
   ·have d8:zam w8 (some ⟨Z.heap.size,0,none⟩) (List.replicate 16 (0,0)):=((zeD Z).below ((zab _ _).drew)).below i9.out;have FF:Hid _:=c7.out w8 gr Z.heap.size a6.out g7.out _ (yj _ _) (d8.offB (sl4 (zaU bZ a6.out)) (zfZ.refl _ _).set.set.set.set);clear c7 f7 h9 i0 i1 i2 f8 d8
    go_wp2_with fail
    go_meet
    case rel=>exact⟨rfl,FF⟩
  | false =>
   have f6:¬ (0<=pl/\pl<=24):=of_decide_eq_false a8.out;obtain⟨h5,c9⟩:=d9.out.1 f6;subst h5
   have HF:Hid (∃ (f0 f1 f2 f3:Option Addr) (g0 g1 g2 g3:Nat),(D.alloc (.cells #[.slice none 0 0,.slice none 0 0,.slice none 0 0,.slice none 0 0] 31)).heap[D.heap.size]?=some (bxR ⟨f0,f1,f2,f3,g0,g1,g2,g3⟩ NR)/\zaS (D.alloc (.cells #[.slice none 0 0,.slice none 0 0,.slice none 0 0,.slice none 0 0] 31)) ⟨f0,f1,f2,f3,g0,g1,g2,g3⟩ NR/\zeP w xk xq xr xs xn ⟨a0,a1,a2,a3,c0,c1,c2,c3⟩ ⟨b0,b1,b2,b3,d0,d1,d2,d3⟩ ⟨n0,n1,n2,n3,m0,m1,m2,m3⟩ ⟨y0,y1,y2,y3,e0,e1,e2,e3⟩ R Q NR O U.heap.size w2.heap.size (D.alloc (.cells #[.slice none 0 0,.slice none 0 0,.slice none 0 0,.slice none 0 0] 31))):=by
    refine⟨none,none,none,none,0,0,0,0,?_,?_,c8.out.below (zab _ _)⟩
    ·rw[c9];exact heap_alloc_new D _
    ·rw[c9];exact zaO _ _
   clear c9 d9 a8 f6
   go_wp2_with fail
   go_meet
   case rel=>exact⟨rfl,HF⟩
 case rest =>
 obtain⟨rfl,HR⟩:=hcut;obtain⟨f0,f1,f2,f3,g0,g1,g2,g3,bf,hf,hI⟩:=HR.out;have b5:Hid (zeP w xk xq xr xs xn ⟨a0,a1,a2,a3,c0,c1,c2,c3⟩ ⟨b0,b1,b2,b3,d0,d1,d2,d3⟩ ⟨n0,n1,n2,n3,m0,m1,m2,m3⟩ ⟨y0,y1,y2,y3,e0,e1,e2,e3⟩ R Q NR O U.heap.size w2.heap.size wc):=hI;have i8:Hid (zaS wc ⟨f0,f1,f2,f3,g0,g1,g2,g3⟩ NR):=hf;clear HR hI hf d9 a8 c8;have u0:wc.cell? ⟨U.heap.size,0,none⟩=some (.slice n0 NR.s.length m0):=(zaa b5.out.n).1;have u1:wc.cell? ⟨U.heap.size,1,none⟩=some (.slice n1 NR.hs.length m1):=(zaa b5.out.n).2.1;have u2:wc.cell? ⟨U.heap.size,2,none⟩=some (.slice n2 NR.i.length m2):=(zaa b5.out.n).2.2.1;have u3:wc.cell? ⟨U.heap.size,3,none⟩=some (.slice n3 NR.t.length m3):=(zaa b5.out.n).2.2.2.1;have ul:U.heap.size<wc.heap.size:=zaC b5.out.n;have v0:wc.cell? ⟨D.heap.size,0,none⟩=some (.slice f0 NR.s.length g0):=(zaa bf).1;have v1:wc.cell? ⟨D.heap.size,1,none⟩=some (.slice f1 NR.hs.length g1):=(zaa bf).2.1;have v2:wc.cell? ⟨D.heap.size,2,none⟩=some (.slice f2 NR.i.length g2):=(zaa bf).2.2.1;have v3:wc.cell? ⟨D.heap.size,3,none⟩=some (.slice f3 NR.t.length g3):=(zaa bf).2.2.2.1;have vl:D.heap.size<wc.heap.size:=zaC bf;have k9:Hid (D.heap.size<wc.heap.size):=zaC bf;clear bf
 go_wp2_with fail
 refine yf (D7.out ⟨n0,n1,n2,n3,m0,m1,m2,m3⟩ ⟨f0,f1,f2,f3,g0,g1,g2,g3⟩ _ b5.out.hn i8.out) ?_;rintro e w9 ⟨r3,rfl,j6,h8⟩;obtain rfl:r3=true:=(by first|exact h8.2 rfl|exact h8.2 trivial);have V:Hid (zeP w xk xq xr xs xn ⟨a0,a1,a2,a3,c0,c1,c2,c3⟩ ⟨b0,b1,b2,b3,d0,d1,d2,d3⟩ ⟨n0,n1,n2,n3,m0,m1,m2,m3⟩ ⟨y0,y1,y2,y3,e0,e1,e2,e3⟩ R Q NR O U.heap.size w2.heap.size w9):=b5.out.below j6;clear j6 h8 b5 i8 D7 k9;clear u0 u1 u2 u3 ul v0 v1 v2 v3 vl;by_cases e6:BE=0
 ·subst e6;have l0:w9.cell? ⟨w.heap.size,0,none⟩=some (.slice a0 R.s.length c0):=(zaa V.out.r).1;have l1:w9.cell? ⟨w.heap.size,1,none⟩=some (.slice a1 R.hs.length c1):=(zaa V.out.r).2.1;have l2:w9.cell? ⟨w.heap.size,2,none⟩=some (.slice a2 R.i.length c2):=(zaa V.out.r).2.2.1;have l3:w9.cell? ⟨w.heap.size,3,none⟩=some (.slice a3 R.t.length c3):=(zaa V.out.r).2.2.2.1;have ll:w.heap.size<w9.heap.size:=zaC V.out.r;obtain⟨x0,x1,x2,x3,x4,xl⟩:=zaN V.out.x
  go_wp2_with fail
  refine yf (DG.out (by first|rfl|trivial) _ V.out.hr) ?_;rintro e c6 ⟨z0,z1,z2,z3,h0,h1,h2,h3,rfl,f9,hz⟩;have a5:Hid (zeP w xk xq xr xs xn ⟨a0,a1,a2,a3,c0,c1,c2,c3⟩ ⟨b0,b1,b2,b3,d0,d1,d2,d3⟩ ⟨n0,n1,n2,n3,m0,m1,m2,m3⟩ ⟨y0,y1,y2,y3,e0,e1,e2,e3⟩ R Q NR O U.heap.size w2.heap.size c6):=V.out.below f9;have HZ:Hid (zaS c6 ⟨z0,z1,z2,z3,h0,h1,h2,h3⟩ O):=hz;clear f9 hz V DG x0 x1 x2 x3 x4 xl;clear l0 l1 l2 l3 ll;have v0:c6.cell? ⟨w2.heap.size,0,none⟩=some (.slice y0 O.s.length e0):=(zaa a5.out.y).1;have v1:c6.cell? ⟨w2.heap.size,1,none⟩=some (.slice y1 O.hs.length e1):=(zaa a5.out.y).2.1;have v2:c6.cell? ⟨w2.heap.size,2,none⟩=some (.slice y2 O.i.length e2):=(zaa a5.out.y).2.2.1;have v3:c6.cell? ⟨w2.heap.size,3,none⟩=some (.slice y3 O.t.length e3):=(zaa a5.out.y).2.2.2.1;have vl:w2.heap.size<c6.heap.size:=zaC a5.out.y
  go_wp2_with fail
  refine yf (D8.out ⟨y0,y1,y2,y3,e0,e1,e2,e3⟩ ⟨z0,z1,z2,z3,h0,h1,h2,h3⟩ O _ (a5.out.hy.below (zab _ _)) (HZ.out.below (zab _ _))) ?_;rintro e i3 ⟨r4,rfl,b6,b9⟩;obtain rfl:r4=true:=(by first|exact b9.2 rfl|exact b9.2 trivial);have d7:Hid (Below w.heap.size w i3):=a5.out.bel.trans (((zab _ _).trans (b6.mono (by simp))).mono a5.out.bel.size);clear b6 b9 D8;clear v0 v1 v2 v3 vl
  go_wp2_with fail
  go_ret;exact⟨rfl,d7.out⟩
 ·obtain⟨l4,l5,l6⟩:=FF.out e6;subst l4 l5 l6;have q4:decide (fE=0)=false:=decide_eq_false e6;have q5:(fE == 0)=false:=beq_eq_false_iff_ne.2 e6;have q6:(fE != 0)=true:=by simp[e6]
  have v0:w9.cell? ⟨w2.heap.size,0,none⟩=some (.slice y0 zaW.s.length e0):=(zaa V.out.y).1;have v1:w9.cell? ⟨w2.heap.size,1,none⟩=some (.slice y1 zaW.hs.length e1):=(zaa V.out.y).2.1;have v2:w9.cell? ⟨w2.heap.size,2,none⟩=some (.slice y2 zaW.i.length e2):=(zaa V.out.y).2.2.1;have v3:w9.cell? ⟨w2.heap.size,3,none⟩=some (.slice y3 zaW.t.length e3):=(zaa V.out.y).2.2.2.1;have vl:w2.heap.size<w9.heap.size:=zaC V.out.y
  go_wp2_with fail
  refine yf (D8.out ⟨y0,y1,y2,y3,e0,e1,e2,e3⟩ ⟨none,none,none,none,0,0,0,0⟩ zaW _ V.out.hy (zaO _ _)) ?_;rintro e i3 ⟨r4,rfl,b6,b9⟩;obtain rfl:r4=true:=(by first|exact b9.2 rfl|exact b9.2 trivial);have d7:Hid (Below w.heap.size w i3):=V.out.bel.trans (b6.mono V.out.bel.size);clear b6 b9 D8;clear v0 v1 v2 v3 vl
  go_wp2_with fail
  go_ret;exact⟨rfl,d7.out⟩
end Go.Proofs.YtgjfmepbphfjoaaGreat
