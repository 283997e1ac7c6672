/-
  x
-/
import Derived.Test.YtgjfmepbphfjoaaGreatQ34
import Derived.Deep.CutBlock
namespace Go.Proofs.YtgjfmepbphfjoaaGreat
set_option maxRecDepth 100000
set_option maxHeartbeats 4000000
set_option linter.unusedVariables false
open Go.RowKit
theorem zqx(hC:zbW)(a0 a1 a2 a3:Option Addr)(c0 c1 c2 c3:Nat)(R:Rl)(p:Nat)(D xr xs xn h1 I:Int)(w:World)(hR:zaB R=0)(hL:zaS w ⟨a0,a1,a2,a3,c0,c1,c2,c3⟩ R)(hp:p<16)(hh:R.hs.getD p (0,0)=(h1,I))(hk:D=2\/D=4) :
  Calls Tryz.prog 16 #[.agg #[.slice a0 R.s.length c0,.slice a1 R.hs.length c1,.slice a2 R.i.length c2,.slice a3 R.t.length c3],.agg #[.int .i64 D,.int .i64 (p:Int),.int .i64 xr,.int .i64 xs,.int .i64 xn]] w (zfV R ⟨D,p,xr,xs,xn⟩ w):=by
 have F:D≠3/\D≠7/\D≠8:=by omega
 have d3:decide (D=3)=false:=decide_eq_false F.1;have b3:(D == 3)=false:=beq_eq_false_iff_ne.2 F.1;have d7:decide (D=7)=false:=decide_eq_false F.2.1;have b7:(D == 7)=false:=beq_eq_false_iff_ne.2 F.2.1;have d8:decide (D=8)=false:=decide_eq_false F.2.2;have b8:(D == 8)=false:=beq_eq_false_iff_ne.2 F.2.2;have c7:Hid (hd R (p:Int)=(h1,I)):=zfD hh;have HA:Hid (isH (p:Int)):=⟨by omega,by omega⟩;clear F;obtain⟨wf,d6,f7,ht⟩:=zax hR;have DI:Hid (∀ W,_):=fun W=>zct (p:Int) W (by omega);have DW:Hid (∀ W,zaS W ⟨a0,a1,a2,a3,c0,c1,c2,c3⟩ R->_):=fun W hW=>zcd a0 a1 a2 a3 c0 c1 c2 c3 R W hR hW;have HL:Hid (zaS w ⟨a0,a1,a2,a3,c0,c1,c2,c3⟩ R):=hL;have f9:Hid (zaY w a2 R.i):=hL.2.2.1;have a7:Hid (R.hs.length=16):=d6;have c8:Hid (WF R.s):=wf;have HD:Hid (R.hs.getD p (0,0)=(h1,I)):=hh;have g3:(p:Int)<16:=by omega
 clear hL hR f7 hh d6 wf
 go_enter Tryz.func16,Tryz.ntmps16
 go_wp2_with fail
 refine yf (DI.out _) ?_;rintro e w' ⟨rfl,hw⟩;have f8:=hw.symm;clear hw;subst f8;have c9:Hid (Below w.heap.size w (((w.alloc (.cells #[.slice a0 R.s.length c0,.slice a1 R.hs.length c1,.slice a2 R.i.length c2,.slice a3 R.t.length c3] 31)).alloc (.cells #[.int .i64 D,.int .i64 (p:Int),.int .i64 xr,.int .i64 xs,.int .i64 xn] 41)).alloc (.cells #[.slice none 0 0,.slice none 0 0,.slice none 0 0,.slice none 0 0] 31))):=(zai w _ _).trans ((zab _ _).mono (by first|(simp;done)|(simp;omega)))
 go_wp2_with fail
 refine yf (DW.out _ (HL.out.below c9.out)) ?_;rintro e w1 ⟨v0,K,v1,v3,rfl,Z,hO,hH,hT⟩;obtain⟨s0,k0,rfl,_⟩:=hO.nds
 obtain⟨g,k1,rfl⟩:∃ g k1,v1=.slice (some ⟨g,0,none⟩) 16 k1:=by
  rcases hH.2 with ⟨rfl,h0⟩ |⟨g,cap,g0,rfl,_⟩
  ·omega
  ·exact⟨g,cap,rfl⟩
 obtain⟨t0,k3,rfl,_⟩:=zdV hT;simp only[yk] at hO hH hT;obtain⟨d9,q1,q2,g1,g2,br,bx,bz⟩:=zbP HL.out a7.out HD.out hp Z hO hH hT;have HI:Hid (zbx w w1.heap.size R D (p:Int) xr xs xn h1 I s0 k0 K g k1 a2 c2 t0 k3 (((((w1.setCell ⟨w.heap.size,0,none⟩ (.slice s0 R.s.length k0)).setCell ⟨w.heap.size,1,none⟩ (.slice (some ⟨g,0,none⟩) 16 k1)).setCell ⟨w.heap.size,2,none⟩ (.slice a2 R.i.length c2)).setCell ⟨w.heap.size,3,none⟩ (.slice t0 R.t.length k3)).alloc (.cells #[.int .i64 h1,.int .i64 I] 39))):=d9;obtain⟨l0,l1,l2,l3,fl,ll⟩:=zaa br;obtain⟨m0,m1,m2,m3,m4,lm⟩:=zaN bx;obtain⟨M,O,T,U,fz,lz⟩:=zaa bz;clear Z hO hH hT bx bz br d9 DW DI c9 HL
 go_upto_block 0 with fail
 go_cut [10,11] (fun s10 s11 wx=>∃ o E:Int,s10=.int .i64 o/\s11=.int .i64 E/\Hid (zcn w R ⟨D,(p:Int),xr,xs,xn⟩ o E wx))
 case first =>
  rcases hk with rfl|rfl
  ·have a5:Hid (doG R ⟨2,(p:Int),xr,xs,xn⟩=ans (zgX R.s h1 I) ⟨R.s.set h1.toNat (zcg (nd R.s h1.toNat)),R.hs,R.i,R.t⟩ 0):=by show doG _ _=_;unfold doG;dsimp only;rw[yd HA.out,ya (by decide),yd rfl,c7.out];rfl
   have a4:Hid (∀ V hV,_):=fun V hV=>(zpb hC R.s (h1,I) c8.out) s0 k0 V hV;generalize zgX R.s h1 I=E at *;generalize R.s.set h1.toNat (zcg (nd R.s h1.toNat))=TT at *
   go_wp2_with fail
   refine yf (a4.out _ HI.out.nds) ?_;rintro e w2 ⟨a', c', rfl,Z,hN⟩;have A:Hid (zbx w w1.heap.size R 2 (p:Int) xr xs xn h1 I s0 k0 K g k1 a2 c2 t0 k3 w2):=HI.out.below Z;have a9:Hid (zcn w R ⟨2,(p:Int),xr,xs,xn⟩ 0 E (w2.setCell ⟨w.heap.size,0,none⟩ (.slice a' (rS E TT).length c'))):=A.out.sto a7.out hN a5.out;clear Z hN HI a4 a5;clear l0 l1 l2 l3 fl ll m0 m1 m2 m3 m4 lm M O T U fz lz q1 q2;obtain⟨l0,l1,l2,l3,fl,ll⟩:=zaa A.out.r;obtain⟨m0,m1,m2,m3,m4,lm⟩:=zaN A.out.x;obtain⟨M,O,T,U,fz,lz⟩:=zaa A.out.z;obtain⟨n0,n1,ln⟩:=zbg A.out.a;generalize (rS E TT).length=tl at *
   go_wp2_with fail
   go_meet
   case rel=>exact⟨0,E,rfl,rfl,a9⟩
  ·have a5:Hid (doG R ⟨4,(p:Int),xr,xs,xn⟩=ans (zpr R.s h1 I) ⟨leaveG R.s h1.toNat,R.hs,R.i,R.t⟩ 0):=by show doG _ _=_;unfold doG;dsimp only;rw[yd HA.out,ya (by decide),ya (by decide),yd rfl,c7.out];rfl
   have a4:Hid (∀ V hV,_):=fun V hV=>(zkz hC R.s (h1,I) c8.out) s0 k0 V hV;generalize zpr R.s h1 I=E at *;generalize leaveG R.s h1.toNat=TT at *
   go_wp2_with fail
   refine yf (a4.out _ HI.out.nds) ?_;rintro e w2 ⟨a', c', rfl,Z,hN⟩;have A:Hid (zbx w w1.heap.size R 4 (p:Int) xr xs xn h1 I s0 k0 K g k1 a2 c2 t0 k3 w2):=HI.out.below Z;have a9:Hid (zcn w R ⟨4,(p:Int),xr,xs,xn⟩ 0 E (w2.setCell ⟨w.heap.size,0,none⟩ (.slice a' (rS E TT).length c'))):=A.out.sto a7.out hN a5.out;clear Z hN HI a4 a5;clear l0 l1 l2 l3 fl ll m0 m1 m2 m3 m4 lm M O T U fz lz q1 q2;obtain⟨l0,l1,l2,l3,fl,ll⟩:=zaa A.out.r;obtain⟨m0,m1,m2,m3,m4,lm⟩:=zaN A.out.x;obtain⟨M,O,T,U,fz,lz⟩:=zaa A.out.z;obtain⟨n0,n1,ln⟩:=zbg A.out.a;generalize (rS E TT).length=tl at *
   go_wp2_with fail
   go_meet
   case rel=>exact⟨0,E,rfl,rfl,a9⟩
 case rest =>
 obtain⟨o,E,rfl,rfl,HR⟩:=hcut;obtain⟨W9,rfl⟩:∃ W,W=wc:=⟨_,rfl⟩;clear HI l0 l1 l2 l3 fl ll m0 m1 m2 m3 m4 lm M O T U fz lz q1 q2;by_cases hE:E=0
 ·obtain⟨b0,b1,b2,b3,d0,d1,d2,d3,Q,hd,J,hr⟩:=HR.out.ok hE;subst hE;have c6:Hid _:=hd;have e9:Hid _:=HR.out.bel;have f6:Hid _:=hr;have l0:W9.cell? ⟨w.heap.size,0,none⟩=some (.slice b0 Q.s.length d0):=(zaa J).1;have l1:W9.cell? ⟨w.heap.size,1,none⟩=some (.slice b1 Q.hs.length d1):=(zaa J).2.1;have l2:W9.cell? ⟨w.heap.size,2,none⟩=some (.slice b2 Q.i.length d2):=(zaa J).2.2.1;have l3:W9.cell? ⟨w.heap.size,3,none⟩=some (.slice b3 Q.t.length d3):=(zaa J).2.2.2.1;have ll:=zaC J;have BZ:=HR.out.z;obtain⟨M,O,T,U,fz,lz⟩:=zaa BZ;clear hd hr J HR
  go_wp2_with fail
  obtain⟨W8,b5⟩:∃ W8,W8=((((W9.setCell ⟨w.heap.size+1+1,0,none⟩ (.slice b0 Q.s.length d0)).setCell ⟨w.heap.size+1+1,1,none⟩ (.slice b1 Q.hs.length d1)).setCell ⟨w.heap.size+1+1,2,none⟩ (.slice b2 Q.i.length d2)).setCell ⟨w.heap.size+1+1,3,none⟩ (.slice b3 Q.t.length d3)):=⟨_,rfl⟩;rw[<- b5];obtain⟨a6,a8,f0⟩:=zbb BZ e9.out f6.out b5;clear M O T U fz lz l0 l1 l2 l3 ll b5;obtain⟨M,O,T,U,fz,lz⟩:=zaa a6;exact yq (v:=.tuple #[.agg #[.slice b0 Q.s.length d0,.slice b1 Q.hs.length d1,.slice b2 Q.i.length d2,.slice b3 Q.t.length d3],.int .i64 o,.int .i64 0]) (by simp[results,Tryz.results16,go_sem,M,O,T,U]) rfl ⟨⟨b0,b1,b2,b3,d0,d1,d2,d3⟩,by rw[c6.out],a8,by rw[c6.out];exact f0⟩
 ·have y1:decide (E=0)=false:=decide_eq_false hE;have y2:(E == 0)=false:=beq_eq_false_iff_ne.2 hE;have y3:(E != 0)=true:=by simp[hE]
  have b6:Hid (doG R ⟨D,(p:Int),xr,xs,xn⟩=bad E):=HR.out.bad hE;have b9:Hid (Below w.heap.size w W9):=HR.out.bel;have e7:Hid (W9.heap[w.heap.size+1+1]?=some (.cells #[.slice none 0 0,.slice none 0 0,.slice none 0 0,.slice none 0 0] 31 (0,0))):=HR.out.z;clear HR
  go_wp2_with fail
  refine yf (zbk E _) ?_;rintro e w8 ⟨rfl,Z⟩;have a8:Hid (Below w.heap.size w w8):=b9.out.trans (Z.mono b9.out.size);have a6:=zaU e7.out Z;clear Z;obtain⟨M,O,T,U,fz,lz⟩:=zaa a6
  go_wp2_with fail
  obtain⟨W7,b4⟩:∃ W7,W7=((((w8.setCell ⟨w.heap.size+1+1,0,none⟩ (.slice none 0 0)).setCell ⟨w.heap.size+1+1,1,none⟩ (.slice none 0 0)).setCell ⟨w.heap.size+1+1,2,none⟩ (.slice none 0 0)).setCell ⟨w.heap.size+1+1,3,none⟩ (.slice none 0 0)):=⟨_,rfl⟩;rw[<- b4];obtain⟨e6,e8,_⟩:=zbb (Q:=zaW) (b0:=none) (b1:=none) (b2:=none) (b3:=none) (d0:=0) (d1:=0) (d2:=0) (d3:=0) a6 a8.out (zaO _ _) b4;clear M O T U fz lz b4;have e0:W7.heap[w.heap.size+1+1]?=some (.cells #[.slice none 0 0,.slice none 0 0,.slice none 0 0,.slice none 0 0] 31 (0,0)):=e6;obtain⟨M,O,T,U,fz,lz⟩:=zaa e0;exact yq (v:=.tuple #[.agg #[.slice none 0 0,.slice none 0 0,.slice none 0 0,.slice none 0 0],.int .i64 0,.int .i64 E]) (by simp[results,Tryz.results16,go_sem,M,O,T,U]) rfl ⟨⟨none,none,none,none,0,0,0,0⟩,by rw[b6.out];rfl,e8,by rw[b6.out];exact zaO _ _⟩
theorem zqA(hC:zbW)(a0 a1 a2 a3:Option Addr)(c0 c1 c2 c3:Nat)(R:Rl)(p:Nat)(I F xs D h1 J:Int)(w:World)(hR:zaB R=0)(hL:zaS w ⟨a0,a1,a2,a3,c0,c1,c2,c3⟩ R)(hp:p<16)(hh:R.hs.getD p (0,0)=(h1,J))(hk:I=14\/I=15) :
  Calls Tryz.prog 16 #[.agg #[.slice a0 R.s.length c0,.slice a1 R.hs.length c1,.slice a2 R.i.length c2,.slice a3 R.t.length c3],.agg #[.int .i64 I,.int .i64 (p:Int),.int .i64 F,.int .i64 xs,.int .i64 D]] w (zfV R ⟨I,p,F,xs,D⟩ w):=by
 have M:I≠3/\I≠7/\I≠8:=by omega
 have d3:decide (I=3)=false:=decide_eq_false M.1;have b3:(I == 3)=false:=beq_eq_false_iff_ne.2 M.1;have d7:decide (I=7)=false:=decide_eq_false M.2.1;have b7:(I == 7)=false:=beq_eq_false_iff_ne.2 M.2.1;have d8:decide (I=8)=false:=decide_eq_false M.2.2;have b8:(I == 8)=false:=beq_eq_false_iff_ne.2 M.2.2;have c7:Hid (hd R (p:Int)=(h1,J)):=zfD hh;have HA:Hid (isH (p:Int)):=⟨by omega,by omega⟩;clear M;obtain⟨wf,d6,f8,ht⟩:=zax hR;have DI:Hid (∀ W,_):=fun W=>zct (p:Int) W (by omega);have DW:Hid (∀ W,zaS W ⟨a0,a1,a2,a3,c0,c1,c2,c3⟩ R->_):=fun W hW=>zcd a0 a1 a2 a3 c0 c1 c2 c3 R W hR hW;have HL:Hid (zaS w ⟨a0,a1,a2,a3,c0,c1,c2,c3⟩ R):=hL;have g0:Hid (zaY w a2 R.i):=hL.2.2.1;have a7:Hid (R.hs.length=16):=d6;have c8:Hid (WF R.s):=wf;have HD:Hid (R.hs.getD p (0,0)=(h1,J)):=hh;have g4:(p:Int)<16:=by omega
 clear hL hR f8 hh d6 wf
 go_enter Tryz.func16,Tryz.ntmps16
 go_wp2_with fail
 refine yf (DI.out _) ?_;rintro e w' ⟨rfl,hw⟩;have f9:=hw.symm;clear hw;subst f9;have c9:Hid (Below w.heap.size w (((w.alloc (.cells #[.slice a0 R.s.length c0,.slice a1 R.hs.length c1,.slice a2 R.i.length c2,.slice a3 R.t.length c3] 31)).alloc (.cells #[.int .i64 I,.int .i64 (p:Int),.int .i64 F,.int .i64 xs,.int .i64 D] 41)).alloc (.cells #[.slice none 0 0,.slice none 0 0,.slice none 0 0,.slice none 0 0] 31))):=(zai w _ _).trans ((zab _ _).mono (by first|(simp;done)|(simp;omega)))
 go_wp2_with fail
 refine yf (DW.out _ (HL.out.below c9.out)) ?_;rintro e w1 ⟨v0,K,v1,v3,rfl,hb,hO,hH,hT⟩;obtain⟨s0,k0,rfl,_⟩:=hO.nds
 obtain⟨g,k1,rfl⟩:∃ g k1,v1=.slice (some ⟨g,0,none⟩) 16 k1:=by
  rcases hH.2 with ⟨rfl,h0⟩ |⟨g,cap,g1,rfl,_⟩
  ·omega
  ·exact⟨g,cap,rfl⟩
 obtain⟨t0,k3,rfl,_⟩:=zdV hT;simp only[yk] at hO hH hT;obtain⟨d9,q1,q2,g2,g3,br,bx,bz⟩:=zbP HL.out a7.out HD.out hp hb hO hH hT;have HI:Hid (zbx w w1.heap.size R I (p:Int) F xs D h1 J s0 k0 K g k1 a2 c2 t0 k3 (((((w1.setCell ⟨w.heap.size,0,none⟩ (.slice s0 R.s.length k0)).setCell ⟨w.heap.size,1,none⟩ (.slice (some ⟨g,0,none⟩) 16 k1)).setCell ⟨w.heap.size,2,none⟩ (.slice a2 R.i.length c2)).setCell ⟨w.heap.size,3,none⟩ (.slice t0 R.t.length k3)).alloc (.cells #[.int .i64 h1,.int .i64 J] 39))):=d9;obtain⟨l0,l1,l2,l3,fl,ll⟩:=zaa br;obtain⟨m0,m1,m2,m3,m4,lm⟩:=zaN bx;obtain⟨T,U,Z,z3,fz,lz⟩:=zaa bz;clear hb hO hH hT bx bz br d9 DW DI c9 HL
 go_upto_block 0 with fail
 go_cut [10,11] (fun s10 s11 wx=>∃ o E:Int,s10=.int .i64 o/\s11=.int .i64 E/\Hid (zcn w R ⟨I,(p:Int),F,xs,D⟩ o E wx))
 case first =>
  rcases hk with rfl|rfl
  ·have a5:Hid (doG R ⟨14,(p:Int),F,xs,D⟩=ans (znz R.s h1 J [⟨F,D,false⟩]) R ((zcQ R.s h1.toNat [⟨F,D,false⟩]).length:Int)):=by show doG _ _=_;unfold doG;dsimp only;rw[yd HA.out,ya (by decide),ya (by decide),ya (by decide),ya (by decide),ya (by decide),ya (by decide),yd rfl,c7.out];rfl
   have a4:Hid (∀ V qa qc,zae V s0 R.s->zaP V qa [⟨F,D,false⟩]->_):=fun V qa qc hV hQ=>zmI hC R.s (h1,J) F D qa qc c8.out s0 k0 V hV hQ;have f7:Hid (∀ V:World,V.heap.size=w1.heap.size+1->zaP (V.alloc (.cells #[.int .i64 F,.int .i64 D,.bool false] 86)) (some ⟨w1.heap.size+1,0,none⟩) [⟨F,D,false⟩]):=fun V hV=>by rw[<- hV];exact zqN _ _ _ _
   go_wp2_with fail
   refine yf (a4.out _ _ _ (HI.out.nds.below (zab _ _)) (f7.out _ (by simp))) ?_;rintro e w2 ⟨a', c', n,rfl,hb,hn⟩;have A:Hid (zbx w w1.heap.size R 14 (p:Int) F xs D h1 J s0 k0 K g k1 a2 c2 t0 k3 w2):=HI.out.below ((zab _ _).trans (hb.mono (by simp)));have a9:Hid (zcn w R ⟨14,(p:Int),F,xs,D⟩ (n:Int) (znz R.s h1 J [⟨F,D,false⟩]) w2):=A.out.ask a7.out (a5.out.trans (zjL fun h=>by rw[hn,yd h]));clear hb hn HI a4 a5;clear l0 l1 l2 l3 fl ll m0 m1 m2 m3 m4 lm T U Z z3 fz lz q1 q2;obtain⟨l0,l1,l2,l3,fl,ll⟩:=zaa A.out.r;obtain⟨m0,m1,m2,m3,m4,lm⟩:=zaN A.out.x;obtain⟨T,U,Z,z3,fz,lz⟩:=zaa A.out.z;obtain⟨n0,n1,ln⟩:=zbg A.out.a;generalize znz R.s h1 J [⟨F,D,false⟩]=E at *
   go_wp2_with fail
   go_meet
   case rel=>exact⟨n,E,rfl,rfl,a9⟩
  ·have a5:Hid (doG R ⟨15,(p:Int),F,xs,D⟩=ans (zas R.s h1 J) R ((zeg R.s h1.toNat).length:Int)):=by show doG _ _=_;unfold doG;dsimp only;rw[yd HA.out,ya (by decide),ya (by decide),ya (by decide),ya (by decide),ya (by decide),ya (by decide),ya (by decide),yd rfl,c7.out];rfl
   have a4:Hid (∀ V hV,_):=fun V hV=>zpa hC R.s (h1,J) c8.out s0 k0 V hV
   go_wp2_with fail
   refine yf (a4.out _ HI.out.nds) ?_;rintro e w2 ⟨a', c', n,rfl,hb,hn⟩;have A:Hid (zbx w w1.heap.size R 15 (p:Int) F xs D h1 J s0 k0 K g k1 a2 c2 t0 k3 w2):=HI.out.below hb;have a9:Hid (zcn w R ⟨15,(p:Int),F,xs,D⟩ (n:Int) (zas R.s h1 J) w2):=A.out.ask a7.out (a5.out.trans (zjL fun h=>by rw[hn,yd h]));clear hb hn HI a4 a5;clear l0 l1 l2 l3 fl ll m0 m1 m2 m3 m4 lm T U Z z3 fz lz q1 q2;obtain⟨l0,l1,l2,l3,fl,ll⟩:=zaa A.out.r;obtain⟨m0,m1,m2,m3,m4,lm⟩:=zaN A.out.x;obtain⟨T,U,Z,z3,fz,lz⟩:=zaa A.out.z;obtain⟨n0,n1,ln⟩:=zbg A.out.a;generalize zas R.s h1 J=E at *
   go_wp2_with fail
   go_meet
   case rel=>exact⟨n,E,rfl,rfl,a9⟩
 case rest =>
 obtain⟨o,E,rfl,rfl,HR⟩:=hcut;obtain⟨W9,rfl⟩:∃ W,W=wc:=⟨_,rfl⟩;clear HI l0 l1 l2 l3 fl ll m0 m1 m2 m3 m4 lm T U Z z3 fz lz q1 q2;by_cases hE:E=0
 ·obtain⟨b0,b1,b2,b3,d0,d1,d2,d3,Q,hd,O,hr⟩:=HR.out.ok hE;subst hE;have c6:Hid _:=hd;have e9:Hid _:=HR.out.bel;have f6:Hid _:=hr;have l0:W9.cell? ⟨w.heap.size,0,none⟩=some (.slice b0 Q.s.length d0):=(zaa O).1;have l1:W9.cell? ⟨w.heap.size,1,none⟩=some (.slice b1 Q.hs.length d1):=(zaa O).2.1;have l2:W9.cell? ⟨w.heap.size,2,none⟩=some (.slice b2 Q.i.length d2):=(zaa O).2.2.1;have l3:W9.cell? ⟨w.heap.size,3,none⟩=some (.slice b3 Q.t.length d3):=(zaa O).2.2.2.1;have ll:=zaC O;have BZ:=HR.out.z;obtain⟨T,U,Z,z3,fz,lz⟩:=zaa BZ;clear hd hr O HR
  go_wp2_with fail
  obtain⟨W8,b5⟩:∃ W8,W8=((((W9.setCell ⟨w.heap.size+1+1,0,none⟩ (.slice b0 Q.s.length d0)).setCell ⟨w.heap.size+1+1,1,none⟩ (.slice b1 Q.hs.length d1)).setCell ⟨w.heap.size+1+1,2,none⟩ (.slice b2 Q.i.length d2)).setCell ⟨w.heap.size+1+1,3,none⟩ (.slice b3 Q.t.length d3)):=⟨_,rfl⟩;rw[<- b5];obtain⟨a6,a8,f0⟩:=zbb BZ e9.out f6.out b5;clear T U Z z3 fz lz l0 l1 l2 l3 ll b5;obtain⟨T,U,Z,z3,fz,lz⟩:=zaa a6;exact yq (v:=.tuple #[.agg #[.slice b0 Q.s.length d0,.slice b1 Q.hs.length d1,.slice b2 Q.i.length d2,.slice b3 Q.t.length d3],.int .i64 o,.int .i64 0]) (by simp[results,Tryz.results16,go_sem,T,U,Z,z3]) rfl ⟨⟨b0,b1,b2,b3,d0,d1,d2,d3⟩,by rw[c6.out],a8,by rw[c6.out];exact f0⟩
 ·have y1:decide (E=0)=false:=decide_eq_false hE;have y2:(E == 0)=false:=beq_eq_false_iff_ne.2 hE;have y3:(E != 0)=true:=by simp[hE]
  have b6:Hid (doG R ⟨I,(p:Int),F,xs,D⟩=bad E):=HR.out.bad hE;have b9:Hid (Below w.heap.size w W9):=HR.out.bel;have e7:Hid (W9.heap[w.heap.size+1+1]?=some (.cells #[.slice none 0 0,.slice none 0 0,.slice none 0 0,.slice none 0 0] 31 (0,0))):=HR.out.z;clear HR
  go_wp2_with fail
  refine yf (zbk E _) ?_;rintro e w8 ⟨rfl,hb⟩;have a8:Hid (Below w.heap.size w w8):=b9.out.trans (hb.mono b9.out.size);have a6:=zaU e7.out hb;clear hb;obtain⟨T,U,Z,z3,fz,lz⟩:=zaa a6
  go_wp2_with fail
  obtain⟨W7,b4⟩:∃ W7,W7=((((w8.setCell ⟨w.heap.size+1+1,0,none⟩ (.slice none 0 0)).setCell ⟨w.heap.size+1+1,1,none⟩ (.slice none 0 0)).setCell ⟨w.heap.size+1+1,2,none⟩ (.slice none 0 0)).setCell ⟨w.heap.size+1+1,3,none⟩ (.slice none 0 0)):=⟨_,rfl⟩;rw[<- b4];obtain⟨e6,e8,_⟩:=zbb (Q:=zaW) (b0:=none) (b1:=none) (b2:=none) (b3:=none) (d0:=0) (d1:=0) (d2:=0) (d3:=0) a6 a8.out (zaO _ _) b4;clear T U Z z3 fz lz b4;have e0:W7.heap[w.heap.size+1+1]?=some (.cells #[.slice none 0 0,.slice none 0 0,.slice none 0 0,.slice none 0 0] 31 (0,0)):=e6;obtain⟨T,U,Z,z3,fz,lz⟩:=zaa e0;exact yq (v:=.tuple #[.agg #[.slice none 0 0,.slice none 0 0,.slice none 0 0,.slice none 0 0],.int .i64 0,.int .i64 E]) (by simp[results,Tryz.results16,go_sem,T,U,Z,z3]) rfl ⟨⟨none,none,none,none,0,0,0,0⟩,by rw[b6.out];rfl,e8,by rw[b6.out];exact zaO _ _⟩
theorem zqF(hC:zbW)(a0 a1 a2 a3:Option Addr)(c0 c1 c2 c3:Nat)(R:Rl)(p q r:Nat)(xn h1 h2:Int)(w:World)(hR:zaB R=0)(hL:zaS w ⟨a0,a1,a2,a3,c0,c1,c2,c3⟩ R)(hp:p<16)(hq:q<16)(hr:r<16)(hh:R.hs.getD p (0,0)=(h1,h2))(j1 j2:Int)(b5:R.hs.getD q (0,0)=(j1,j2))(I J:Int)(b6:R.hs.getD r (0,0)=(I,J)) :
  Calls Tryz.prog 16 #[.agg #[.slice a0 R.s.length c0,.slice a1 R.hs.length c1,.slice a2 R.i.length c2,.slice a3 R.t.length c3],.agg #[.int .i64 3,.int .i64 (p:Int),.int .i64 (q:Int),.int .i64 (r:Int),.int .i64 xn]] w (zfV R ⟨3,p,(q:Int),r,xn⟩ w):=by
 have i4:decide ((15:Int)<(r:Int))=false:=decide_eq_false (by omega);have i3:decide ((0:Int)<=(r:Int))=true:=decide_eq_true (by omega);have j3:(r:Int)<16:=by omega
 have g1:Hid (isH (r:Int)):=⟨by omega,by omega⟩;have g5:Hid (hd R (r:Int)=(I,J)):=zfD b6;have g9:Hid (R.hs.getD r (0,0)=(I,J)):=b6;have g4:Hid (hd R (q:Int)=(j1,j2)):=zfD b5;have g0:Hid (R.hs.getD q (0,0)=(j1,j2)):=b5;have g3:Hid (hd R (p:Int)=(h1,h2)):=zfD hh;have HA:Hid (isH (p:Int)):=⟨by omega,by omega⟩;have f7:Hid (isH (q:Int)):=⟨by omega,by omega⟩;obtain⟨wf,c9,h6,ht⟩:=zax hR;have DI:Hid (∀ W,_):=fun W=>zct (p:Int) W (by omega);have f6:Hid (∀ W,_):=fun W=>zct (q:Int) W (by omega);have j0:(q:Int)<16:=by omega
 have DW:Hid (∀ W,zaS W ⟨a0,a1,a2,a3,c0,c1,c2,c3⟩ R->_):=fun W hW=>zcd a0 a1 a2 a3 c0 c1 c2 c3 R W hR hW;have HL:Hid (zaS w ⟨a0,a1,a2,a3,c0,c1,c2,c3⟩ R):=hL;have i2:Hid (zaY w a2 R.i):=hL.2.2.1;have a7:Hid (R.hs.length=16):=c9;have h3:Hid (WF R.s):=wf;have HD:Hid (R.hs.getD p (0,0)=(h1,h2)):=hh;have i9:(p:Int)<16:=by omega
 clear hL hR h6 hh c9 wf b5 b6
 go_enter Tryz.func16,Tryz.ntmps16
 go_wp2_with fail
 refine yf (DI.out _) ?_;rintro e w' ⟨rfl,hw⟩;have b7:=hw.symm;clear hw;subst b7
 go_wp2_with fail
 refine yf (f6.out _) ?_;rintro e w' ⟨rfl,hw⟩;have b7:=hw.symm;clear hw;subst b7;have c8:Hid (Below w.heap.size w (((w.alloc (.cells #[.slice a0 R.s.length c0,.slice a1 R.hs.length c1,.slice a2 R.i.length c2,.slice a3 R.t.length c3] 31)).alloc (.cells #[.int .i64 3,.int .i64 (p:Int),.int .i64 (q:Int),.int .i64 (r:Int),.int .i64 xn] 41)).alloc (.cells #[.slice none 0 0,.slice none 0 0,.slice none 0 0,.slice none 0 0] 31))):=(zai w _ _).trans ((zab _ _).mono (by first|(simp;done)|(simp;omega)))
 go_wp2_with fail
 refine yf (DW.out _ (HL.out.below c8.out)) ?_;rintro e U ⟨v0,K,v1,v3,rfl,hb,hO,hH,hT⟩;obtain⟨s0,k0,rfl,_⟩:=hO.nds
 obtain⟨g,k1,rfl⟩:∃ g k1,v1=.slice (some ⟨g,0,none⟩) 16 k1:=by
  rcases hH.2 with ⟨rfl,h0⟩ |⟨g,cap,i5,rfl,_⟩
  ·omega
  ·exact⟨g,cap,rfl⟩
 obtain⟨t0,k3,rfl,_⟩:=zdV hT;simp only[yk] at hO hH hT;obtain⟨d6,q1,q2,h5,i6,br,bx,bz⟩:=zbP HL.out a7.out HD.out hp hb hO hH hT;have HI:Hid (zbx w U.heap.size R 3 (p:Int) (q:Int) (r:Int) xn h1 h2 s0 k0 K g k1 a2 c2 t0 k3 (((((U.setCell ⟨w.heap.size,0,none⟩ (.slice s0 R.s.length k0)).setCell ⟨w.heap.size,1,none⟩ (.slice (some ⟨g,0,none⟩) 16 k1)).setCell ⟨w.heap.size,2,none⟩ (.slice a2 R.i.length c2)).setCell ⟨w.heap.size,3,none⟩ (.slice t0 R.t.length k3)).alloc (.cells #[.int .i64 h1,.int .i64 h2] 39))):=d6;obtain⟨l0,l1,l2,l3,fl,ll⟩:=zaa br;obtain⟨m0,m1,m2,m3,m4,lm⟩:=zaN bx;obtain⟨Z,z1,z2,z3,fz,lz⟩:=zaa bz;clear hb hO hH hT bx bz br d6 DW DI c8 HL
 go_upto_block 0 with fail
 go_cut [10,11] (fun s10 s11 wx=>∃ o E:Int,s10=.int .i64 o/\s11=.int .i64 E/\Hid (zcn w R ⟨3,(p:Int),(q:Int),(r:Int),xn⟩ o E wx))
 case first =>
  have c7:Hid (doG R ⟨3,(p:Int),(q:Int),(r:Int),xn⟩=ans (zek R.s h1 h2 j1 j2 [(I,J)]) ⟨zgN R.s h1 j1 [(I,J)],R.hs,R.i,R.t⟩ 0):=by show doG _ _=_;unfold doG;dsimp only;rw[yd HA.out,ya (by decide),ya (by decide),ya (by decide),ya (by decide),ya (by decide),ya (by decide),ya (by decide),ya (by decide),yd (by decide),yd f7.out,ya (by decide),ya (by decide),ya (by omega),yd g1.out,g3.out,g4.out,g5.out];rfl
  have f0:Hid (∀ ha hc V hV hH,_):=fun ha hc V hV hH=>(zgE hC R.s (h1,h2) (j1,j2) [(I,J)] ha hc h3.out (by simp)) s0 k0 V hV hH;generalize zek R.s h1 h2 j1 j2 [(I,J)]=E at *;generalize zgN R.s h1 j1 [(I,J)]=TT at *
  obtain⟨x1,x2⟩:U.cell? ⟨g,r*2,none⟩=some (.int .i64 I)/\U.cell? ⟨g,r*2+1,none⟩=some (.int .i64 J):=by
   have hH:=HI.out.hs;obtain⟨y1,y2⟩:=zbt R.hs r (by rw[a7.out];exact hr);rw[g9.out] at y1 y2;have y3:=hH.cells (g:=g) rfl _ _ y1;have y4:=hH.cells (g:=g) rfl _ _ y2;rw[Addr.add_lit,yv] at y3 y4;have key:∀ o,(((((U.setCell ⟨w.heap.size,0,none⟩ (.slice s0 R.s.length k0)).setCell ⟨w.heap.size,1,none⟩ (.slice (some ⟨g,0,none⟩) 16 k1)).setCell ⟨w.heap.size,2,none⟩ (.slice a2 R.i.length c2)).setCell ⟨w.heap.size,3,none⟩ (.slice t0 R.t.length k3)).alloc (.cells #[.int .i64 h1,.int .i64 h2] 39)).cell? ⟨g,o,none⟩=U.cell? ⟨g,o,none⟩:=fun o=>yw (((zab _ _).block g (by simpa using h5)).trans (by rw[yo _ _ _ _ (by show g≠w.heap.size;omega),yo _ _ _ _ (by show g≠w.heap.size;omega),yo _ _ _ _ (by show g≠w.heap.size;omega),yo _ _ _ _ (by show g≠w.heap.size;omega)]));exact⟨(key _).symm.trans y3,(key _).symm.trans y4⟩
  obtain⟨i0,h7,h8,h9,i1⟩:=info_parts zgu;have d9:0+1<=maxLen:=by unfold maxLen;omega
  have e0:(0+1)*16<=140737488355328:=by omega
  go_wp2_with (at_builtin;refine wpList_append_own _ rfl _ _ 25 rfl U.heap.size 39 i0 (.agg #[.int .i64 0,.int .i64 0]) 2 16 Tryz.underlying25 h7 h8 h9 i1 rfl (by decide) (.slice none 0 0) 0 [] rfl (World.ownsRow_nil _ _ _ _) ⟨U.heap.size+1,0,none⟩ 1 1 [.int .i64 I,.int .i64 J] rfl rfl ?c1 ?c2 d9 e0 ?c5 ?_)
  case c1=>first|exact znZ _ _ _ _ _ (by simp)|exact fun j u h=>h
  case c2=>exact zpU _ _
  case c5=>first|(simp;done)|(simp;omega)
  intro v4 T a5 a4 _;obtain⟨d7,h4,rfl,e6⟩:=zoa (by first|exact a5|simpa using a5);have F:Hid (zbx w U.heap.size R 3 (p:Int) (q:Int) (r:Int) xn h1 h2 s0 k0 K g k1 a2 c2 t0 k3 T):=HI.out.below (ziy a4);have g2:Hid (zam T d7 [(I,J)]):=e6;clear a5 a4 e6 x1 x2;have j4:U.heap.size<T.heap.size:=zaC F.out.a
  go_wp2_with fail
  clear HI;clear l0 l1 l2 l3 fl ll m0 m1 m2 m3 m4 lm Z z1 z2 z3 fz lz q1 q2;obtain⟨l0,l1,l2,l3,fl,ll⟩:=zaa F.out.r;obtain⟨m0,m1,m2,m3,m4,lm⟩:=zaN F.out.x;obtain⟨Z,z1,z2,z3,fz,lz⟩:=zaa F.out.z;obtain⟨n0,n1,ln⟩:=zbg F.out.a;have i7:g<T.heap.size:=(F.out.hs.lt g rfl).2;have i8:w.heap.size+5<=g:=(F.out.hs.lt g rfl).1;have j5:¬ w.heap.size=g:=by omega
  have j6:¬ g=w.heap.size:=by omega
  obtain⟨x1,x2⟩:T.cell? ⟨g,q*2,none⟩=some (.int .i64 j1)/\T.cell? ⟨g,q*2+1,none⟩=some (.int .i64 j2):=by
   obtain⟨y1,y2⟩:=zbt R.hs q (by rw[a7.out];exact hq);rw[g0.out] at y1 y2;have y3:=F.out.hs.cells (g:=g) rfl _ _ y1;have y4:=F.out.hs.cells (g:=g) rfl _ _ y2;rw[Addr.add_lit,yv] at y3 y4;exact⟨y3,y4⟩
  refine wp_region_noPanic ?_;refine wp_region_held_drew (S:=fun O=>O.cell? ⟨w.heap.size,1,none⟩=some (.slice (some ⟨g,0,none⟩) 16 k1)/\O.cell? ⟨w.heap.size+1,2,none⟩=some (.int .i64 (q:Int))/\O.cell? ⟨U.heap.size,0,none⟩=some (.int .i64 h1)/\O.cell? ⟨U.heap.size,1,none⟩=some (.int .i64 h2)/\O.cell? ⟨g,q*2,none⟩=some (.int .i64 j1)/\O.cell? ⟨g,q*2+1,none⟩=some (.int .i64 j2)) (by kernel_rfl) (by(try dsimp only);go_keep) (fun hHeld=>?_);refine wpAnyH_take (i:=0) (v:=?_) rfl (by kernel_rfl) (by kernel_rfl) (by kernel_rfl) (fun _ _ _ h=>h) (Or.inl ⟨by rfl,?_⟩) (by assumption) ?_;rotate_left
  ·intro w A;(try dsimp only at A);first|(go_simp;done)|(go_simp;with_reducible rfl)
  simp[Act.put];refine wpAnyH_take (i:=2) (v:=?_) rfl (by kernel_rfl) (by kernel_rfl) (by kernel_rfl) (fun _ _ _ h=>h) (Or.inl ⟨by rfl,?_⟩) (by assumption) ?_;rotate_left
  ·intro w A;(try dsimp only at A);first|(go_simp;done)|(go_simp;with_reducible rfl)
  simp[Act.put];refine wpAnyH_take (i:=3) (v:=?_) rfl (by kernel_rfl) (by kernel_rfl) (by kernel_rfl) (fun _ _ _ h=>h) (Or.inl ⟨by rfl,?_⟩) (by assumption) ?_;rotate_left
  ·intro w A;(try dsimp only at A);first|(go_simp;done)|(go_simp;with_reducible rfl)
  simp[Act.put];refine wpAnyH_take (i:=4) (v:=?_) rfl (by kernel_rfl) (by kernel_rfl) (by kernel_rfl) (fun _ _ _ h=>h) (Or.inl ⟨by rfl,?_⟩) (by assumption) ?_;rotate_left
  ·intro w A;(try dsimp only at A);first|(go_simp;done)|(go_simp;with_reducible rfl)
  simp[Act.put];refine wpAnyH_take (i:=5) (v:=?_) rfl (by kernel_rfl) (by kernel_rfl) (by kernel_rfl) (fun _ _ _ h=>h) (Or.inl ⟨by rfl,?_⟩) (by assumption) ?_;rotate_left
  ·intro w A;(try dsimp only at A);first|(go_simp;done)|(go_simp;with_reducible rfl)
  simp[Act.put];refine wpAnyH_take (i:=6) (v:=?_) rfl (by kernel_rfl) (by kernel_rfl) (by kernel_rfl) (fun _ _ _ h=>h) (Or.inl ⟨by rfl,?_⟩) (by assumption) ?_;rotate_left
  ·intro w A;(try dsimp only at A);first|(go_simp;done)|(go_simp;with_reducible rfl)
  simp[Act.put];refine wpAnyH_take (i:=7) (v:=?_) rfl (by kernel_rfl) (by kernel_rfl) (by kernel_rfl) (fun _ _ _ h=>h) (Or.inl ⟨by rfl,?_⟩) (by assumption) ?_;rotate_left
  ·intro w A;(try dsimp only at A);first|(go_simp;done)|(go_simp;with_reducible rfl)
  simp[Act.put];refine wpAnyH_take (i:=8) (v:=?_) rfl (by kernel_rfl) (by kernel_rfl) (by kernel_rfl) (fun _ _ _ h=>h) (Or.inl ⟨by rfl,?_⟩) (by assumption) ?_;rotate_left
  ·intro w A;(try dsimp only at A);first|(go_simp;done)|(go_simp;with_reducible rfl)
  simp[Act.put];refine wpAnyH_take (i:=9) (v:=?_) rfl (by kernel_rfl) (by kernel_rfl) (by kernel_rfl) (fun _ _ _ h=>h) (Or.inl ⟨by rfl,?_⟩) (by assumption) ?_;rotate_left
  ·intro w A;(try dsimp only at A);first|(go_simp;done)|(go_simp;with_reducible rfl)
  simp[Act.put];refine wpAnyH_ready (rs:=[1]) (by kernel_rfl) (by simp) ?_;refine AllReadyH.cons rfl (fun KX hK=>?_) AllReadyH.nil;go_simp;refine hK.out _ _ ?_ (fun hHeld=>?_)
  ·(try dsimp only)
   first|go_keep|assumption
  clear hK KX
  try simp[Act.put]
  refine wpAnyH_ready (rs:=[10]) (by kernel_rfl) (by simp) ?_;refine AllReadyH.cons rfl (fun KX hK=>?_) AllReadyH.nil;go_simp;refine yf (f0.out d7 h4 _ (F.out.nds.below (yj _ _).drew) (g2.out.below (yj _ _).drew)) ?_;rintro e w5 ⟨a', c', rfl,d8,hst⟩;have D:Below T.heap.size T w5:=(yj T.heap.size T).drew.trans d8;have u0:=zac l1 D;have u1:=zac m2 D;have u2:=zac n0 D;have u3:=zac n1 D;have u4:=zac x1 D;have u5:=zac x2 D;have v0:=zac l0 D;have vr:w5.heap[w.heap.size]?=_:=zaU F.out.r D;have s5:T.heap.size<=w5.heap.size:=D.size;have s50:w.heap.size<w5.heap.size:=by omega
  have f5:∀ o,w5.frozen? ⟨w.heap.size,o,none⟩=false:=fun o=>(D.frozen (show (⟨w.heap.size,o,none⟩:Addr).block<T.heap.size from ll)).trans (fl o);have g6:Hid (zcn w R ⟨3,(p:Int),(q:Int),(r:Int),xn⟩ 0 E (w5.setCell ⟨w.heap.size,0,none⟩ (.slice a' (rS E TT).length c'))):=(F.out.below D).sto a7.out hst c7.out;clear d8 D hst c7;generalize (rS E TT).length=tl at *
  go_wp2_with fail
  refine hK.out _ _ ?_ (fun hHeld=>?_)
  ·(try dsimp only)
   exact⟨u0,u1,u2,u3,u4,u5⟩
  clear hK KX
  try simp[Act.put]
  refine wpAnyH_take (i:=11) (v:=?_) rfl (by kernel_rfl) (by kernel_rfl) (by kernel_rfl) (fun _ _ _ h=>h) (Or.inl ⟨by rfl,?_⟩) (by assumption) ?_;rotate_left
  ·intro w A;(try dsimp only at A);first|(go_simp;done)|(go_simp;with_reducible rfl)
  simp[Act.put];refine wpAnyH_take (i:=12) (v:=?_) rfl (by kernel_rfl) (by kernel_rfl) (by kernel_rfl) (fun _ _ _ h=>h) (Or.inl ⟨by rfl,?_⟩) (by assumption) ?_;rotate_left
  ·intro w A;(try dsimp only at A);first|(go_simp;done)|(go_simp;with_reducible rfl)
  simp[Act.put];refine wpAnyH_take (i:=13) (v:=?_) rfl (by kernel_rfl) (by kernel_rfl) (by kernel_rfl) (fun _ _ _ h=>h) (Or.inl ⟨by rfl,?_⟩) (by assumption) ?_;rotate_left
  ·intro w A;(try dsimp only at A);first|(go_simp;done)|(go_simp;with_reducible rfl)
  simp[Act.put];refine wpAnyH_take (i:=14) (v:=?_) rfl (by kernel_rfl) (by kernel_rfl) (by kernel_rfl) (fun _ _ _ h=>h) (Or.inl ⟨by rfl,?_⟩) (by assumption) ?_;rotate_left
  ·intro w A;(try dsimp only at A);first|(go_simp;done)|(go_simp;with_reducible rfl)
  simp[Act.put];refine wpAnyH_ready (rs:=[15]) (by kernel_rfl) (by simp) ?_;refine AllReadyH.cons rfl (fun KX hK=>?_) AllReadyH.nil;go_simp;refine hK.out _ _ ?_ (fun hHeld=>?_)
  ·(try dsimp only)
   exact⟨(zaa (zcD vr)).2.1,zak (by omega) u1,zak (by omega) u2,zak (by omega) u3,zak (by omega) u4,zak (by omega) u5⟩
  clear hK KX
  try simp[Act.put]
  refine wpAnyH_take (i:=16) (v:=?_) rfl (by kernel_rfl) (by kernel_rfl) (by kernel_rfl) (fun _ _ _ h=>h) (Or.inl ⟨by rfl,?_⟩) (by assumption) ?_;rotate_left
  ·intro w A;(try dsimp only at A);first|(go_simp;done)|(go_simp;with_reducible rfl)
  simp[Act.put];refine wpAnyH_done (by kernel_rfl) ?_ _;refine NoPanic.normal ?_;clear l0 l1 l2 l3 fl ll m0 m1 m2 m3 m4 lm Z z1 z2 z3 fz lz n0 n1 ln v0 vr f5 x1 x2
  go_wp2_with fail
  go_meet
  case rel=>exact⟨0,E,rfl,rfl,g6⟩
 case rest =>
 obtain⟨o,E,rfl,rfl,HR⟩:=hcut;obtain⟨W9,rfl⟩:∃ W,W=wc:=⟨_,rfl⟩;clear HI l0 l1 l2 l3 fl ll m0 m1 m2 m3 m4 lm Z z1 z2 z3 fz lz q1 q2;by_cases hE:E=0
 ·obtain⟨b0,b1,b2,b3,d0,d1,d2,d3,Q,hd,M,hr⟩:=HR.out.ok hE;subst hE;have c6:Hid _:=hd;have f9:Hid _:=HR.out.bel;have g8:Hid _:=hr;have l0:W9.cell? ⟨w.heap.size,0,none⟩=some (.slice b0 Q.s.length d0):=(zaa M).1;have l1:W9.cell? ⟨w.heap.size,1,none⟩=some (.slice b1 Q.hs.length d1):=(zaa M).2.1;have l2:W9.cell? ⟨w.heap.size,2,none⟩=some (.slice b2 Q.i.length d2):=(zaa M).2.2.1;have l3:W9.cell? ⟨w.heap.size,3,none⟩=some (.slice b3 Q.t.length d3):=(zaa M).2.2.2.1;have ll:=zaC M;have BZ:=HR.out.z;obtain⟨Z,z1,z2,z3,fz,lz⟩:=zaa BZ;clear hd hr M HR
  go_wp2_with fail
  obtain⟨W8,b4⟩:∃ W8,W8=((((W9.setCell ⟨w.heap.size+1+1,0,none⟩ (.slice b0 Q.s.length d0)).setCell ⟨w.heap.size+1+1,1,none⟩ (.slice b1 Q.hs.length d1)).setCell ⟨w.heap.size+1+1,2,none⟩ (.slice b2 Q.i.length d2)).setCell ⟨w.heap.size+1+1,3,none⟩ (.slice b3 Q.t.length d3)):=⟨_,rfl⟩;rw[<- b4];obtain⟨a6,a8,g7⟩:=zbb BZ f9.out g8.out b4;clear Z z1 z2 z3 fz lz l0 l1 l2 l3 ll b4;obtain⟨Z,z1,z2,z3,fz,lz⟩:=zaa a6;exact yq (v:=.tuple #[.agg #[.slice b0 Q.s.length d0,.slice b1 Q.hs.length d1,.slice b2 Q.i.length d2,.slice b3 Q.t.length d3],.int .i64 o,.int .i64 0]) (by simp[results,Tryz.results16,go_sem,Z,z1,z2,z3]) rfl ⟨⟨b0,b1,b2,b3,d0,d1,d2,d3⟩,by rw[c6.out],a8,by rw[c6.out];exact g7⟩
 ·have y1:decide (E=0)=false:=decide_eq_false hE;have y2:(E == 0)=false:=beq_eq_false_iff_ne.2 hE;have y3:(E != 0)=true:=by simp[hE]
  have b8:Hid (doG R ⟨3,(p:Int),(q:Int),(r:Int),xn⟩=bad E):=HR.out.bad hE;have b9:Hid (Below w.heap.size w W9):=HR.out.bel;have e9:Hid (W9.heap[w.heap.size+1+1]?=some (.cells #[.slice none 0 0,.slice none 0 0,.slice none 0 0,.slice none 0 0] 31 (0,0))):=HR.out.z;clear HR
  go_wp2_with fail
  refine yf (zbk E _) ?_;rintro e w8 ⟨rfl,hb⟩;have a8:Hid (Below w.heap.size w w8):=b9.out.trans (hb.mono b9.out.size);have a6:=zaU e9.out hb;clear hb;obtain⟨Z,z1,z2,z3,fz,lz⟩:=zaa a6
  go_wp2_with fail
  obtain⟨W7,a9⟩:∃ W7,W7=((((w8.setCell ⟨w.heap.size+1+1,0,none⟩ (.slice none 0 0)).setCell ⟨w.heap.size+1+1,1,none⟩ (.slice none 0 0)).setCell ⟨w.heap.size+1+1,2,none⟩ (.slice none 0 0)).setCell ⟨w.heap.size+1+1,3,none⟩ (.slice none 0 0)):=⟨_,rfl⟩;rw[<- a9];obtain⟨e8,f8,_⟩:=zbb (Q:=zaW) (b0:=none) (b1:=none) (b2:=none) (b3:=none) (d0:=0) (d1:=0) (d2:=0) (d3:=0) a6 a8.out (zaO _ _) a9;clear Z z1 z2 z3 fz lz a9;have e7:W7.heap[w.heap.size+1+1]?=some (.cells #[.slice none 0 0,.slice none 0 0,.slice none 0 0,.slice none 0 0] 31 (0,0)):=e8;obtain⟨Z,z1,z2,z3,fz,lz⟩:=zaa e7;exact yq (v:=.tuple #[.agg #[.slice none 0 0,.slice none 0 0,.slice none 0 0,.slice none 0 0],.int .i64 0,.int .i64 E]) (by simp[results,Tryz.results16,go_sem,Z,z1,z2,z3]) rfl ⟨⟨none,none,none,none,0,0,0,0⟩,by rw[b8.out];rfl,f8,by rw[b8.out];exact zaO _ _⟩
end Go.Proofs.YtgjfmepbphfjoaaGreat
