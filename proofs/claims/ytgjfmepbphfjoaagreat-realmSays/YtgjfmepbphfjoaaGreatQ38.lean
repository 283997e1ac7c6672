/-
  x
-/
import Derived.Test.YtgjfmepbphfjoaaGreatQ34
import Derived.Deep.CutBlock
namespace Go.Proofs.YtgjfmepbphfjoaaGreat
set_option maxRecDepth 100000
set_option maxHeartbeats 4000000
set_option linter.unusedVariables false
open Go.RowKit
theorem zqD(hC:zbW)(a0 a1 a2 a3:Option Addr)(c0 c1 c2 c3:Nat)(R:Rl)(p q:Nat)(Z U h1 I:Int)(w:World)(hR:zaB R=0)(hL:zaS w ⟨a0,a1,a2,a3,c0,c1,c2,c3⟩ R)(hp:p<16)(hq:q<16)(hh:R.hs.getD p (0,0)=(h1,I)) :
  Calls Tryz.prog 16 #[.agg #[.slice a0 R.s.length c0,.slice a1 R.hs.length c1,.slice a2 R.i.length c2,.slice a3 R.t.length c3],.agg #[.int .i64 8,.int .i64 (p:Int),.int .i64 (q:Int),.int .i64 Z,.int .i64 U]] w (zfV R ⟨8,p,(q:Int),Z,U⟩ w):=by
 have a8:Hid (hd R (p:Int)=(h1,I)):=zfD hh;have HA:Hid (isH (p:Int)):=⟨by omega,by omega⟩;have a6:Hid (isH (q:Int)):=⟨by omega,by omega⟩;obtain⟨wf,d7,g0,ht⟩:=zax hR;have DI:Hid (∀ W,_):=fun W=>zct (p:Int) W (by omega);have e8:Hid (∀ W,_):=fun W=>zct (q:Int) W (by omega);have i2:(q:Int)<16:=by omega
 have DW:Hid (∀ W,zaS W ⟨a0,a1,a2,a3,c0,c1,c2,c3⟩ R->_):=fun W hW=>zcd a0 a1 a2 a3 c0 c1 c2 c3 R W hR hW;have HL:Hid (zaS w ⟨a0,a1,a2,a3,c0,c1,c2,c3⟩ R):=hL;have f6:Hid (zaY w a2 R.i):=hL.2.2.1;have J:Hid (R.hs.length=16):=d7;have a9:Hid (WF R.s):=wf;have HD:Hid (R.hs.getD p (0,0)=(h1,I)):=hh;have i0:(p:Int)<16:=by omega
 clear hL hR g0 hh d7 wf
 go_enter Tryz.func16,Tryz.ntmps16
 go_wp2_with fail
 refine yf (DI.out _) ?_;rintro e w' ⟨rfl,hw⟩;have b8:=hw.symm;clear hw;subst b8
 go_wp2_with fail
 refine yf (e8.out _) ?_;rintro e w' ⟨rfl,hw⟩;have b8:=hw.symm;clear hw;subst b8;have c9:Hid (Below w.heap.size w (((w.alloc (.cells #[.slice a0 R.s.length c0,.slice a1 R.hs.length c1,.slice a2 R.i.length c2,.slice a3 R.t.length c3] 31)).alloc (.cells #[.int .i64 8,.int .i64 (p:Int),.int .i64 (q:Int),.int .i64 Z,.int .i64 U] 41)).alloc (.cells #[.slice none 0 0,.slice none 0 0,.slice none 0 0,.slice none 0 0] 31))):=(zai w _ _).trans ((zab _ _).mono (by first|(simp;done)|(simp;omega)))
 go_wp2_with fail
 refine yf (DW.out _ (HL.out.below c9.out)) ?_;rintro e w1 ⟨v0,K,v1,v3,rfl,hb,hO,hH,hT⟩;obtain⟨s0,k0,rfl,_⟩:=hO.nds
 obtain⟨g,k1,rfl⟩:∃ g k1,v1=.slice (some ⟨g,0,none⟩) 16 k1:=by
  rcases hH.2 with ⟨rfl,h0⟩ |⟨g,cap,g8,rfl,_⟩
  ·omega
  ·exact⟨g,cap,rfl⟩
 obtain⟨t0,k3,rfl,_⟩:=zdV hT;simp only[yk] at hO hH hT;obtain⟨d8,q1,q2,h3,h4,br,bx,bz⟩:=zbP HL.out J.out HD.out hp hb hO hH hT;have HI:Hid (zbx w w1.heap.size R 8 (p:Int) (q:Int) Z U h1 I s0 k0 K g k1 a2 c2 t0 k3 (((((w1.setCell ⟨w.heap.size,0,none⟩ (.slice s0 R.s.length k0)).setCell ⟨w.heap.size,1,none⟩ (.slice (some ⟨g,0,none⟩) 16 k1)).setCell ⟨w.heap.size,2,none⟩ (.slice a2 R.i.length c2)).setCell ⟨w.heap.size,3,none⟩ (.slice t0 R.t.length k3)).alloc (.cells #[.int .i64 h1,.int .i64 I] 39))):=d8;obtain⟨l0,l1,l2,l3,fl,ll⟩:=zaa br;obtain⟨m0,m1,m2,m3,m4,lm⟩:=zaN bx;obtain⟨z0,z1,z2,z3,fz,lz⟩:=zaa bz;clear hb hO hH hT bx bz br d8 DW DI c9 HL
 go_upto_block 0 with fail
 go_cut [10,11] (fun s10 s11 wx=>∃ o E:Int,s10=.int .i64 o/\s11=.int .i64 E/\Hid (zcn w R ⟨8,(p:Int),(q:Int),Z,U⟩ o E wx))
 case first =>
  have b9:Hid (∀ V,zae V s0 R.s->Calls Tryz.prog 41 #[.agg #[.slice s0 R.s.length k0],.agg #[.int .i64 h1,.int .i64 I]] V fun e w' => e=.returned (.int .i64 (zas R.s h1 I))/\Below V.heap.size V w'):=fun V hV=>by
   have h:=zdu s0 k0 R.s h1 I V (by have:=a9.out.small;omega) hV;rw[zey a9.out] at h;exact h
  go_wp2_with fail
  refine yf (b9.out _ HI.out.nds) ?_;rintro e w2 ⟨rfl,hb⟩;have A:Hid (zbx w w1.heap.size R 8 (p:Int) (q:Int) Z U h1 I s0 k0 K g k1 a2 c2 t0 k3 w2):=HI.out.below hb;clear HI b9 hb;clear l0 l1 l2 l3 fl ll m0 m1 m2 m3 m4 lm z0 z1 z2 z3 fz lz q1 q2;obtain⟨l0,l1,l2,l3,fl,ll⟩:=zaa A.out.r;obtain⟨m0,m1,m2,m3,m4,lm⟩:=zaN A.out.x;obtain⟨z0,z1,z2,z3,fz,lz⟩:=zaa A.out.z;obtain⟨n0,n1,ln⟩:=zbg A.out.a;by_cases D:zas R.s h1 I=0
  ·rw[D]
   have b6:0<=h1/\h1<(R.s.length:Int):=by
    obtain⟨_,k,e,hk,_⟩:=zbz D;omega
   have g1:0<=h1:=b6.1;have g2:h1<(R.s.length:Int):=b6.2;clear b6;obtain⟨sg,f9,g5,g6⟩:=zlv A.out.own (by omega);subst f9;by_cases T:(nd R.s h1.toNat).p = -1
   ·have F:doG R ⟨8,(p:Int),(q:Int),Z,U⟩=ans 6 R 0:=by
     show doG _ _=_;unfold doG;dsimp only;rw[yd HA.out,ya (by decide),ya (by decide),ya (by decide),ya (by decide),ya (by decide),ya (by decide),ya (by decide),ya (by decide),yd (by decide),yd a6.out,ya (by decide),yd rfl,a8.out];unfold aUp ans upE;rw[yd D,yd T];rfl
    have M:Hid (zcn w R ⟨8,(p:Int),(q:Int),Z,U⟩ 0 6 w2):=A.out.ask J.out F;have c4:w2.cell? ⟨sg,h1.toNat*8+4,none⟩=some (.int .i64 (-1)):=(A.out.own.cellAt (i:=h1.toNat) (j:=4) (by omega) (by omega)).trans (by rw[<- T];rfl);have d9:sg<w2.heap.size:=ye _ _ c4;clear F D T
    go_wp2_with fail
    go_meet
    case rel=>exact⟨0,6,rfl,rfl,M⟩
   ·have b7:=zoG a9.out (k:=h1.toNat) (by omega) T
    have F:doG R ⟨8,(p:Int),(q:Int),Z,U⟩=⟨0,⟨R.s,R.hs.set q ((nd R.s h1.toNat).p,(nd R.s (nd R.s h1.toNat).p.toNat).n),R.i,R.t⟩,0⟩:=by
     show doG _ _=_;unfold doG;dsimp only;rw[yd HA.out,ya (by decide),ya (by decide),ya (by decide),ya (by decide),ya (by decide),ya (by decide),ya (by decide),ya (by decide),yd (by decide),yd a6.out,ya (by decide),yd rfl,a8.out];unfold aUp ans upE;rw[yd D,ya T,yd rfl];rfl
    have M:Hid _:=A.out.hst J.out f6.out hq F;have c4:w2.cell? ⟨sg,h1.toNat*8+4,none⟩=some (.int .i64 (nd R.s h1.toNat).p):=A.out.own.cellAt (i:=h1.toNat) (j:=4) (by omega) (by omega);clear F;generalize (nd R.s h1.toNat).p=pu at *;have g3:0<=pu:=b7.1;have g4:pu<(R.s.length:Int):=b7.2;have h9:(pu == -1)=false:=beq_eq_false_iff_ne.2 (by omega);have i1:decide (pu = -1)=false:=decide_eq_false (by omega);have g7:w2.cell? ⟨sg,pu.toNat*8+1,none⟩=some (.int .i64 (nd R.s pu.toNat).n):=A.out.own.cellAt (i:=pu.toNat) (j:=1) (by omega) (by omega);generalize (nd R.s pu.toNat).n=nu at *;dsimp only at M;clear b7 D T;have d9:sg<w2.heap.size:=ye _ _ c4;have g9:∀ o,w2.frozen? ⟨g,o,none⟩=false:=A.out.hs.frozenAt;have h5:g<w2.heap.size:=(A.out.hs.lt g rfl).2;have h6:w.heap.size+5<=g:=(A.out.hs.lt g rfl).1;have d6:g≠sg:=fun e=>zbH A.out.hs A.out.own.1 (by decide) g rfl (by rw[e];rfl);have i3:¬ w.heap.size=g:=by omega
    have i4:¬ w.heap.size+1=g:=by omega
    have i5:¬ sg=g:=fun e=>d6 e.symm;have i6:¬ g=w.heap.size:=by omega
    have i7:¬ g=w.heap.size+1:=by omega
    have i8:¬ g=sg:=d6
    obtain⟨o1,h7⟩:∃ v,w2.cell? ⟨g,q*2,none⟩=some v:=by
     obtain⟨y,_⟩:=zbt R.hs q (by rw[J.out];exact hq);have:=A.out.hs.cells (g:=g) rfl _ _ y;rw[Addr.add_lit,yv] at this;exact⟨_,this⟩
    obtain⟨o2,h8⟩:∃ v,w2.cell? ⟨g,q*2+1,none⟩=some v:=by
     obtain⟨_,y⟩:=zbt R.hs q (by rw[J.out];exact hq);have:=A.out.hs.cells (g:=g) rfl _ _ y;rw[Addr.add_lit,yv] at this;exact⟨_,this⟩
    go_wp2_with fail
    go_region_held3 (fun a5=>a5.cell? ⟨sg,pu.toNat*8+1,none⟩=some (.int .i64 nu)/\a5.cell? ⟨w.heap.size,0,none⟩=some (.slice (some ⟨sg,0,none⟩) R.s.length k0)/\a5.cell? ⟨w.heap.size,1,none⟩=some (.slice (some ⟨g,0,none⟩) 16 k1)/\a5.cell? ⟨w.heap.size+1,2,none⟩=some (.int .i64 (q:Int))) (go_keep) (fail)
    go_wp2_with fail
    go_meet
    case rel=>exact⟨0,0,rfl,rfl,M⟩
  ·have F:doG R ⟨8,(p:Int),(q:Int),Z,U⟩=ans (zas R.s h1 I) R 0:=by
    show doG _ _=_;unfold doG;dsimp only;rw[yd HA.out,ya (by decide),ya (by decide),ya (by decide),ya (by decide),ya (by decide),ya (by decide),ya (by decide),ya (by decide),yd (by decide),yd a6.out,ya (by decide),yd rfl,a8.out];unfold aUp ans upE;rw[ya D,ya D,ya D]
   have M:Hid (zcn w R ⟨8,(p:Int),(q:Int),Z,U⟩ 0 (zas R.s h1 I) w2):=A.out.ask J.out F;have y1:decide (zas R.s h1 I=0)=false:=decide_eq_false D;have y2:(zas R.s h1 I == 0)=false:=beq_eq_false_iff_ne.2 D;have y3:(zas R.s h1 I != 0)=true:=by simp[D]
   generalize zas R.s h1 I=E at *;clear F
   go_wp2_with fail
   go_meet
   case rel=>exact⟨0,E,rfl,rfl,M⟩
 case rest =>
 obtain⟨o,E,rfl,rfl,HR⟩:=hcut;obtain⟨W9,rfl⟩:∃ W,W=wc:=⟨_,rfl⟩;clear HI l0 l1 l2 l3 fl ll m0 m1 m2 m3 m4 lm z0 z1 z2 z3 fz lz q1 q2;by_cases D:E=0
 ·obtain⟨b0,b1,b2,b3,d0,d1,d2,d3,Q,hd,O,hr⟩:=HR.out.ok D;subst D;have c8:Hid _:=hd;have f0:Hid _:=HR.out.bel;have f8:Hid _:=hr;have l0:W9.cell? ⟨w.heap.size,0,none⟩=some (.slice b0 Q.s.length d0):=(zaa O).1;have l1:W9.cell? ⟨w.heap.size,1,none⟩=some (.slice b1 Q.hs.length d1):=(zaa O).2.1;have l2:W9.cell? ⟨w.heap.size,2,none⟩=some (.slice b2 Q.i.length d2):=(zaa O).2.2.1;have l3:W9.cell? ⟨w.heap.size,3,none⟩=some (.slice b3 Q.t.length d3):=(zaa O).2.2.2.1;have ll:=zaC O;have BZ:=HR.out.z;obtain⟨z0,z1,z2,z3,fz,lz⟩:=zaa BZ;clear hd hr O HR
  go_wp2_with fail
  obtain⟨W8,b5⟩:∃ W8,W8=((((W9.setCell ⟨w.heap.size+1+1,0,none⟩ (.slice b0 Q.s.length d0)).setCell ⟨w.heap.size+1+1,1,none⟩ (.slice b1 Q.hs.length d1)).setCell ⟨w.heap.size+1+1,2,none⟩ (.slice b2 Q.i.length d2)).setCell ⟨w.heap.size+1+1,3,none⟩ (.slice b3 Q.t.length d3)):=⟨_,rfl⟩;rw[<- b5];obtain⟨a4,a7,f7⟩:=zbb BZ f0.out f8.out b5;clear z0 z1 z2 z3 fz lz l0 l1 l2 l3 ll b5;obtain⟨z0,z1,z2,z3,fz,lz⟩:=zaa a4;exact yq (v:=.tuple #[.agg #[.slice b0 Q.s.length d0,.slice b1 Q.hs.length d1,.slice b2 Q.i.length d2,.slice b3 Q.t.length d3],.int .i64 o,.int .i64 0]) (by simp[results,Tryz.results16,go_sem,z0,z1,z2,z3]) rfl ⟨⟨b0,b1,b2,b3,d0,d1,d2,d3⟩,by rw[c8.out],a7,by rw[c8.out];exact f7⟩
 ·have y1:decide (E=0)=false:=decide_eq_false D;have y2:(E == 0)=false:=beq_eq_false_iff_ne.2 D;have y3:(E != 0)=true:=by simp[D]
  have c6:Hid (doG R ⟨8,(p:Int),(q:Int),Z,U⟩=bad E):=HR.out.bad D;have c7:Hid (Below w.heap.size w W9):=HR.out.bel;have e7:Hid (W9.heap[w.heap.size+1+1]?=some (.cells #[.slice none 0 0,.slice none 0 0,.slice none 0 0,.slice none 0 0] 31 (0,0))):=HR.out.z;clear HR
  go_wp2_with fail
  refine yf (zbk E _) ?_;rintro e w8 ⟨rfl,hb⟩;have a7:Hid (Below w.heap.size w w8):=c7.out.trans (hb.mono c7.out.size);have a4:=zaU e7.out hb;clear hb;obtain⟨z0,z1,z2,z3,fz,lz⟩:=zaa a4
  go_wp2_with fail
  obtain⟨W7,b4⟩:∃ W7,W7=((((w8.setCell ⟨w.heap.size+1+1,0,none⟩ (.slice none 0 0)).setCell ⟨w.heap.size+1+1,1,none⟩ (.slice none 0 0)).setCell ⟨w.heap.size+1+1,2,none⟩ (.slice none 0 0)).setCell ⟨w.heap.size+1+1,3,none⟩ (.slice none 0 0)):=⟨_,rfl⟩;rw[<- b4];obtain⟨e6,e9,_⟩:=zbb (Q:=zaW) (b0:=none) (b1:=none) (b2:=none) (b3:=none) (d0:=0) (d1:=0) (d2:=0) (d3:=0) a4 a7.out (zaO _ _) b4;clear z0 z1 z2 z3 fz lz b4;have e0:W7.heap[w.heap.size+1+1]?=some (.cells #[.slice none 0 0,.slice none 0 0,.slice none 0 0,.slice none 0 0] 31 (0,0)):=e6;obtain⟨z0,z1,z2,z3,fz,lz⟩:=zaa e0;exact yq (v:=.tuple #[.agg #[.slice none 0 0,.slice none 0 0,.slice none 0 0,.slice none 0 0],.int .i64 0,.int .i64 E]) (by simp[results,Tryz.results16,go_sem,z0,z1,z2,z3]) rfl ⟨⟨none,none,none,none,0,0,0,0⟩,by rw[c6.out];rfl,e9,by rw[c6.out];exact zaO _ _⟩
theorem zkt(a0 a1 a2 a3:Option Addr)(c0 c1 c2 c3:Nat)(R:Rl)(M O xs xn:Int)(w:World)(ha:isH M)(I:¬ isH O) :
  Calls Tryz.prog 16 #[.agg #[.slice a0 R.s.length c0,.slice a1 R.hs.length c1,.slice a2 R.i.length c2,.slice a3 R.t.length c3],.agg #[.int .i64 3,.int .i64 M,.int .i64 O,.int .i64 xs,.int .i64 xn]] w fun e w' => e=.returned (.tuple #[.agg #[.slice none 0 0,.slice none 0 0,.slice none 0 0,.slice none 0 0],.int .i64 0,.int .i64 4])/\Below w.heap.size w w' := by
 have DI:Hid (∀ W,_):=fun W=>zct M W ha;have V:Hid (∀ W,_):=fun W=>zlt O W I
 go_enter Tryz.func16,Tryz.ntmps16
 go_wp2_with fail
 refine yf (DI.out _) ?_;rintro e w' ⟨rfl,J⟩;have D:=J.symm;clear J;subst D
 go_wp2_with fail
 refine yf (V.out _) ?_;rintro e w' ⟨rfl,J⟩;have D:=J.symm;clear J;subst D
 go_wp2_with fail
 refine yf (zbk 4 _) ?_;rintro e w1 ⟨rfl,I⟩;have Z:Hid (Below w.heap.size w w1):=((zai w _ _).trans ((zab _ _).mono (by first|(simp;done)|(simp;omega)))).trans (I.mono (by first|(simp;done)|(simp;omega)));have T:w1.heap[w.heap.size+1+1]?=some (.cells #[.slice none 0 0,.slice none 0 0,.slice none 0 0,.slice none 0 0] 31 (0,0)):=(I.block _ (by simp)).trans (by simpa using heap_alloc_new ((w.alloc (.cells #[.slice a0 R.s.length c0,.slice a1 R.hs.length c1,.slice a2 R.i.length c2,.slice a3 R.t.length c3] 31)).alloc (.cells #[.int .i64 3,.int .i64 M,.int .i64 O,.int .i64 xs,.int .i64 xn] 41)) (.cells #[.slice none 0 0,.slice none 0 0,.slice none 0 0,.slice none 0 0] 31));obtain⟨z0,z1,z2,z3,fz,lz⟩:=zaa T;clear I
 go_wp2_with fail
 obtain⟨F,A⟩:∃ F,F=((((w1.setCell ⟨w.heap.size+1+1,0,none⟩ (.slice none 0 0)).setCell ⟨w.heap.size+1+1,1,none⟩ (.slice none 0 0)).setCell ⟨w.heap.size+1+1,2,none⟩ (.slice none 0 0)).setCell ⟨w.heap.size+1+1,3,none⟩ (.slice none 0 0)):=⟨_,rfl⟩;rw[<- A]
 have U:F.heap[w.heap.size+1+1]?=some (.cells #[.slice none 0 0,.slice none 0 0,.slice none 0 0,.slice none 0 0] 31 (0,0)):=by
  rw[A];exact zbl T
 have a4:Hid (Below w.heap.size w F):=(by rw[A];exact(((Z.out.setCell (by show w.heap.size<=w.heap.size+1+1;omega) _).setCell (by show w.heap.size<=w.heap.size+1+1;omega) _).setCell (by show w.heap.size<=w.heap.size+1+1;omega) _).setCell (by show w.heap.size<=w.heap.size+1+1;omega) _:Below w.heap.size w F);clear z0 z1 z2 z3 fz lz A T;obtain⟨z0,z1,z2,z3,fz,lz⟩:=zaa U;exact yq (v:=.tuple #[.agg #[.slice none 0 0,.slice none 0 0,.slice none 0 0,.slice none 0 0],.int .i64 0,.int .i64 4]) (by simp[results,Tryz.results16,go_sem,z0,z1,z2,z3]) rfl ⟨rfl,a4.out⟩
theorem zjo(a0 a1 a2 a3:Option Addr)(c0 c1 c2 c3:Nat)(R:Rl)(M O xs xn:Int)(w:World)(ha:isH M)(I:¬ isH O) :
  Calls Tryz.prog 16 #[.agg #[.slice a0 R.s.length c0,.slice a1 R.hs.length c1,.slice a2 R.i.length c2,.slice a3 R.t.length c3],.agg #[.int .i64 7,.int .i64 M,.int .i64 O,.int .i64 xs,.int .i64 xn]] w fun e w' => e=.returned (.tuple #[.agg #[.slice none 0 0,.slice none 0 0,.slice none 0 0,.slice none 0 0],.int .i64 0,.int .i64 4])/\Below w.heap.size w w' := by
 have DI:Hid (∀ W,_):=fun W=>zct M W ha;have V:Hid (∀ W,_):=fun W=>zlt O W I
 go_enter Tryz.func16,Tryz.ntmps16
 go_wp2_with fail
 refine yf (DI.out _) ?_;rintro e w' ⟨rfl,J⟩;have D:=J.symm;clear J;subst D
 go_wp2_with fail
 refine yf (V.out _) ?_;rintro e w' ⟨rfl,J⟩;have D:=J.symm;clear J;subst D
 go_wp2_with fail
 refine yf (zbk 4 _) ?_;rintro e w1 ⟨rfl,I⟩;have Z:Hid (Below w.heap.size w w1):=((zai w _ _).trans ((zab _ _).mono (by first|(simp;done)|(simp;omega)))).trans (I.mono (by first|(simp;done)|(simp;omega)));have T:w1.heap[w.heap.size+1+1]?=some (.cells #[.slice none 0 0,.slice none 0 0,.slice none 0 0,.slice none 0 0] 31 (0,0)):=(I.block _ (by simp)).trans (by simpa using heap_alloc_new ((w.alloc (.cells #[.slice a0 R.s.length c0,.slice a1 R.hs.length c1,.slice a2 R.i.length c2,.slice a3 R.t.length c3] 31)).alloc (.cells #[.int .i64 7,.int .i64 M,.int .i64 O,.int .i64 xs,.int .i64 xn] 41)) (.cells #[.slice none 0 0,.slice none 0 0,.slice none 0 0,.slice none 0 0] 31));obtain⟨z0,z1,z2,z3,fz,lz⟩:=zaa T;clear I
 go_wp2_with fail
 obtain⟨F,A⟩:∃ F,F=((((w1.setCell ⟨w.heap.size+1+1,0,none⟩ (.slice none 0 0)).setCell ⟨w.heap.size+1+1,1,none⟩ (.slice none 0 0)).setCell ⟨w.heap.size+1+1,2,none⟩ (.slice none 0 0)).setCell ⟨w.heap.size+1+1,3,none⟩ (.slice none 0 0)):=⟨_,rfl⟩;rw[<- A]
 have U:F.heap[w.heap.size+1+1]?=some (.cells #[.slice none 0 0,.slice none 0 0,.slice none 0 0,.slice none 0 0] 31 (0,0)):=by
  rw[A];exact zbl T
 have a4:Hid (Below w.heap.size w F):=(by rw[A];exact(((Z.out.setCell (by show w.heap.size<=w.heap.size+1+1;omega) _).setCell (by show w.heap.size<=w.heap.size+1+1;omega) _).setCell (by show w.heap.size<=w.heap.size+1+1;omega) _).setCell (by show w.heap.size<=w.heap.size+1+1;omega) _:Below w.heap.size w F);clear z0 z1 z2 z3 fz lz A T;obtain⟨z0,z1,z2,z3,fz,lz⟩:=zaa U;exact yq (v:=.tuple #[.agg #[.slice none 0 0,.slice none 0 0,.slice none 0 0,.slice none 0 0],.int .i64 0,.int .i64 4]) (by simp[results,Tryz.results16,go_sem,z0,z1,z2,z3]) rfl ⟨rfl,a4.out⟩
theorem zmJ(a0 a1 a2 a3:Option Addr)(c0 c1 c2 c3:Nat)(R:Rl)(M O xs xn:Int)(w:World)(ha:isH M)(I:¬ isH O) :
  Calls Tryz.prog 16 #[.agg #[.slice a0 R.s.length c0,.slice a1 R.hs.length c1,.slice a2 R.i.length c2,.slice a3 R.t.length c3],.agg #[.int .i64 8,.int .i64 M,.int .i64 O,.int .i64 xs,.int .i64 xn]] w fun e w' => e=.returned (.tuple #[.agg #[.slice none 0 0,.slice none 0 0,.slice none 0 0,.slice none 0 0],.int .i64 0,.int .i64 4])/\Below w.heap.size w w' := by
 have DI:Hid (∀ W,_):=fun W=>zct M W ha;have V:Hid (∀ W,_):=fun W=>zlt O W I
 go_enter Tryz.func16,Tryz.ntmps16
 go_wp2_with fail
 refine yf (DI.out _) ?_;rintro e w' ⟨rfl,J⟩;have D:=J.symm;clear J;subst D
 go_wp2_with fail
 refine yf (V.out _) ?_;rintro e w' ⟨rfl,J⟩;have D:=J.symm;clear J;subst D
 go_wp2_with fail
 refine yf (zbk 4 _) ?_;rintro e w1 ⟨rfl,I⟩;have Z:Hid (Below w.heap.size w w1):=((zai w _ _).trans ((zab _ _).mono (by first|(simp;done)|(simp;omega)))).trans (I.mono (by first|(simp;done)|(simp;omega)));have T:w1.heap[w.heap.size+1+1]?=some (.cells #[.slice none 0 0,.slice none 0 0,.slice none 0 0,.slice none 0 0] 31 (0,0)):=(I.block _ (by simp)).trans (by simpa using heap_alloc_new ((w.alloc (.cells #[.slice a0 R.s.length c0,.slice a1 R.hs.length c1,.slice a2 R.i.length c2,.slice a3 R.t.length c3] 31)).alloc (.cells #[.int .i64 8,.int .i64 M,.int .i64 O,.int .i64 xs,.int .i64 xn] 41)) (.cells #[.slice none 0 0,.slice none 0 0,.slice none 0 0,.slice none 0 0] 31));obtain⟨z0,z1,z2,z3,fz,lz⟩:=zaa T;clear I
 go_wp2_with fail
 obtain⟨F,A⟩:∃ F,F=((((w1.setCell ⟨w.heap.size+1+1,0,none⟩ (.slice none 0 0)).setCell ⟨w.heap.size+1+1,1,none⟩ (.slice none 0 0)).setCell ⟨w.heap.size+1+1,2,none⟩ (.slice none 0 0)).setCell ⟨w.heap.size+1+1,3,none⟩ (.slice none 0 0)):=⟨_,rfl⟩;rw[<- A]
 have U:F.heap[w.heap.size+1+1]?=some (.cells #[.slice none 0 0,.slice none 0 0,.slice none 0 0,.slice none 0 0] 31 (0,0)):=by
  rw[A];exact zbl T
 have a4:Hid (Below w.heap.size w F):=(by rw[A];exact(((Z.out.setCell (by show w.heap.size<=w.heap.size+1+1;omega) _).setCell (by show w.heap.size<=w.heap.size+1+1;omega) _).setCell (by show w.heap.size<=w.heap.size+1+1;omega) _).setCell (by show w.heap.size<=w.heap.size+1+1;omega) _:Below w.heap.size w F);clear z0 z1 z2 z3 fz lz A T;obtain⟨z0,z1,z2,z3,fz,lz⟩:=zaa U;exact yq (v:=.tuple #[.agg #[.slice none 0 0,.slice none 0 0,.slice none 0 0,.slice none 0 0],.int .i64 0,.int .i64 4]) (by simp[results,Tryz.results16,go_sem,z0,z1,z2,z3]) rfl ⟨rfl,a4.out⟩
theorem zrU(a0 a1 a2 a3:Option Addr)(c0 c1 c2 c3:Nat)(R:Rl)(M O T xn:Int)(w:World)(ha:isH M)(I:isH O)(hc:15<T) :
  Calls Tryz.prog 16 #[.agg #[.slice a0 R.s.length c0,.slice a1 R.hs.length c1,.slice a2 R.i.length c2,.slice a3 R.t.length c3],.agg #[.int .i64 3,.int .i64 M,.int .i64 O,.int .i64 T,.int .i64 xn]] w fun e w' => e=.returned (.tuple #[.agg #[.slice none 0 0,.slice none 0 0,.slice none 0 0,.slice none 0 0],.int .i64 0,.int .i64 4])/\Below w.heap.size w w' := by
 have DI:Hid (∀ W,_):=fun W=>zct M W ha;have Z:Hid (∀ W,_):=fun W=>zct O W I;have a6:decide ((15:Int)<T)=true:=decide_eq_true hc
 go_enter Tryz.func16,Tryz.ntmps16
 go_wp2_with fail
 refine yf (DI.out _) ?_;rintro e w' ⟨rfl,J⟩;have D:=J.symm;clear J;subst D
 go_wp2_with fail
 refine yf (Z.out _) ?_;rintro e w' ⟨rfl,J⟩;have D:=J.symm;clear J;subst D
 go_wp2_with fail
 refine yf (zbk 4 _) ?_;rintro e w1 ⟨rfl,I⟩;have a4:Hid (Below w.heap.size w w1):=((zai w _ _).trans ((zab _ _).mono (by first|(simp;done)|(simp;omega)))).trans (I.mono (by first|(simp;done)|(simp;omega)));have U:w1.heap[w.heap.size+1+1]?=some (.cells #[.slice none 0 0,.slice none 0 0,.slice none 0 0,.slice none 0 0] 31 (0,0)):=(I.block _ (by simp)).trans (by simpa using heap_alloc_new ((w.alloc (.cells #[.slice a0 R.s.length c0,.slice a1 R.hs.length c1,.slice a2 R.i.length c2,.slice a3 R.t.length c3] 31)).alloc (.cells #[.int .i64 3,.int .i64 M,.int .i64 O,.int .i64 T,.int .i64 xn] 41)) (.cells #[.slice none 0 0,.slice none 0 0,.slice none 0 0,.slice none 0 0] 31));obtain⟨z0,z1,z2,z3,fz,lz⟩:=zaa U;clear I
 go_wp2_with fail
 obtain⟨F,A⟩:∃ F,F=((((w1.setCell ⟨w.heap.size+1+1,0,none⟩ (.slice none 0 0)).setCell ⟨w.heap.size+1+1,1,none⟩ (.slice none 0 0)).setCell ⟨w.heap.size+1+1,2,none⟩ (.slice none 0 0)).setCell ⟨w.heap.size+1+1,3,none⟩ (.slice none 0 0)):=⟨_,rfl⟩;rw[<- A]
 have V:F.heap[w.heap.size+1+1]?=some (.cells #[.slice none 0 0,.slice none 0 0,.slice none 0 0,.slice none 0 0] 31 (0,0)):=by
  rw[A];exact zbl U
 have a5:Hid (Below w.heap.size w F):=(by rw[A];exact(((a4.out.setCell (by show w.heap.size<=w.heap.size+1+1;omega) _).setCell (by show w.heap.size<=w.heap.size+1+1;omega) _).setCell (by show w.heap.size<=w.heap.size+1+1;omega) _).setCell (by show w.heap.size<=w.heap.size+1+1;omega) _:Below w.heap.size w F);clear z0 z1 z2 z3 fz lz A U;obtain⟨z0,z1,z2,z3,fz,lz⟩:=zaa V;exact yq (v:=.tuple #[.agg #[.slice none 0 0,.slice none 0 0,.slice none 0 0,.slice none 0 0],.int .i64 0,.int .i64 4]) (by simp[results,Tryz.results16,go_sem,z0,z1,z2,z3]) rfl ⟨rfl,a5.out⟩
end Go.Proofs.YtgjfmepbphfjoaaGreat
