/-
  x
-/
import Derived.Test.YtgjfmepbphfjoaaGreatQ34
import Derived.Deep.CutBlock
namespace Go.Proofs.YtgjfmepbphfjoaaGreat
set_option maxRecDepth 100000
set_option maxHeartbeats 4000000
set_option linter.unusedVariables false
open Go.RowKit
theorem zqy(hC:zbW)(a0 a1 a2 a3:Option Addr)(c0 c1 c2 c3:Nat)(R:Rl)(p:Nat)(O T U I h1 D:Int)(w:World)(hR:zaB R=0)(hL:zaS w ⟨a0,a1,a2,a3,c0,c1,c2,c3⟩ R)(hp:p<16)(hh:R.hs.getD p (0,0)=(h1,D))(hk:O=6\/O=5) :
  Calls Tryz.prog 16 #[.agg #[.slice a0 R.s.length c0,.slice a1 R.hs.length c1,.slice a2 R.i.length c2,.slice a3 R.t.length c3],.agg #[.int .i64 O,.int .i64 (p:Int),.int .i64 T,.int .i64 U,.int .i64 I]] w (zfV R ⟨O,p,T,U,I⟩ w):=by
 have Z:O≠3/\O≠7/\O≠8:=by omega
 have d3:decide (O=3)=false:=decide_eq_false Z.1;have b3:(O == 3)=false:=beq_eq_false_iff_ne.2 Z.1;have d7:decide (O=7)=false:=decide_eq_false Z.2.1;have b7:(O == 7)=false:=beq_eq_false_iff_ne.2 Z.2.1;have d8:decide (O=8)=false:=decide_eq_false Z.2.2;have b8:(O == 8)=false:=beq_eq_false_iff_ne.2 Z.2.2;have b5:Hid (hd R (p:Int)=(h1,D)):=zfD hh;have HA:Hid (isH (p:Int)):=⟨by omega,by omega⟩;clear Z;obtain⟨wf,e8,g6,ht⟩:=zax hR;have DI:Hid (∀ W,_):=fun W=>zct (p:Int) W (by omega);have DW:Hid (∀ W,zaS W ⟨a0,a1,a2,a3,c0,c1,c2,c3⟩ R->_):=fun W hW=>zcd a0 a1 a2 a3 c0 c1 c2 c3 R W hR hW;have HL:Hid (zaS w ⟨a0,a1,a2,a3,c0,c1,c2,c3⟩ R):=hL;have g3:Hid (zaY w a2 R.i):=hL.2.2.1;have a5:Hid (R.hs.length=16):=e8;have b6:Hid (WF R.s):=wf;have HD:Hid (R.hs.getD p (0,0)=(h1,D)):=hh;have h6:(p:Int)<16:=by omega
 clear hL hR g6 hh e8 wf
 go_enter Tryz.func16,Tryz.ntmps16
 go_wp2_with fail
 refine yf (DI.out _) ?_;rintro e w' ⟨rfl,hw⟩;have a8:=hw.symm;clear hw;subst a8;have e7:Hid (Below w.heap.size w (((w.alloc (.cells #[.slice a0 R.s.length c0,.slice a1 R.hs.length c1,.slice a2 R.i.length c2,.slice a3 R.t.length c3] 31)).alloc (.cells #[.int .i64 O,.int .i64 (p:Int),.int .i64 T,.int .i64 U,.int .i64 I] 41)).alloc (.cells #[.slice none 0 0,.slice none 0 0,.slice none 0 0,.slice none 0 0] 31))):=(zai w _ _).trans ((zab _ _).mono (by first|(simp;done)|(simp;omega)))
 go_wp2_with fail
 refine yf (DW.out _ (HL.out.below e7.out)) ?_;rintro e w1 ⟨v0,K,v1,v3,rfl,hb,hO,hH,hT⟩;obtain⟨s0,k0,rfl,_⟩:=hO.nds
 obtain⟨g,k1,rfl⟩:∃ g k1,v1=.slice (some ⟨g,0,none⟩) 16 k1:=by
  rcases hH.2 with ⟨rfl,h0⟩ |⟨g,cap,g9,rfl,_⟩
  ·omega
  ·exact⟨g,cap,rfl⟩
 obtain⟨t0,k3,rfl,_⟩:=zdV hT;simp only[yk] at hO hH hT;obtain⟨e9,q1,q2,h4,h5,br,bx,bz⟩:=zbP HL.out a5.out HD.out hp hb hO hH hT;have HI:Hid (zbx w w1.heap.size R O (p:Int) T U I h1 D s0 k0 K g k1 a2 c2 t0 k3 (((((w1.setCell ⟨w.heap.size,0,none⟩ (.slice s0 R.s.length k0)).setCell ⟨w.heap.size,1,none⟩ (.slice (some ⟨g,0,none⟩) 16 k1)).setCell ⟨w.heap.size,2,none⟩ (.slice a2 R.i.length c2)).setCell ⟨w.heap.size,3,none⟩ (.slice t0 R.t.length k3)).alloc (.cells #[.int .i64 h1,.int .i64 D] 39))):=e9;obtain⟨l0,l1,l2,l3,fl,ll⟩:=zaa br;obtain⟨m0,m1,m2,m3,m4,lm⟩:=zaN bx;obtain⟨z0,z1,z2,z3,fz,lz⟩:=zaa bz;clear hb hO hH hT bx bz br e9 DW DI e7 HL
 go_upto_block 0 with fail
 go_cut [10,11] (fun s10 s11 wx=>∃ o E:Int,s10=.int .i64 o/\s11=.int .i64 E/\Hid (zcn w R ⟨O,(p:Int),T,U,I⟩ o E wx))
 case first =>
  rcases hk with rfl|rfl
  ·have a7:Hid (∀ V,zae V s0 R.s->Calls Tryz.prog 41 #[.agg #[.slice s0 R.s.length k0],.agg #[.int .i64 h1,.int .i64 D]] V fun e w' => e=.returned (.int .i64 (zas R.s h1 D))/\Below V.heap.size V w'):=fun V hV=>by
    have h:=zdu s0 k0 R.s h1 D V (by have:=b6.out.small;omega) hV;rw[zey b6.out] at h;exact h
   have b4:Hid (doG R ⟨6,(p:Int),T,U,I⟩=ans (zas R.s h1 D) R (nd R.s h1.toNat).m):=by show doG _ _=_;unfold doG;dsimp only;rw[yd HA.out,ya (by decide),ya (by decide),ya (by decide),yd rfl,b5.out];rfl
   go_wp2_with fail
   refine yf (a7.out _ HI.out.nds) ?_;rintro e w2 ⟨rfl,hb⟩;have A:Hid (zbx w w1.heap.size R 6 (p:Int) T U I h1 D s0 k0 K g k1 a2 c2 t0 k3 w2):=HI.out.below hb;clear HI a7 hb;clear l0 l1 l2 l3 fl ll m0 m1 m2 m3 m4 lm z0 z1 z2 z3 fz lz q1 q2;obtain⟨l0,l1,l2,l3,fl,ll⟩:=zaa A.out.r;obtain⟨m0,m1,m2,m3,m4,lm⟩:=zaN A.out.x;obtain⟨z0,z1,z2,z3,fz,lz⟩:=zaa A.out.z;obtain⟨n0,n1,ln⟩:=zbg A.out.a;by_cases F:zas R.s h1 D=0
   ·have J:Hid (zcn w R ⟨6,(p:Int),T,U,I⟩ (nd R.s h1.toNat).m 0 w2):=A.out.ask a5.out (by rw[b4.out,F])
    have a4:0<=h1/\h1<(R.s.length:Int):=by
     obtain⟨_,k,e,hk,_⟩:=zbz F;omega
    have f0:0<=h1:=a4.1;have f6:h1<(R.s.length:Int):=a4.2;clear a4;obtain⟨sb,so,c7,_,_,_,w3,_⟩:=A.out.nds h1.toNat (by omega);subst c7;have h8:sb<w2.heap.size:=ye _ _ w3;rw[F];generalize (nd R.s h1.toNat).m=told at *;clear b4
    go_wp2_with fail
    go_meet
    case rel=>exact⟨told,0,rfl,rfl,J⟩
   ·have J:Hid (zcn w R ⟨6,(p:Int),T,U,I⟩ 0 (zas R.s h1 D) w2):=A.out.ask a5.out (b4.out.trans (zjL fun h=>absurd h F));have y1:decide (zas R.s h1 D=0)=false:=decide_eq_false F;have y2:(zas R.s h1 D == 0)=false:=beq_eq_false_iff_ne.2 F;have y3:(zas R.s h1 D != 0)=true:=by simp[F]
    generalize zas R.s h1 D=E at *;clear b4
    go_wp2_with fail
    go_meet
    case rel=>exact⟨0,E,rfl,rfl,J⟩
  ·have a7:Hid (∀ V,zae V s0 R.s->Calls Tryz.prog 41 #[.agg #[.slice s0 R.s.length k0],.agg #[.int .i64 h1,.int .i64 D]] V fun e w' => e=.returned (.int .i64 (zas R.s h1 D))/\Below V.heap.size V w'):=fun V hV=>by
    have h:=zdu s0 k0 R.s h1 D V (by have:=b6.out.small;omega) hV;rw[zey b6.out] at h;exact h
   go_wp2_with fail
   refine yf (a7.out _ HI.out.nds) ?_;rintro e w2 ⟨rfl,hb⟩;have A:Hid (zbx w w1.heap.size R 5 (p:Int) T U I h1 D s0 k0 K g k1 a2 c2 t0 k3 w2):=HI.out.below hb;clear HI a7 hb;clear l0 l1 l2 l3 fl ll m0 m1 m2 m3 m4 lm z0 z1 z2 z3 fz lz q1 q2;obtain⟨l0,l1,l2,l3,fl,ll⟩:=zaa A.out.r;obtain⟨m0,m1,m2,m3,m4,lm⟩:=zaN A.out.x;obtain⟨z0,z1,z2,z3,fz,lz⟩:=zaa A.out.z;obtain⟨n0,n1,ln⟩:=zbg A.out.a;by_cases F:zas R.s h1 D=0
   ·rw[F];by_cases hr:-1000000<=I/\I<=1000000
    ·have b9:Hid (∀ W,_):=fun W=>zgk I W true (decide_eq_true hr)
     have a4:0<=h1/\h1<(R.s.length:Int):=by
      obtain⟨_,k,e,hk,_⟩:=zbz F;omega
     have f0:0<=h1:=a4.1;have f6:h1<(R.s.length:Int):=a4.2;clear a4
     have M:doG R ⟨5,(p:Int),T,U,I⟩=⟨0,⟨R.s.set h1.toNat { nd R.s h1.toNat with m:=I },R.hs,R.i,R.t⟩,0⟩:=by
      show doG _ _=_;unfold doG;dsimp only;rw[yd HA.out,ya (by decide),ya (by decide),ya (by decide),ya (by decide),yd rfl,b5.out];unfold zkN ans zlk;rw[yd F,yd hr,yd rfl];rfl
     have e6:Hid _:=M;obtain⟨sg,c7,g7,g8⟩:=zlv A.out.own (by omega);subst c7;have J:Hid _:=A.out.mrk a5.out g3.out (k:=h1.toNat) (n:=I) (by omega) e6.out;have h3:=A.out.own.frozenAt;have h7:w.heap.size<sg:=by omega
     have f7:w2.cell? ⟨sg,h1.toNat*8+3,none⟩=some (.int .i64 (nd R.s h1.toNat).m):=A.out.own.cellAt (i:=h1.toNat) (j:=3) (by omega) (by omega);clear M hr F e6;generalize (nd R.s h1.toNat).m=om at f7
     go_wp2_with fail
     refine yf (b9.out _) ?_;rintro e w' ⟨rfl,hw⟩;have a8:=hw.symm;clear hw;subst a8
     go_wp2_with fail
     go_meet
     case rel=>exact⟨0,0,rfl,rfl,J⟩
    ·have b9:Hid (∀ W,_):=fun W=>zgk I W false (decide_eq_false hr)
     have M:doG R ⟨5,(p:Int),T,U,I⟩=ans 2 R 0:=by
      show doG _ _=_;unfold doG;dsimp only;rw[yd HA.out,ya (by decide),ya (by decide),ya (by decide),ya (by decide),yd rfl,b5.out];unfold zkN ans zlk;rw[yd F,ya hr];rfl
     have J:Hid (zcn w R ⟨5,(p:Int),T,U,I⟩ 0 2 w2):=A.out.ask a5.out M;clear M hr F
     go_wp2_with fail
     refine yf (b9.out _) ?_;rintro e w' ⟨rfl,hw⟩;have a8:=hw.symm;clear hw;subst a8
     go_wp2_with fail
     go_meet
     case rel=>exact⟨0,2,rfl,rfl,J⟩
   ·have M:doG R ⟨5,(p:Int),T,U,I⟩=ans (zas R.s h1 D) R 0:=by
     show doG _ _=_;unfold doG;dsimp only;rw[yd HA.out,ya (by decide),ya (by decide),ya (by decide),ya (by decide),yd rfl,b5.out];unfold zkN ans zlk;rw[ya F,ya F,ya F]
    have J:Hid (zcn w R ⟨5,(p:Int),T,U,I⟩ 0 (zas R.s h1 D) w2):=A.out.ask a5.out M;have y1:decide (zas R.s h1 D=0)=false:=decide_eq_false F;have y2:(zas R.s h1 D == 0)=false:=beq_eq_false_iff_ne.2 F;have y3:(zas R.s h1 D != 0)=true:=by simp[F]
    generalize zas R.s h1 D=E at *;clear M
    go_wp2_with fail
    go_meet
    case rel=>exact⟨0,E,rfl,rfl,J⟩
 case rest =>
 obtain⟨o,E,rfl,rfl,HR⟩:=hcut;obtain⟨W9,rfl⟩:∃ W,W=wc:=⟨_,rfl⟩;clear HI l0 l1 l2 l3 fl ll m0 m1 m2 m3 m4 lm z0 z1 z2 z3 fz lz q1 q2;by_cases F:E=0
 ·obtain⟨b0,b1,b2,b3,d0,d1,d2,d3,Q,hd,a6,hr⟩:=HR.out.ok F;subst F;have e0:Hid _:=hd;have g2:Hid _:=HR.out.bel;have g5:Hid _:=hr;have l0:W9.cell? ⟨w.heap.size,0,none⟩=some (.slice b0 Q.s.length d0):=(zaa a6).1;have l1:W9.cell? ⟨w.heap.size,1,none⟩=some (.slice b1 Q.hs.length d1):=(zaa a6).2.1;have l2:W9.cell? ⟨w.heap.size,2,none⟩=some (.slice b2 Q.i.length d2):=(zaa a6).2.2.1;have l3:W9.cell? ⟨w.heap.size,3,none⟩=some (.slice b3 Q.t.length d3):=(zaa a6).2.2.2.1;have ll:=zaC a6;have BZ:=HR.out.z;obtain⟨z0,z1,z2,z3,fz,lz⟩:=zaa BZ;clear hd hr a6 HR
  go_wp2_with fail
  obtain⟨W8,c9⟩:∃ W8,W8=((((W9.setCell ⟨w.heap.size+1+1,0,none⟩ (.slice b0 Q.s.length d0)).setCell ⟨w.heap.size+1+1,1,none⟩ (.slice b1 Q.hs.length d1)).setCell ⟨w.heap.size+1+1,2,none⟩ (.slice b2 Q.i.length d2)).setCell ⟨w.heap.size+1+1,3,none⟩ (.slice b3 Q.t.length d3)):=⟨_,rfl⟩;rw[<- c9];obtain⟨a9,c6,g4⟩:=zbb BZ g2.out g5.out c9;clear z0 z1 z2 z3 fz lz l0 l1 l2 l3 ll c9;obtain⟨z0,z1,z2,z3,fz,lz⟩:=zaa a9;exact yq (v:=.tuple #[.agg #[.slice b0 Q.s.length d0,.slice b1 Q.hs.length d1,.slice b2 Q.i.length d2,.slice b3 Q.t.length d3],.int .i64 o,.int .i64 0]) (by simp[results,Tryz.results16,go_sem,z0,z1,z2,z3]) rfl ⟨⟨b0,b1,b2,b3,d0,d1,d2,d3⟩,by rw[e0.out],c6,by rw[e0.out];exact g4⟩
 ·have y1:decide (E=0)=false:=decide_eq_false F;have y2:(E == 0)=false:=beq_eq_false_iff_ne.2 F;have y3:(E != 0)=true:=by simp[F]
  have d6:Hid (doG R ⟨O,(p:Int),T,U,I⟩=bad E):=HR.out.bad F;have d9:Hid (Below w.heap.size w W9):=HR.out.bel;have g0:Hid (W9.heap[w.heap.size+1+1]?=some (.cells #[.slice none 0 0,.slice none 0 0,.slice none 0 0,.slice none 0 0] 31 (0,0))):=HR.out.z;clear HR
  go_wp2_with fail
  refine yf (zbk E _) ?_;rintro e w8 ⟨rfl,hb⟩;have c6:Hid (Below w.heap.size w w8):=d9.out.trans (hb.mono d9.out.size);have a9:=zaU g0.out hb;clear hb;obtain⟨z0,z1,z2,z3,fz,lz⟩:=zaa a9
  go_wp2_with fail
  obtain⟨W7,c8⟩:∃ W7,W7=((((w8.setCell ⟨w.heap.size+1+1,0,none⟩ (.slice none 0 0)).setCell ⟨w.heap.size+1+1,1,none⟩ (.slice none 0 0)).setCell ⟨w.heap.size+1+1,2,none⟩ (.slice none 0 0)).setCell ⟨w.heap.size+1+1,3,none⟩ (.slice none 0 0)):=⟨_,rfl⟩;rw[<- c8];obtain⟨f9,g1,_⟩:=zbb (Q:=zaW) (b0:=none) (b1:=none) (b2:=none) (b3:=none) (d0:=0) (d1:=0) (d2:=0) (d3:=0) a9 c6.out (zaO _ _) c8;clear z0 z1 z2 z3 fz lz c8;have f8:W7.heap[w.heap.size+1+1]?=some (.cells #[.slice none 0 0,.slice none 0 0,.slice none 0 0,.slice none 0 0] 31 (0,0)):=f9;obtain⟨z0,z1,z2,z3,fz,lz⟩:=zaa f8;exact yq (v:=.tuple #[.agg #[.slice none 0 0,.slice none 0 0,.slice none 0 0,.slice none 0 0],.int .i64 0,.int .i64 E]) (by simp[results,Tryz.results16,go_sem,z0,z1,z2,z3]) rfl ⟨⟨none,none,none,none,0,0,0,0⟩,by rw[d6.out];rfl,g1,by rw[d6.out];exact zaO _ _⟩
theorem zqz(hC:zbW)(a0 a1 a2 a3:Option Addr)(c0 c1 c2 c3:Nat)(R:Rl)(p:Nat)(xr xs A h1 F:Int)(w:World)(hR:zaB R=0)(hL:zaS w ⟨a0,a1,a2,a3,c0,c1,c2,c3⟩ R)(hp:p<16)(hh:R.hs.getD p (0,0)=(h1,F)) :
  Calls Tryz.prog 16 #[.agg #[.slice a0 R.s.length c0,.slice a1 R.hs.length c1,.slice a2 R.i.length c2,.slice a3 R.t.length c3],.agg #[.int .i64 11,.int .i64 (p:Int),.int .i64 xr,.int .i64 xs,.int .i64 A]] w (zfV R ⟨11,p,xr,xs,A⟩ w):=by
 have f9:Hid (R.i.length<=24):=(zeC (zax hR).2.2.1).1;have e6:Hid (hd R (p:Int)=(h1,F)):=zfD hh;have HA:Hid (isH (p:Int)):=⟨by omega,by omega⟩;obtain⟨wf,e9,g4,ht⟩:=zax hR;have DI:Hid (∀ W,_):=fun W=>zct (p:Int) W (by omega);have DW:Hid (∀ W,zaS W ⟨a0,a1,a2,a3,c0,c1,c2,c3⟩ R->_):=fun W hW=>zcd a0 a1 a2 a3 c0 c1 c2 c3 R W hR hW;have HL:Hid (zaS w ⟨a0,a1,a2,a3,c0,c1,c2,c3⟩ R):=hL;have f8:Hid (zaY w a2 R.i):=hL.2.2.1;have b5:Hid (R.hs.length=16):=e9;have e7:Hid (WF R.s):=wf;have HD:Hid (R.hs.getD p (0,0)=(h1,F)):=hh;have h9:(p:Int)<16:=by omega
 clear hL hR g4 hh e9 wf
 go_enter Tryz.func16,Tryz.ntmps16
 go_wp2_with fail
 refine yf (DI.out _) ?_;rintro e w' ⟨rfl,hw⟩;have J:=hw.symm;clear hw;subst J;have e8:Hid (Below w.heap.size w (((w.alloc (.cells #[.slice a0 R.s.length c0,.slice a1 R.hs.length c1,.slice a2 R.i.length c2,.slice a3 R.t.length c3] 31)).alloc (.cells #[.int .i64 11,.int .i64 (p:Int),.int .i64 xr,.int .i64 xs,.int .i64 A] 41)).alloc (.cells #[.slice none 0 0,.slice none 0 0,.slice none 0 0,.slice none 0 0] 31))):=(zai w _ _).trans ((zab _ _).mono (by first|(simp;done)|(simp;omega)))
 go_wp2_with fail
 refine yf (DW.out _ (HL.out.below e8.out)) ?_;rintro e w1 ⟨v0,K,v1,v3,rfl,hb,hO,hH,hT⟩;obtain⟨s0,k0,rfl,_⟩:=hO.nds
 obtain⟨g,k1,rfl⟩:∃ g k1,v1=.slice (some ⟨g,0,none⟩) 16 k1:=by
  rcases hH.2 with ⟨rfl,h0⟩ |⟨g,cap,g9,rfl,_⟩
  ·omega
  ·exact⟨g,cap,rfl⟩
 obtain⟨t0,k3,rfl,_⟩:=zdV hT;simp only[yk] at hO hH hT;obtain⟨f0,q1,q2,h4,h5,br,bx,bz⟩:=zbP HL.out b5.out HD.out hp hb hO hH hT;have HI:Hid (zbx w w1.heap.size R 11 (p:Int) xr xs A h1 F s0 k0 K g k1 a2 c2 t0 k3 (((((w1.setCell ⟨w.heap.size,0,none⟩ (.slice s0 R.s.length k0)).setCell ⟨w.heap.size,1,none⟩ (.slice (some ⟨g,0,none⟩) 16 k1)).setCell ⟨w.heap.size,2,none⟩ (.slice a2 R.i.length c2)).setCell ⟨w.heap.size,3,none⟩ (.slice t0 R.t.length k3)).alloc (.cells #[.int .i64 h1,.int .i64 F] 39))):=f0;obtain⟨l0,l1,l2,l3,fl,ll⟩:=zaa br;obtain⟨m0,m1,m2,m3,m4,lm⟩:=zaN bx;obtain⟨O,T,U,Z,fz,lz⟩:=zaa bz;clear hb hO hH hT bx bz br f0 DW DI e8 HL
 go_upto_block 0 with fail
 go_cut [10,11] (fun s10 s11 wx=>∃ o E:Int,s10=.int .i64 o/\s11=.int .i64 E/\Hid (zcn w R ⟨11,(p:Int),xr,xs,A⟩ o E wx))
 case first =>
  have h6:=f9.out;obtain⟨Q1,c9⟩:∃ Q:Int,(R.i.length:Int)-1=Q:=⟨_,rfl⟩;have i1:IntKind.i64.wrap ((R.i.length:Int)-1)=Q1:=by rw[IntKind.wrap_i64,<- c9];omega
  by_cases hi:0<=A/\A<(R.i.length:Int)
  ·have b9:Hid (∀ W,_):=fun W=>zls A Q1 W true (decide_eq_true (by omega));have c8:Hid (doG R ⟨11,(p:Int),xr,xs,A⟩=zkN R (h1,F) (cl R.i A.toNat).n):=by show doG _ _=_;unfold doG;dsimp only;rw[yd HA.out,ya (by decide),ya (by decide),ya (by decide),ya (by decide),ya (by decide),yd rfl,e6.out];unfold zlH;rw[yd hi]
   obtain⟨ib,io,g2,i0,_⟩:=HI.out.i A.toNat (by omega);subst g2;have h7:0<=A:=hi.1;have h8:A<(R.i.length:Int):=hi.2;have i2:ib<w1.heap.size+1:=by have:=ye _ _ i0;simpa using this
   clear c9 hi;generalize (cl R.i A.toNat).n=cn at *
   have d8:Hid (∀ V,zae V s0 R.s->Calls Tryz.prog 41 #[.agg #[.slice s0 R.s.length k0],.agg #[.int .i64 h1,.int .i64 F]] V fun e w' => e=.returned (.int .i64 (zas R.s h1 F))/\Below V.heap.size V w'):=fun V hV=>by
    have h:=zdu s0 k0 R.s h1 F V (by have:=e7.out.small;omega) hV;rw[zey e7.out] at h;exact h
   go_wp2_with fail
   refine yf (b9.out _) ?_;rintro e w' ⟨rfl,hw⟩;have J:=hw.symm;clear hw;subst J
   go_wp2_with fail
   refine yf (d8.out _ HI.out.nds) ?_;rintro e w2 ⟨rfl,hb⟩;have D:Hid (zbx w w1.heap.size R 11 (p:Int) xr xs A h1 F s0 k0 K g k1 (some ⟨ib,io,none⟩) c2 t0 k3 w2):=HI.out.below hb;clear HI d8 hb;clear l0 l1 l2 l3 fl ll m0 m1 m2 m3 m4 lm O T U Z fz lz q1 q2;obtain⟨l0,l1,l2,l3,fl,ll⟩:=zaa D.out.r;obtain⟨m0,m1,m2,m3,m4,lm⟩:=zaN D.out.x;obtain⟨O,T,U,Z,fz,lz⟩:=zaa D.out.z;obtain⟨n0,n1,ln⟩:=zbg D.out.a;by_cases I:zas R.s h1 F=0
   ·rw[I];by_cases hr:-1000000<=cn/\cn<=1000000
    ·have c6:Hid (∀ W,_):=fun W=>zgk cn W true (decide_eq_true hr)
     have d7:0<=h1/\h1<(R.s.length:Int):=by
      obtain⟨_,k,e,hk,_⟩:=zbz I;omega
     have g5:0<=h1:=d7.1;have g6:h1<(R.s.length:Int):=d7.2;clear d7
     have M:doG R ⟨11,(p:Int),xr,xs,A⟩=⟨0,⟨R.s.set h1.toNat { nd R.s h1.toNat with m:=cn },R.hs,R.i,R.t⟩,0⟩:=by
      rw[c8.out];unfold zkN ans zlk;rw[yd I,yd hr,yd rfl];rfl
     have e0:Hid _:=M;obtain⟨sg,g3,g7,g8⟩:=zlv D.out.own (by omega);subst g3;have b4:Hid _:=D.out.mrk b5.out f8.out (k:=h1.toNat) (n:=cn) (by omega) e0.out;have h3:=D.out.own.frozenAt;have i3:w.heap.size<sg:=by omega
     have f6:w2.cell? ⟨sg,h1.toNat*8+3,none⟩=some (.int .i64 (nd R.s h1.toNat).m):=D.out.own.cellAt (i:=h1.toNat) (j:=3) (by omega) (by omega);clear M hr I e0;generalize (nd R.s h1.toNat).m=om at f6
     go_wp2_with fail
     refine yf (c6.out _) ?_;rintro e w' ⟨rfl,hw⟩;have J:=hw.symm;clear hw;subst J
     go_wp2_with fail
     go_meet
     case rel=>exact⟨0,0,rfl,rfl,b4⟩
    ·have c6:Hid (∀ W,_):=fun W=>zgk cn W false (decide_eq_false hr)
     have M:doG R ⟨11,(p:Int),xr,xs,A⟩=ans 2 R 0:=by
      rw[c8.out];unfold zkN ans zlk;rw[yd I,ya hr];rfl
     have b4:Hid (zcn w R ⟨11,(p:Int),xr,xs,A⟩ 0 2 w2):=D.out.ask b5.out M;clear M hr I
     go_wp2_with fail
     refine yf (c6.out _) ?_;rintro e w' ⟨rfl,hw⟩;have J:=hw.symm;clear hw;subst J
     go_wp2_with fail
     go_meet
     case rel=>exact⟨0,2,rfl,rfl,b4⟩
   ·have M:doG R ⟨11,(p:Int),xr,xs,A⟩=ans (zas R.s h1 F) R 0:=by
     rw[c8.out];unfold zkN ans zlk;rw[ya I,ya I,ya I]
    have b4:Hid (zcn w R ⟨11,(p:Int),xr,xs,A⟩ 0 (zas R.s h1 F) w2):=D.out.ask b5.out M;have y1:decide (zas R.s h1 F=0)=false:=decide_eq_false I;have y2:(zas R.s h1 F == 0)=false:=beq_eq_false_iff_ne.2 I;have y3:(zas R.s h1 F != 0)=true:=by simp[I]
    generalize zas R.s h1 F=E at *;clear M
    go_wp2_with fail
    go_meet
    case rel=>exact⟨0,E,rfl,rfl,b4⟩
  ·have b9:Hid (∀ W,_):=fun W=>zls A Q1 W false (decide_eq_false (by omega));have a8:Hid (doG R ⟨11,(p:Int),xr,xs,A⟩=bad 4):=by show doG _ _=_;unfold doG;dsimp only;rw[yd HA.out,ya (by decide),ya (by decide),ya (by decide),ya (by decide),ya (by decide),yd rfl,e6.out];unfold zlH;rw[ya hi]
   clear hi c9
   go_wp2_with fail
   refine yf (b9.out _) ?_;rintro e w' ⟨rfl,hw⟩;have J:=hw.symm;clear hw;subst J;have a9:Hid (Below w.heap.size w (((((w1.setCell ⟨w.heap.size,0,none⟩ (.slice s0 R.s.length k0)).setCell ⟨w.heap.size,1,none⟩ (.slice (some ⟨g,0,none⟩) 16 k1)).setCell ⟨w.heap.size,2,none⟩ (.slice a2 R.i.length c2)).setCell ⟨w.heap.size,3,none⟩ (.slice t0 R.t.length k3)).alloc (.cells #[.int .i64 h1,.int .i64 F] 39))):=HI.out.bel;have b8:Hid ((((((w1.setCell ⟨w.heap.size,0,none⟩ (.slice s0 R.s.length k0)).setCell ⟨w.heap.size,1,none⟩ (.slice (some ⟨g,0,none⟩) 16 k1)).setCell ⟨w.heap.size,2,none⟩ (.slice a2 R.i.length c2)).setCell ⟨w.heap.size,3,none⟩ (.slice t0 R.t.length k3)).alloc (.cells #[.int .i64 h1,.int .i64 F] 39)).heap[w.heap.size+1+1]?=some (.cells #[.slice none 0 0,.slice none 0 0,.slice none 0 0,.slice none 0 0] 31 (0,0))):=HI.out.z;clear HI
   go_wp2_with fail
   refine yf (zbk 4 _) ?_;rintro e w8 ⟨rfl,hb⟩;have a7:Hid (Below w.heap.size w w8):=a9.out.trans (hb.mono a9.out.size);have a4:=zaU b8.out hb;clear hb l0 l1 l2 l3 fl ll m0 m1 m2 m3 m4 lm O T U Z fz lz q1 q2;obtain⟨O,T,U,Z,fz,lz⟩:=zaa a4
   go_wp2_with fail
   obtain⟨W7,a5⟩:∃ W7,W7=((((w8.setCell ⟨w.heap.size+1+1,0,none⟩ (.slice none 0 0)).setCell ⟨w.heap.size+1+1,1,none⟩ (.slice none 0 0)).setCell ⟨w.heap.size+1+1,2,none⟩ (.slice none 0 0)).setCell ⟨w.heap.size+1+1,3,none⟩ (.slice none 0 0)):=⟨_,rfl⟩;rw[<- a5];obtain⟨b7,c7,_⟩:=zbb (Q:=zaW) (b0:=none) (b1:=none) (b2:=none) (b3:=none) (d0:=0) (d1:=0) (d2:=0) (d3:=0) a4 a7.out (zaO _ _) a5;clear O T U Z fz lz a5;have b6:W7.heap[w.heap.size+1+1]?=some (.cells #[.slice none 0 0,.slice none 0 0,.slice none 0 0,.slice none 0 0] 31 (0,0)):=b7;obtain⟨O,T,U,Z,fz,lz⟩:=zaa b6;exact yq (v:=.tuple #[.agg #[.slice none 0 0,.slice none 0 0,.slice none 0 0,.slice none 0 0],.int .i64 0,.int .i64 4]) (by simp[results,Tryz.results16,go_sem,O,T,U,Z]) rfl ⟨⟨none,none,none,none,0,0,0,0⟩,by rw[a8.out];rfl,c7,by rw[a8.out];exact zaO _ _⟩
 case rest =>
 obtain⟨o,E,rfl,rfl,HR⟩:=hcut;obtain⟨W9,rfl⟩:∃ W,W=wc:=⟨_,rfl⟩;clear HI l0 l1 l2 l3 fl ll m0 m1 m2 m3 m4 lm O T U Z fz lz q1 q2;by_cases I:E=0
 ·obtain⟨b0,b1,b2,b3,d0,d1,d2,d3,Q,hd,a6,hr⟩:=HR.out.ok I;subst I;have d9:Hid _:=hd;have f7:Hid _:=HR.out.bel;have g1:Hid _:=hr;have l0:W9.cell? ⟨w.heap.size,0,none⟩=some (.slice b0 Q.s.length d0):=(zaa a6).1;have l1:W9.cell? ⟨w.heap.size,1,none⟩=some (.slice b1 Q.hs.length d1):=(zaa a6).2.1;have l2:W9.cell? ⟨w.heap.size,2,none⟩=some (.slice b2 Q.i.length d2):=(zaa a6).2.2.1;have l3:W9.cell? ⟨w.heap.size,3,none⟩=some (.slice b3 Q.t.length d3):=(zaa a6).2.2.2.1;have ll:=zaC a6;have BZ:=HR.out.z;obtain⟨O,T,U,Z,fz,lz⟩:=zaa BZ;clear hd hr a6 HR
  go_wp2_with fail
  obtain⟨W8,d6⟩:∃ W8,W8=((((W9.setCell ⟨w.heap.size+1+1,0,none⟩ (.slice b0 Q.s.length d0)).setCell ⟨w.heap.size+1+1,1,none⟩ (.slice b1 Q.hs.length d1)).setCell ⟨w.heap.size+1+1,2,none⟩ (.slice b2 Q.i.length d2)).setCell ⟨w.heap.size+1+1,3,none⟩ (.slice b3 Q.t.length d3)):=⟨_,rfl⟩;rw[<- d6];obtain⟨a4,a7,g0⟩:=zbb BZ f7.out g1.out d6;clear O T U Z fz lz l0 l1 l2 l3 ll d6;obtain⟨O,T,U,Z,fz,lz⟩:=zaa a4;exact yq (v:=.tuple #[.agg #[.slice b0 Q.s.length d0,.slice b1 Q.hs.length d1,.slice b2 Q.i.length d2,.slice b3 Q.t.length d3],.int .i64 o,.int .i64 0]) (by simp[results,Tryz.results16,go_sem,O,T,U,Z]) rfl ⟨⟨b0,b1,b2,b3,d0,d1,d2,d3⟩,by rw[d9.out],a7,by rw[d9.out];exact g0⟩
 ·have y1:decide (E=0)=false:=decide_eq_false I;have y2:(E == 0)=false:=beq_eq_false_iff_ne.2 I;have y3:(E != 0)=true:=by simp[I]
  have a8:Hid (doG R ⟨11,(p:Int),xr,xs,A⟩=bad E):=HR.out.bad I;have a9:Hid (Below w.heap.size w W9):=HR.out.bel;have b8:Hid (W9.heap[w.heap.size+1+1]?=some (.cells #[.slice none 0 0,.slice none 0 0,.slice none 0 0,.slice none 0 0] 31 (0,0))):=HR.out.z;clear HR
  go_wp2_with fail
  refine yf (zbk E _) ?_;rintro e w8 ⟨rfl,hb⟩;have a7:Hid (Below w.heap.size w w8):=a9.out.trans (hb.mono a9.out.size);have a4:=zaU b8.out hb;clear hb;obtain⟨O,T,U,Z,fz,lz⟩:=zaa a4
  go_wp2_with fail
  obtain⟨W7,a5⟩:∃ W7,W7=((((w8.setCell ⟨w.heap.size+1+1,0,none⟩ (.slice none 0 0)).setCell ⟨w.heap.size+1+1,1,none⟩ (.slice none 0 0)).setCell ⟨w.heap.size+1+1,2,none⟩ (.slice none 0 0)).setCell ⟨w.heap.size+1+1,3,none⟩ (.slice none 0 0)):=⟨_,rfl⟩;rw[<- a5];obtain⟨b7,c7,_⟩:=zbb (Q:=zaW) (b0:=none) (b1:=none) (b2:=none) (b3:=none) (d0:=0) (d1:=0) (d2:=0) (d3:=0) a4 a7.out (zaO _ _) a5;clear O T U Z fz lz a5;have b6:W7.heap[w.heap.size+1+1]?=some (.cells #[.slice none 0 0,.slice none 0 0,.slice none 0 0,.slice none 0 0] 31 (0,0)):=b7;obtain⟨O,T,U,Z,fz,lz⟩:=zaa b6;exact yq (v:=.tuple #[.agg #[.slice none 0 0,.slice none 0 0,.slice none 0 0,.slice none 0 0],.int .i64 0,.int .i64 E]) (by simp[results,Tryz.results16,go_sem,O,T,U,Z]) rfl ⟨⟨none,none,none,none,0,0,0,0⟩,by rw[a8.out];rfl,c7,by rw[a8.out];exact zaO _ _⟩
end Go.Proofs.YtgjfmepbphfjoaaGreat
