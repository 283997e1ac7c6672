/-
  x
-/
import Derived.Test.YtojlkdekdbdpoaaGreatJDq
import Derived.Deep.RegionHeld3
import Derived.Deep.DeepCutAuto
import Derived.Deep.CutBlock
import Derived.Test.YtojlkdekdbdpoaaGreatJDfRaRbRh
namespace Go.Proofs.YtojlkdekdbdpoaaGreat
set_option maxRecDepth 100000
set_option maxHeartbeats 4000000
open Go.RowKit
set_option linter.unusedVariables false
theorem znU(hC:zbH)(a0 a1 a2 a3:Option Addr)(c0 c1 c2 c3:Nat)(R:Rl)(p:Nat)(xk xr xs xn h1 h2:Int)(w:World)(hR:zay R=0)(hL:RlAt w ⟨a0,a1,a2,a3,c0,c1,c2,c3⟩ R)(hp:p<16)(hh:R.hs.getD p (0,0)=(h1,h2))(hk:xk=2∨xk=4) :
  Calls Tryz.prog 12 #[.agg #[.slice a0 R.s.length c0,.slice a1 R.hs.length c1,.slice a2 R.i.length c2,.slice a3 R.t.length c3],.agg #[.int .i64 xk,.int .i64 (p:Int),.int .i64 xr,.int .i64 xs,.int .i64 xn]] w (DoesP R ⟨xk,p,xr,xs,xn⟩ w):=by
 have hne:xk≠3∧xk≠7∧xk≠8:=by omega
 have d3:decide (xk=3)=false:=decide_eq_false hne.1
 have b3:(xk == 3)=false:=beq_eq_false_iff_ne.2 hne.1
 have d7:decide (xk=7)=false:=decide_eq_false hne.2.1
 have b7:(xk == 7)=false:=beq_eq_false_iff_ne.2 hne.2.1
 have d8:decide (xk=8)=false:=decide_eq_false hne.2.2
 have b8:(xk == 8)=false:=beq_eq_false_iff_ne.2 hne.2.2
 have HHD:Hid (hd R (p:Int)=(h1,h2)):=hd_of hh
 have HA:Hid (isH (p:Int)):=⟨by omega,by omega⟩
 clear hne
 obtain⟨wf,h16,hgr,ht⟩:=zau hR
 have DI:Hid (∀ W,_):=fun W=>zbW (p:Int) W (by omega)
 have DW:Hid (∀ W,RlAt W ⟨a0,a1,a2,a3,c0,c1,c2,c3⟩ R→_):=fun W hW=>zbM a0 a1 a2 a3 c0 c1 c2 c3 R W hR hW
 have HL:Hid (RlAt w ⟨a0,a1,a2,a3,c0,c1,c2,c3⟩ R):=hL
 have HCI:Hid (ClsAt w a2 R.i):=hL.2.2.1
 have H16:Hid (R.hs.length=16):=h16
 have HWF:Hid (WF R.s):=wf
 have HD:Hid (R.hs.getD p (0,0)=(h1,h2)):=hh
 have hp2:(p:Int)<16:=by omega
 clear hL hR hgr hh h16 wf
 go_enter Tryz.func12,Tryz.ntmps12
 go_wp2_with fail
 refine Calls.mono (DI.out _) ?_
 rintro e w' ⟨rfl,hw⟩
 have hw2:=hw.symm
 clear hw
 subst hw2
 have W0B:Hid (Below w.heap.size w (((w.alloc (.cells #[.slice a0 R.s.length c0,.slice a1 R.hs.length c1,.slice a2 R.i.length c2,.slice a3 R.t.length c3] 31)).alloc (.cells #[.int .i64 xk,.int .i64 (p:Int),.int .i64 xr,.int .i64 xs,.int .i64 xn] 33)).alloc (.cells #[.slice none 0 0,.slice none 0 0,.slice none 0 0,.slice none 0 0] 31))):=(zaf w _ _).trans ((zab _ _).mono (by first|(simp;done)|(simp;omega)))
 go_wp2_with fail
 refine Calls.mono (DW.out _ (HL.out.below W0B.out)) ?_
 rintro e w1 ⟨v0,K,v1,v3,rfl,hb,hO,hH,hT⟩
 obtain⟨s0,k0,rfl,_⟩:=hO.nds
 obtain⟨g,k1,rfl⟩:∃ g k1,v1=.slice (some ⟨g,0,none⟩) 16 k1:=by
  rcases hH.2 with ⟨rfl,h0⟩ |⟨g,cap,cur,rfl,_⟩
  ·omega
  ·exact⟨g,cap,rfl⟩
 obtain⟨t0,k3,rfl,_⟩:=zdo hT
 simp only[World.size_alloc] at hO hH hT
 obtain⟨hI0,q1,q2,hg2,hg3,br,bx,bz⟩:=zbA HL.out H16.out HD.out hp hb hO hH hT
 have HI:Hid (DoesI w w1.heap.size R xk (p:Int) xr xs xn h1 h2 s0 k0 K g k1 a2 c2 t0 k3 (((((w1.setCell ⟨w.heap.size,0,none⟩ (.slice s0 R.s.length k0)).setCell ⟨w.heap.size,1,none⟩ (.slice (some ⟨g,0,none⟩) 16 k1)).setCell ⟨w.heap.size,2,none⟩ (.slice a2 R.i.length c2)).setCell ⟨w.heap.size,3,none⟩ (.slice t0 R.t.length k3)).alloc (.cells #[.int .i64 h1,.int .i64 h2] 60))):=hI0
 obtain⟨l0,l1,l2,l3,fl,ll⟩:=zaa br
 obtain⟨m0,m1,m2,m3,m4,lm⟩:=zaH bx
 obtain⟨z0,z1,z2,z3,fz,lz⟩:=zaa bz
 clear hb hO hH hT bx bz br hI0 DW DI W0B HL
 go_upto_block 0 with fail
 go_cut [10,11] (fun s10 s11 wx=>∃ o E:Int,s10=.int .i64 o∧s11=.int .i64 E∧Hid (DoesR w R ⟨xk,(p:Int),xr,xs,xn⟩ o E wx))
 case first =>
  rcases hk with rfl|rfl
  ·have HDG:Hid (doG R ⟨2,(p:Int),xr,xs,xn⟩=ans (freeE R.s h1 h2) ⟨R.s.set h1.toNat (zbY (nd R.s h1.toNat)),R.hs,R.i,R.t⟩ 0):=by show doG _ _=_;unfold doG;dsimp only;rw[if_pos HA.out,if_neg (by decide),if_pos rfl,HHD.out];rfl
   have DFH:Hid (∀ V hV,_):=fun V hV=>(zne hC R.s (h1,h2) HWF.out) s0 k0 V hV
   generalize freeE R.s h1 h2=E at *
   generalize R.s.set h1.toNat (zbY (nd R.s h1.toNat))=TT at *
   go_wp2_with fail
   refine Calls.mono (DFH.out _ HI.out.nds) ?_
   rintro e w2 ⟨a', c', rfl,hb,hN⟩
   have HI2:Hid (DoesI w w1.heap.size R 2 (p:Int) xr xs xn h1 h2 s0 k0 K g k1 a2 c2 t0 k3 w2):=HI.out.below hb
   have HR2:Hid (DoesR w R ⟨2,(p:Int),xr,xs,xn⟩ 0 E (w2.setCell ⟨w.heap.size,0,none⟩ (.slice a' (rS E TT).length c'))):=HI2.out.sto H16.out hN HDG.out
   clear hb hN HI DFH HDG
   clear l0 l1 l2 l3 fl ll m0 m1 m2 m3 m4 lm z0 z1 z2 z3 fz lz q1 q2
   obtain⟨l0,l1,l2,l3,fl,ll⟩:=zaa HI2.out.r
   obtain⟨m0,m1,m2,m3,m4,lm⟩:=zaH HI2.out.x
   obtain⟨z0,z1,z2,z3,fz,lz⟩:=zaa HI2.out.z
   obtain⟨n0,n1,ln⟩:=zaY HI2.out.a
   generalize (rS E TT).length=tl at *
   go_wp2_with fail
   go_meet
   case rel=>exact⟨0,E,rfl,rfl,HR2⟩
  ·have HDG:Hid (doG R ⟨4,(p:Int),xr,xs,xn⟩=ans (remE R.s h1 h2) ⟨leaveG R.s h1.toNat,R.hs,R.i,R.t⟩ 0):=by show doG _ _=_;unfold doG;dsimp only;rw[if_pos HA.out,if_neg (by decide),if_neg (by decide),if_pos rfl,HHD.out];rfl
   have DFH:Hid (∀ V hV,_):=fun V hV=>(ziQ hC R.s (h1,h2) HWF.out) s0 k0 V hV
   generalize remE R.s h1 h2=E at *
   generalize leaveG R.s h1.toNat=TT at *
   go_wp2_with fail
   refine Calls.mono (DFH.out _ HI.out.nds) ?_
   rintro e w2 ⟨a', c', rfl,hb,hN⟩
   have HI2:Hid (DoesI w w1.heap.size R 4 (p:Int) xr xs xn h1 h2 s0 k0 K g k1 a2 c2 t0 k3 w2):=HI.out.below hb
   have HR2:Hid (DoesR w R ⟨4,(p:Int),xr,xs,xn⟩ 0 E (w2.setCell ⟨w.heap.size,0,none⟩ (.slice a' (rS E TT).length c'))):=HI2.out.sto H16.out hN HDG.out
   clear hb hN HI DFH HDG
   clear l0 l1 l2 l3 fl ll m0 m1 m2 m3 m4 lm z0 z1 z2 z3 fz lz q1 q2
   obtain⟨l0,l1,l2,l3,fl,ll⟩:=zaa HI2.out.r
   obtain⟨m0,m1,m2,m3,m4,lm⟩:=zaH HI2.out.x
   obtain⟨z0,z1,z2,z3,fz,lz⟩:=zaa HI2.out.z
   obtain⟨n0,n1,ln⟩:=zaY HI2.out.a
   generalize (rS E TT).length=tl at *
   go_wp2_with fail
   go_meet
   case rel=>exact⟨0,E,rfl,rfl,HR2⟩
 case rest =>
 obtain⟨o,E,rfl,rfl,HR⟩:=hcut
 obtain⟨W9,rfl⟩:∃ W,W=wc:=⟨_,rfl⟩
 clear HI l0 l1 l2 l3 fl ll m0 m1 m2 m3 m4 lm z0 z1 z2 z3 fz lz q1 q2
 by_cases hE:E=0
 ·obtain⟨b0,b1,b2,b3,d0,d1,d2,d3,Q,hd,hbx,hr⟩:=HR.out.ok hE
  subst hE
  have HD9:Hid _:=hd
  have HB9:Hid _:=HR.out.bel
  have HR9:Hid _:=hr
  have l0:W9.cell? ⟨w.heap.size,0,none⟩=some (.slice b0 Q.s.length d0):=(zaa hbx).1
  have l1:W9.cell? ⟨w.heap.size,1,none⟩=some (.slice b1 Q.hs.length d1):=(zaa hbx).2.1
  have l2:W9.cell? ⟨w.heap.size,2,none⟩=some (.slice b2 Q.i.length d2):=(zaa hbx).2.2.1
  have l3:W9.cell? ⟨w.heap.size,3,none⟩=some (.slice b3 Q.t.length d3):=(zaa hbx).2.2.2.1
  have ll:=zaz hbx
  have BZ:=HR.out.z
  obtain⟨z0,z1,z2,z3,fz,lz⟩:=zaa BZ
  clear hd hr hbx HR
  go_wp2_with fail
  obtain⟨W8,hW8⟩:∃ W8,W8=((((W9.setCell ⟨w.heap.size+1+1,0,none⟩ (.slice b0 Q.s.length d0)).setCell ⟨w.heap.size+1+1,1,none⟩ (.slice b1 Q.hs.length d1)).setCell ⟨w.heap.size+1+1,2,none⟩ (.slice b2 Q.i.length d2)).setCell ⟨w.heap.size+1+1,3,none⟩ (.slice b3 Q.t.length d3)):=⟨_,rfl⟩
  rw[← hW8]
  obtain⟨BZ8,HB8,HR8⟩:=zaT BZ HB9.out HR9.out hW8
  clear z0 z1 z2 z3 fz lz l0 l1 l2 l3 ll hW8
  obtain⟨z0,z1,z2,z3,fz,lz⟩:=zaa BZ8
  exact bodyPost_ret (v:=.tuple #[.agg #[.slice b0 Q.s.length d0,.slice b1 Q.hs.length d1,.slice b2 Q.i.length d2,.slice b3 Q.t.length d3],.int .i64 o,.int .i64 0]) (by simp[results,Tryz.results12,go_sem,z0,z1,z2,z3]) rfl ⟨⟨b0,b1,b2,b3,d0,d1,d2,d3⟩,by rw[HD9.out],HB8,by rw[HD9.out];exact HR8⟩
 ·have y1:decide (E=0)=false:=decide_eq_false hE
  have y2:(E == 0)=false:=beq_eq_false_iff_ne.2 hE
  have y3:(E != 0)=true:=by simp[hE]
  have HBD:Hid (doG R ⟨xk,(p:Int),xr,xs,xn⟩=bad E):=HR.out.bad hE
  have HBX:Hid (Below w.heap.size w W9):=HR.out.bel
  have BZX:Hid (W9.heap[w.heap.size+1+1]?=some (.cells #[.slice none 0 0,.slice none 0 0,.slice none 0 0,.slice none 0 0] 31 (0,0))):=HR.out.z
  clear HR
  go_wp2_with fail
  refine Calls.mono (zba E _) ?_
  rintro e w8 ⟨rfl,hb⟩
  have HB8:Hid (Below w.heap.size w w8):=HBX.out.trans (hb.mono HBX.out.size)
  have BZ8:=keepB BZX.out hb
  clear hb
  obtain⟨z0,z1,z2,z3,fz,lz⟩:=zaa BZ8
  go_wp2_with fail
  obtain⟨W7,hW7⟩:∃ W7,W7=((((w8.setCell ⟨w.heap.size+1+1,0,none⟩ (.slice none 0 0)).setCell ⟨w.heap.size+1+1,1,none⟩ (.slice none 0 0)).setCell ⟨w.heap.size+1+1,2,none⟩ (.slice none 0 0)).setCell ⟨w.heap.size+1+1,3,none⟩ (.slice none 0 0)):=⟨_,rfl⟩
  rw[← hW7]
  obtain⟨BZ7,HB7,_⟩:=zaT (Q:=zaR) (b0:=none) (b1:=none) (b2:=none) (b3:=none) (d0:=0) (d1:=0) (d2:=0) (d3:=0) BZ8 HB8.out (zaI _ _) hW7
  clear z0 z1 z2 z3 fz lz hW7
  have BZ6:W7.heap[w.heap.size+1+1]?=some (.cells #[.slice none 0 0,.slice none 0 0,.slice none 0 0,.slice none 0 0] 31 (0,0)):=BZ7
  obtain⟨z0,z1,z2,z3,fz,lz⟩:=zaa BZ6
  exact bodyPost_ret (v:=.tuple #[.agg #[.slice none 0 0,.slice none 0 0,.slice none 0 0,.slice none 0 0],.int .i64 0,.int .i64 E]) (by simp[results,Tryz.results12,go_sem,z0,z1,z2,z3]) rfl ⟨⟨none,none,none,none,0,0,0,0⟩,by rw[HBD.out];rfl,HB7,by rw[HBD.out];exact zaI _ _⟩
end Go.Proofs.YtojlkdekdbdpoaaGreat

namespace Go.Proofs.YtojlkdekdbdpoaaGreat
set_option maxRecDepth 100000
set_option maxHeartbeats 4000000
open Go.RowKit
set_option linter.unusedVariables false
theorem zob(hC:zbH)(a0 a1 a2 a3:Option Addr)(c0 c1 c2 c3:Nat)(R:Rl)(p:Nat)(xk xr xs xn h1 h2:Int)(w:World)(hR:zay R=0)(hL:RlAt w ⟨a0,a1,a2,a3,c0,c1,c2,c3⟩ R)(hp:p<16)(hh:R.hs.getD p (0,0)=(h1,h2))(hk:xk=6∨xk=5) :
  Calls Tryz.prog 12 #[.agg #[.slice a0 R.s.length c0,.slice a1 R.hs.length c1,.slice a2 R.i.length c2,.slice a3 R.t.length c3],.agg #[.int .i64 xk,.int .i64 (p:Int),.int .i64 xr,.int .i64 xs,.int .i64 xn]] w (DoesP R ⟨xk,p,xr,xs,xn⟩ w):=by
 have hne:xk≠3∧xk≠7∧xk≠8:=by omega
 have d3:decide (xk=3)=false:=decide_eq_false hne.1
 have b3:(xk == 3)=false:=beq_eq_false_iff_ne.2 hne.1
 have d7:decide (xk=7)=false:=decide_eq_false hne.2.1
 have b7:(xk == 7)=false:=beq_eq_false_iff_ne.2 hne.2.1
 have d8:decide (xk=8)=false:=decide_eq_false hne.2.2
 have b8:(xk == 8)=false:=beq_eq_false_iff_ne.2 hne.2.2
 have HHD:Hid (hd R (p:Int)=(h1,h2)):=hd_of hh
 have HA:Hid (isH (p:Int)):=⟨by omega,by omega⟩
 clear hne
 obtain⟨wf,h16,hgr,ht⟩:=zau hR
 have DI:Hid (∀ W,_):=fun W=>zbW (p:Int) W (by omega)
 have DW:Hid (∀ W,RlAt W ⟨a0,a1,a2,a3,c0,c1,c2,c3⟩ R→_):=fun W hW=>zbM a0 a1 a2 a3 c0 c1 c2 c3 R W hR hW
 have HL:Hid (RlAt w ⟨a0,a1,a2,a3,c0,c1,c2,c3⟩ R):=hL
 have HCI:Hid (ClsAt w a2 R.i):=hL.2.2.1
 have H16:Hid (R.hs.length=16):=h16
 have HWF:Hid (WF R.s):=wf
 have HD:Hid (R.hs.getD p (0,0)=(h1,h2)):=hh
 have hp2:(p:Int)<16:=by omega
 clear hL hR hgr hh h16 wf
 go_enter Tryz.func12,Tryz.ntmps12
 go_wp2_with fail
 refine Calls.mono (DI.out _) ?_
 rintro e w' ⟨rfl,hw⟩
 have hw2:=hw.symm
 clear hw
 subst hw2
 have W0B:Hid (Below w.heap.size w (((w.alloc (.cells #[.slice a0 R.s.length c0,.slice a1 R.hs.length c1,.slice a2 R.i.length c2,.slice a3 R.t.length c3] 31)).alloc (.cells #[.int .i64 xk,.int .i64 (p:Int),.int .i64 xr,.int .i64 xs,.int .i64 xn] 33)).alloc (.cells #[.slice none 0 0,.slice none 0 0,.slice none 0 0,.slice none 0 0] 31))):=(zaf w _ _).trans ((zab _ _).mono (by first|(simp;done)|(simp;omega)))
 go_wp2_with fail
 refine Calls.mono (DW.out _ (HL.out.below W0B.out)) ?_
 rintro e w1 ⟨v0,K,v1,v3,rfl,hb,hO,hH,hT⟩
 obtain⟨s0,k0,rfl,_⟩:=hO.nds
 obtain⟨g,k1,rfl⟩:∃ g k1,v1=.slice (some ⟨g,0,none⟩) 16 k1:=by
  rcases hH.2 with ⟨rfl,h0⟩ |⟨g,cap,cur,rfl,_⟩
  ·omega
  ·exact⟨g,cap,rfl⟩
 obtain⟨t0,k3,rfl,_⟩:=zdo hT
 simp only[World.size_alloc] at hO hH hT
 obtain⟨hI0,q1,q2,hg2,hg3,br,bx,bz⟩:=zbA HL.out H16.out HD.out hp hb hO hH hT
 have HI:Hid (DoesI w w1.heap.size R xk (p:Int) xr xs xn h1 h2 s0 k0 K g k1 a2 c2 t0 k3 (((((w1.setCell ⟨w.heap.size,0,none⟩ (.slice s0 R.s.length k0)).setCell ⟨w.heap.size,1,none⟩ (.slice (some ⟨g,0,none⟩) 16 k1)).setCell ⟨w.heap.size,2,none⟩ (.slice a2 R.i.length c2)).setCell ⟨w.heap.size,3,none⟩ (.slice t0 R.t.length k3)).alloc (.cells #[.int .i64 h1,.int .i64 h2] 60))):=hI0
 obtain⟨l0,l1,l2,l3,fl,ll⟩:=zaa br
 obtain⟨m0,m1,m2,m3,m4,lm⟩:=zaH bx
 obtain⟨z0,z1,z2,z3,fz,lz⟩:=zaa bz
 clear hb hO hH hT bx bz br hI0 DW DI W0B HL
 go_upto_block 0 with fail
 go_cut [10,11] (fun s10 s11 wx=>∃ o E:Int,s10=.int .i64 o∧s11=.int .i64 E∧Hid (DoesR w R ⟨xk,(p:Int),xr,xs,xn⟩ o E wx))
 case first =>
  rcases hk with rfl|rfl
  ·have DFH:Hid (∀ V,NdsAt V s0 R.s→Calls Tryz.prog 34 #[.agg #[.slice s0 R.s.length k0],.agg #[.int .i64 h1,.int .i64 h2]] V fun e w' => e=.returned (.int .i64 (findE R.s h1 h2))∧Below V.heap.size V w'):=fun V hV=>by
    have h:=zcR s0 k0 R.s h1 h2 V (by have:=HWF.out.small;omega) hV
    rw[zdP HWF.out] at h
    exact h
   have HDG:Hid (doG R ⟨6,(p:Int),xr,xs,xn⟩=ans (findE R.s h1 h2) R (nd R.s h1.toNat).m):=by show doG _ _=_;unfold doG;dsimp only;rw[if_pos HA.out,if_neg (by decide),if_neg (by decide),if_neg (by decide),if_pos rfl,HHD.out];rfl
   go_wp2_with fail
   refine Calls.mono (DFH.out _ HI.out.nds) ?_
   rintro e w2 ⟨rfl,hb⟩
   have HI2:Hid (DoesI w w1.heap.size R 6 (p:Int) xr xs xn h1 h2 s0 k0 K g k1 a2 c2 t0 k3 w2):=HI.out.below hb
   clear HI DFH hb
   clear l0 l1 l2 l3 fl ll m0 m1 m2 m3 m4 lm z0 z1 z2 z3 fz lz q1 q2
   obtain⟨l0,l1,l2,l3,fl,ll⟩:=zaa HI2.out.r
   obtain⟨m0,m1,m2,m3,m4,lm⟩:=zaH HI2.out.x
   obtain⟨z0,z1,z2,z3,fz,lz⟩:=zaa HI2.out.z
   obtain⟨n0,n1,ln⟩:=zaY HI2.out.a
   by_cases hE:findE R.s h1 h2=0
   ·have HR2:Hid (DoesR w R ⟨6,(p:Int),xr,xs,xn⟩ (nd R.s h1.toNat).m 0 w2):=HI2.out.ask H16.out (by rw[HDG.out,hE])
    have hpl:0≤h1∧h1<(R.s.length:Int):=by
     obtain⟨_,k,e,hk,_⟩:=zbm hE
     omega
    have hpl0:0≤h1:=hpl.1
    have hpl1:h1<(R.s.length:Int):=hpl.2
    clear hpl
    obtain⟨sb,so,es0,_,_,_,w3,_⟩:=HI2.out.nds h1.toNat (by omega)
    subst es0
    have ylt:sb<w2.heap.size:=World.block_lt_of_cell? _ _ w3
    rw[hE]
    generalize (nd R.s h1.toNat).m=told at *
    clear HDG
    go_wp2_with fail
    go_meet
    case rel=>exact⟨told,0,rfl,rfl,HR2⟩
   ·have HR2:Hid (DoesR w R ⟨6,(p:Int),xr,xs,xn⟩ 0 (findE R.s h1 h2) w2):=HI2.out.ask H16.out (HDG.out.trans (zjh fun h=>absurd h hE))
    have y1:decide (findE R.s h1 h2=0)=false:=decide_eq_false hE
    have y2:(findE R.s h1 h2 == 0)=false:=beq_eq_false_iff_ne.2 hE
    have y3:(findE R.s h1 h2 != 0)=true:=by simp[hE]
    generalize findE R.s h1 h2=E at *
    clear HDG
    go_wp2_with fail
    go_meet
    case rel=>exact⟨0,E,rfl,rfl,HR2⟩
  ·have DFH:Hid (∀ V,NdsAt V s0 R.s→Calls Tryz.prog 34 #[.agg #[.slice s0 R.s.length k0],.agg #[.int .i64 h1,.int .i64 h2]] V fun e w' => e=.returned (.int .i64 (findE R.s h1 h2))∧Below V.heap.size V w'):=fun V hV=>by
    have h:=zcR s0 k0 R.s h1 h2 V (by have:=HWF.out.small;omega) hV
    rw[zdP HWF.out] at h
    exact h
   go_wp2_with fail
   refine Calls.mono (DFH.out _ HI.out.nds) ?_
   rintro e w2 ⟨rfl,hb⟩
   have HI2:Hid (DoesI w w1.heap.size R 5 (p:Int) xr xs xn h1 h2 s0 k0 K g k1 a2 c2 t0 k3 w2):=HI.out.below hb
   clear HI DFH hb
   clear l0 l1 l2 l3 fl ll m0 m1 m2 m3 m4 lm z0 z1 z2 z3 fz lz q1 q2
   obtain⟨l0,l1,l2,l3,fl,ll⟩:=zaa HI2.out.r
   obtain⟨m0,m1,m2,m3,m4,lm⟩:=zaH HI2.out.x
   obtain⟨z0,z1,z2,z3,fz,lz⟩:=zaa HI2.out.z
   obtain⟨n0,n1,ln⟩:=zaY HI2.out.a
   by_cases hE:findE R.s h1 h2=0
   ·rw[hE]
    by_cases hr:-1000000≤xn∧xn≤1000000
    ·have DMI:Hid (∀ W,_):=fun W=>zfq xn W true (decide_eq_true hr)
     have hpl:0≤h1∧h1<(R.s.length:Int):=by
      obtain⟨_,k,e,hk,_⟩:=zbm hE
      omega
     have hpl0:0≤h1:=hpl.1
     have hpl1:h1<(R.s.length:Int):=hpl.2
     clear hpl
     have hdd:doG R ⟨5,(p:Int),xr,xs,xn⟩=⟨0,⟨R.s.set h1.toNat { nd R.s h1.toNat with m:=xn },R.hs,R.i,R.t⟩,0⟩:=by
      show doG _ _=_;unfold doG;dsimp only;rw[if_pos HA.out,if_neg (by decide),if_neg (by decide),if_neg (by decide),if_neg (by decide),if_pos rfl,HHD.out]
      unfold aSet ans mrkE
      rw[if_pos hE,if_pos hr,if_pos rfl]
      rfl
     have HDD:Hid _:=hdd
     obtain⟨sg,es0,hsg1,hsg2⟩:=zjw HI2.out.own (by omega)
     subst es0
     have HR2:Hid _:=HI2.out.mrk H16.out HCI.out (k:=h1.toNat) (n:=xn) (by omega) HDD.out
     have fsg:=HI2.out.own.frozenAt
     have nsg:w.heap.size<sg:=by omega
     have ysg2:w2.cell? ⟨sg,h1.toNat*8+3,none⟩=some (.int .i64 (nd R.s h1.toNat).m):=HI2.out.own.cellAt (i:=h1.toNat) (j:=3) (by omega) (by omega)
     clear hdd hr hE HDD
     generalize (nd R.s h1.toNat).m=om at ysg2
     go_wp2_with fail
     refine Calls.mono (DMI.out _) ?_
     rintro e w' ⟨rfl,hw⟩
     have hw2:=hw.symm
     clear hw
     subst hw2
     go_wp2_with fail
     go_meet
     case rel=>exact⟨0,0,rfl,rfl,HR2⟩
    ·have DMI:Hid (∀ W,_):=fun W=>zfq xn W false (decide_eq_false hr)
     have hdd:doG R ⟨5,(p:Int),xr,xs,xn⟩=ans 2 R 0:=by
      show doG _ _=_;unfold doG;dsimp only;rw[if_pos HA.out,if_neg (by decide),if_neg (by decide),if_neg (by decide),if_neg (by decide),if_pos rfl,HHD.out]
      unfold aSet ans mrkE
      rw[if_pos hE,if_neg hr]
      rfl
     have HR2:Hid (DoesR w R ⟨5,(p:Int),xr,xs,xn⟩ 0 2 w2):=HI2.out.ask H16.out hdd
     clear hdd hr hE
     go_wp2_with fail
     refine Calls.mono (DMI.out _) ?_
     rintro e w' ⟨rfl,hw⟩
     have hw2:=hw.symm
     clear hw
     subst hw2
     go_wp2_with fail
     go_meet
     case rel=>exact⟨0,2,rfl,rfl,HR2⟩
   ·have hdd:doG R ⟨5,(p:Int),xr,xs,xn⟩=ans (findE R.s h1 h2) R 0:=by
     show doG _ _=_;unfold doG;dsimp only;rw[if_pos HA.out,if_neg (by decide),if_neg (by decide),if_neg (by decide),if_neg (by decide),if_pos rfl,HHD.out]
     unfold aSet ans mrkE
     rw[if_neg hE,if_neg hE,if_neg hE]
    have HR2:Hid (DoesR w R ⟨5,(p:Int),xr,xs,xn⟩ 0 (findE R.s h1 h2) w2):=HI2.out.ask H16.out hdd
    have y1:decide (findE R.s h1 h2=0)=false:=decide_eq_false hE
    have y2:(findE R.s h1 h2 == 0)=false:=beq_eq_false_iff_ne.2 hE
    have y3:(findE R.s h1 h2 != 0)=true:=by simp[hE]
    generalize findE R.s h1 h2=E at *
    clear hdd
    go_wp2_with fail
    go_meet
    case rel=>exact⟨0,E,rfl,rfl,HR2⟩
 case rest =>
 obtain⟨o,E,rfl,rfl,HR⟩:=hcut
 obtain⟨W9,rfl⟩:∃ W,W=wc:=⟨_,rfl⟩
 clear HI l0 l1 l2 l3 fl ll m0 m1 m2 m3 m4 lm z0 z1 z2 z3 fz lz q1 q2
 by_cases hE:E=0
 ·obtain⟨b0,b1,b2,b3,d0,d1,d2,d3,Q,hd,hbx,hr⟩:=HR.out.ok hE
  subst hE
  have HD9:Hid _:=hd
  have HB9:Hid _:=HR.out.bel
  have HR9:Hid _:=hr
  have l0:W9.cell? ⟨w.heap.size,0,none⟩=some (.slice b0 Q.s.length d0):=(zaa hbx).1
  have l1:W9.cell? ⟨w.heap.size,1,none⟩=some (.slice b1 Q.hs.length d1):=(zaa hbx).2.1
  have l2:W9.cell? ⟨w.heap.size,2,none⟩=some (.slice b2 Q.i.length d2):=(zaa hbx).2.2.1
  have l3:W9.cell? ⟨w.heap.size,3,none⟩=some (.slice b3 Q.t.length d3):=(zaa hbx).2.2.2.1
  have ll:=zaz hbx
  have BZ:=HR.out.z
  obtain⟨z0,z1,z2,z3,fz,lz⟩:=zaa BZ
  clear hd hr hbx HR
  go_wp2_with fail
  obtain⟨W8,hW8⟩:∃ W8,W8=((((W9.setCell ⟨w.heap.size+1+1,0,none⟩ (.slice b0 Q.s.length d0)).setCell ⟨w.heap.size+1+1,1,none⟩ (.slice b1 Q.hs.length d1)).setCell ⟨w.heap.size+1+1,2,none⟩ (.slice b2 Q.i.length d2)).setCell ⟨w.heap.size+1+1,3,none⟩ (.slice b3 Q.t.length d3)):=⟨_,rfl⟩
  rw[← hW8]
  obtain⟨BZ8,HB8,HR8⟩:=zaT BZ HB9.out HR9.out hW8
  clear z0 z1 z2 z3 fz lz l0 l1 l2 l3 ll hW8
  obtain⟨z0,z1,z2,z3,fz,lz⟩:=zaa BZ8
  exact bodyPost_ret (v:=.tuple #[.agg #[.slice b0 Q.s.length d0,.slice b1 Q.hs.length d1,.slice b2 Q.i.length d2,.slice b3 Q.t.length d3],.int .i64 o,.int .i64 0]) (by simp[results,Tryz.results12,go_sem,z0,z1,z2,z3]) rfl ⟨⟨b0,b1,b2,b3,d0,d1,d2,d3⟩,by rw[HD9.out],HB8,by rw[HD9.out];exact HR8⟩
 ·have y1:decide (E=0)=false:=decide_eq_false hE
  have y2:(E == 0)=false:=beq_eq_false_iff_ne.2 hE
  have y3:(E != 0)=true:=by simp[hE]
  have HBD:Hid (doG R ⟨xk,(p:Int),xr,xs,xn⟩=bad E):=HR.out.bad hE
  have HBX:Hid (Below w.heap.size w W9):=HR.out.bel
  have BZX:Hid (W9.heap[w.heap.size+1+1]?=some (.cells #[.slice none 0 0,.slice none 0 0,.slice none 0 0,.slice none 0 0] 31 (0,0))):=HR.out.z
  clear HR
  go_wp2_with fail
  refine Calls.mono (zba E _) ?_
  rintro e w8 ⟨rfl,hb⟩
  have HB8:Hid (Below w.heap.size w w8):=HBX.out.trans (hb.mono HBX.out.size)
  have BZ8:=keepB BZX.out hb
  clear hb
  obtain⟨z0,z1,z2,z3,fz,lz⟩:=zaa BZ8
  go_wp2_with fail
  obtain⟨W7,hW7⟩:∃ W7,W7=((((w8.setCell ⟨w.heap.size+1+1,0,none⟩ (.slice none 0 0)).setCell ⟨w.heap.size+1+1,1,none⟩ (.slice none 0 0)).setCell ⟨w.heap.size+1+1,2,none⟩ (.slice none 0 0)).setCell ⟨w.heap.size+1+1,3,none⟩ (.slice none 0 0)):=⟨_,rfl⟩
  rw[← hW7]
  obtain⟨BZ7,HB7,_⟩:=zaT (Q:=zaR) (b0:=none) (b1:=none) (b2:=none) (b3:=none) (d0:=0) (d1:=0) (d2:=0) (d3:=0) BZ8 HB8.out (zaI _ _) hW7
  clear z0 z1 z2 z3 fz lz hW7
  have BZ6:W7.heap[w.heap.size+1+1]?=some (.cells #[.slice none 0 0,.slice none 0 0,.slice none 0 0,.slice none 0 0] 31 (0,0)):=BZ7
  obtain⟨z0,z1,z2,z3,fz,lz⟩:=zaa BZ6
  exact bodyPost_ret (v:=.tuple #[.agg #[.slice none 0 0,.slice none 0 0,.slice none 0 0,.slice none 0 0],.int .i64 0,.int .i64 E]) (by simp[results,Tryz.results12,go_sem,z0,z1,z2,z3]) rfl ⟨⟨none,none,none,none,0,0,0,0⟩,by rw[HBD.out];rfl,HB7,by rw[HBD.out];exact zaI _ _⟩
end Go.Proofs.YtojlkdekdbdpoaaGreat
