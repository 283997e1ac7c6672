/-
  x
-/
import Derived.Test.YtojlkdekdbdpoaaGreatJDq
import Derived.Test.YtojlkdekdbdpoaaGreatJDfRaRbRh
import Derived.Deep.RegionHeld3
import Derived.Deep.DeepCutAuto
import Derived.Deep.CutBlock
namespace Go.Proofs.YtojlkdekdbdpoaaGreat
set_option maxRecDepth 100000
set_option maxHeartbeats 4000000
open Go.RowKit
set_option linter.unusedVariables false
theorem zoz(hC:zbH)(a0 a1 a2 a3:Option Addr)(c0 c1 c2 c3:Nat)(R:Rl)(p q:Nat)(xs xn h1 h2:Int)(w:World)(hR:zay R=0)(hL:RlAt w ⟨a0,a1,a2,a3,c0,c1,c2,c3⟩ R)(hp:p<16)(hq:q<16)(hh:R.hs.getD p (0,0)=(h1,h2)) :
  Calls Tryz.prog 12 #[.agg #[.slice a0 R.s.length c0,.slice a1 R.hs.length c1,.slice a2 R.i.length c2,.slice a3 R.t.length c3],.agg #[.int .i64 8,.int .i64 (p:Int),.int .i64 (q:Int),.int .i64 xs,.int .i64 xn]] w (DoesP R ⟨8,p,(q:Int),xs,xn⟩ w):=by
 have HHD:Hid (hd R (p:Int)=(h1,h2)):=hd_of hh
 have HA:Hid (isH (p:Int)):=⟨by omega,by omega⟩
 have HB2:Hid (isH (q:Int)):=⟨by omega,by omega⟩
 obtain⟨wf,h16,hgr,ht⟩:=zau hR
 have DI:Hid (∀ W,_):=fun W=>zbW (p:Int) W (by omega)
 have DI2:Hid (∀ W,_):=fun W=>zbW (q:Int) W (by omega)
 have hq2:(q:Int)<16:=by omega
 have DW:Hid (∀ W,RlAt W ⟨a0,a1,a2,a3,c0,c1,c2,c3⟩ R→_):=fun W hW=>zbM a0 a1 a2 a3 c0 c1 c2 c3 R W hR hW
 have HL:Hid (RlAt w ⟨a0,a1,a2,a3,c0,c1,c2,c3⟩ R):=hL
 have HCI:Hid (ClsAt w a2 R.i):=hL.2.2.1
 have H16:Hid (R.hs.length=16):=h16
 have HWF:Hid (WF R.s):=wf
 have HD:Hid (R.hs.getD p (0,0)=(h1,h2)):=hh
 have hp2:(p:Int)<16:=by omega
 clear hL hR hgr hh h16 wf
 go_enter Tryz.func12,Tryz.ntmps12
 go_wp2_with fail
 refine Calls.mono (DI.out _) ?_
 rintro e w' ⟨rfl,hw⟩
 have hw2:=hw.symm
 clear hw
 subst hw2
 go_wp2_with fail
 refine Calls.mono (DI2.out _) ?_
 rintro e w' ⟨rfl,hw⟩
 have hw2:=hw.symm
 clear hw
 subst hw2
 have W0B:Hid (Below w.heap.size w (((w.alloc (.cells #[.slice a0 R.s.length c0,.slice a1 R.hs.length c1,.slice a2 R.i.length c2,.slice a3 R.t.length c3] 31)).alloc (.cells #[.int .i64 8,.int .i64 (p:Int),.int .i64 (q:Int),.int .i64 xs,.int .i64 xn] 33)).alloc (.cells #[.slice none 0 0,.slice none 0 0,.slice none 0 0,.slice none 0 0] 31))):=(zaf w _ _).trans ((zab _ _).mono (by first|(simp;done)|(simp;omega)))
 go_wp2_with fail
 refine Calls.mono (DW.out _ (HL.out.below W0B.out)) ?_
 rintro e w1 ⟨v0,K,v1,v3,rfl,hb,hO,hH,hT⟩
 obtain⟨s0,k0,rfl,_⟩:=hO.nds
 obtain⟨g,k1,rfl⟩:∃ g k1,v1=.slice (some ⟨g,0,none⟩) 16 k1:=by
  rcases hH.2 with ⟨rfl,h0⟩ |⟨g,cap,cur,rfl,_⟩
  ·omega
  ·exact⟨g,cap,rfl⟩
 obtain⟨t0,k3,rfl,_⟩:=zdo hT
 simp only[World.size_alloc] at hO hH hT
 obtain⟨hI0,q1,q2,hg2,hg3,br,bx,bz⟩:=zbA HL.out H16.out HD.out hp hb hO hH hT
 have HI:Hid (DoesI w w1.heap.size R 8 (p:Int) (q:Int) xs xn h1 h2 s0 k0 K g k1 a2 c2 t0 k3 (((((w1.setCell ⟨w.heap.size,0,none⟩ (.slice s0 R.s.length k0)).setCell ⟨w.heap.size,1,none⟩ (.slice (some ⟨g,0,none⟩) 16 k1)).setCell ⟨w.heap.size,2,none⟩ (.slice a2 R.i.length c2)).setCell ⟨w.heap.size,3,none⟩ (.slice t0 R.t.length k3)).alloc (.cells #[.int .i64 h1,.int .i64 h2] 60))):=hI0
 obtain⟨l0,l1,l2,l3,fl,ll⟩:=zaa br
 obtain⟨m0,m1,m2,m3,m4,lm⟩:=zaH bx
 obtain⟨z0,z1,z2,z3,fz,lz⟩:=zaa bz
 clear hb hO hH hT bx bz br hI0 DW DI W0B HL
 go_upto_block 0 with fail
 go_cut [10,11] (fun s10 s11 wx=>∃ o E:Int,s10=.int .i64 o∧s11=.int .i64 E∧Hid (DoesR w R ⟨8,(p:Int),(q:Int),xs,xn⟩ o E wx))
 case first =>
  have DFH:Hid (∀ V,NdsAt V s0 R.s→Calls Tryz.prog 34 #[.agg #[.slice s0 R.s.length k0],.agg #[.int .i64 h1,.int .i64 h2]] V fun e w' => e=.returned (.int .i64 (findE R.s h1 h2))∧Below V.heap.size V w'):=fun V hV=>by
   have h:=zcR s0 k0 R.s h1 h2 V (by have:=HWF.out.small;omega) hV
   rw[zdP HWF.out] at h
   exact h
  go_wp2_with fail
  refine Calls.mono (DFH.out _ HI.out.nds) ?_
  rintro e w2 ⟨rfl,hb⟩
  have HI2:Hid (DoesI w w1.heap.size R 8 (p:Int) (q:Int) xs xn h1 h2 s0 k0 K g k1 a2 c2 t0 k3 w2):=HI.out.below hb
  clear HI DFH hb
  clear l0 l1 l2 l3 fl ll m0 m1 m2 m3 m4 lm z0 z1 z2 z3 fz lz q1 q2
  obtain⟨l0,l1,l2,l3,fl,ll⟩:=zaa HI2.out.r
  obtain⟨m0,m1,m2,m3,m4,lm⟩:=zaH HI2.out.x
  obtain⟨z0,z1,z2,z3,fz,lz⟩:=zaa HI2.out.z
  obtain⟨n0,n1,ln⟩:=zaY HI2.out.a
  by_cases hE:findE R.s h1 h2=0
  ·rw[hE]
   have hpl:0≤h1∧h1<(R.s.length:Int):=by
    obtain⟨_,k,e,hk,_⟩:=zbm hE
    omega
   have hpl0:0≤h1:=hpl.1
   have hpl1:h1<(R.s.length:Int):=hpl.2
   clear hpl
   obtain⟨sg,es0,hsg1,hsg2⟩:=zjw HI2.out.own (by omega)
   subst es0
   by_cases hpp:(nd R.s h1.toNat).p = -1
   ·have hdd:doG R ⟨8,(p:Int),(q:Int),xs,xn⟩=ans 6 R 0:=by
     show doG _ _=_;unfold doG;dsimp only;rw[if_pos HA.out,if_neg (by decide),if_neg (by decide),if_neg (by decide),if_neg (by decide),if_neg (by decide),if_neg (by decide),if_neg (by decide),if_neg (by decide),if_pos (by decide),if_pos HB2.out,if_neg (by decide),if_pos rfl,HHD.out]
     unfold aUp ans upE
     rw[if_pos hE,if_pos hpp]
     rfl
    have HR2:Hid (DoesR w R ⟨8,(p:Int),(q:Int),xs,xn⟩ 0 6 w2):=HI2.out.ask H16.out hdd
    have c4:w2.cell? ⟨sg,h1.toNat*8+4,none⟩=some (.int .i64 (-1)):=(HI2.out.own.cellAt (i:=h1.toNat) (j:=4) (by omega) (by omega)).trans (by rw[← hpp];rfl)
    have hsg3:sg<w2.heap.size:=World.block_lt_of_cell? _ _ c4
    clear hdd hE hpp
    go_wp2_with fail
    go_meet
    case rel=>exact⟨0,6,rfl,rfl,HR2⟩
   ·have hpr:=zlU HWF.out (k:=h1.toNat) (by omega) hpp
    have hdd:doG R ⟨8,(p:Int),(q:Int),xs,xn⟩=⟨0,⟨R.s,R.hs.set q ((nd R.s h1.toNat).p,(nd R.s (nd R.s h1.toNat).p.toNat).n),R.i,R.t⟩,0⟩:=by
     show doG _ _=_;unfold doG;dsimp only;rw[if_pos HA.out,if_neg (by decide),if_neg (by decide),if_neg (by decide),if_neg (by decide),if_neg (by decide),if_neg (by decide),if_neg (by decide),if_neg (by decide),if_pos (by decide),if_pos HB2.out,if_neg (by decide),if_pos rfl,HHD.out]
     unfold aUp ans upE
     rw[if_pos hE,if_neg hpp,if_pos rfl]
     rfl
    have HR2:Hid _:=HI2.out.hst H16.out HCI.out hq hdd
    have c4:w2.cell? ⟨sg,h1.toNat*8+4,none⟩=some (.int .i64 (nd R.s h1.toNat).p):=HI2.out.own.cellAt (i:=h1.toNat) (j:=4) (by omega) (by omega)
    clear hdd
    generalize (nd R.s h1.toNat).p=pu at *
    have hpr0:0≤pu:=hpr.1
    have hpr1:pu<(R.s.length:Int):=hpr.2
    have hp1:(pu == -1)=false:=beq_eq_false_iff_ne.2 (by omega)
    have hp3:decide (pu = -1)=false:=decide_eq_false (by omega)
    have c1' : w2.cell? ⟨sg,pu.toNat*8+1,none⟩=some (.int .i64 (nd R.s pu.toNat).n):=HI2.out.own.cellAt (i:=pu.toNat) (j:=1) (by omega) (by omega)
    generalize (nd R.s pu.toNat).n=nu at *
    dsimp only at HR2
    clear hpr hE hpp
    have hsg3:sg<w2.heap.size:=World.block_lt_of_cell? _ _ c4
    have gfz:∀ o,w2.frozen? ⟨g,o,none⟩=false:=HI2.out.hs.frozenAt
    have hg4:g<w2.heap.size:=(HI2.out.hs.lt g rfl).2
    have hg5:w.heap.size+5≤g:=(HI2.out.hs.lt g rfl).1
    have gsn:g≠sg:=fun e=>zbr HI2.out.hs HI2.out.own.1 (by decide) g rfl (by rw[e];rfl)
    have ng0:¬ w.heap.size=g:=by omega
    have ng1:¬ w.heap.size+1=g:=by omega
    have ng2:¬ sg=g:=fun e=>gsn e.symm
    have ng3:¬ g=w.heap.size:=by omega
    have ng4:¬ g=w.heap.size+1:=by omega
    have ng5:¬ g=sg:=gsn
    obtain⟨o1,ho1⟩:∃ v,w2.cell? ⟨g,q*2,none⟩=some v:=by
     obtain⟨y,_⟩:=zbj R.hs q (by rw[H16.out];exact hq)
     have:=HI2.out.hs.cells (g:=g) rfl _ _ y
     rw[Addr.add_lit,Nat.zero_add] at this
     exact⟨_,this⟩
    obtain⟨o2,ho2⟩:∃ v,w2.cell? ⟨g,q*2+1,none⟩=some v:=by
     obtain⟨_,y⟩:=zbj R.hs q (by rw[H16.out];exact hq)
     have:=HI2.out.hs.cells (g:=g) rfl _ _ y
     rw[Addr.add_lit,Nat.zero_add] at this
     exact⟨_,this⟩
    go_wp2_with fail
    go_region_held3 (fun w'' => w''.cell? ⟨sg,pu.toNat*8+1,none⟩=some (.int .i64 nu)∧w''.cell? ⟨w.heap.size,0,none⟩=some (.slice (some ⟨sg,0,none⟩) R.s.length k0)∧w''.cell? ⟨w.heap.size,1,none⟩=some (.slice (some ⟨g,0,none⟩) 16 k1)∧w''.cell? ⟨w.heap.size+1,2,none⟩=some (.int .i64 (q:Int))) (go_keep) (fail)
    go_wp2_with fail
    go_meet
    case rel=>exact⟨0,0,rfl,rfl,HR2⟩
  ·have hdd:doG R ⟨8,(p:Int),(q:Int),xs,xn⟩=ans (findE R.s h1 h2) R 0:=by
    show doG _ _=_;unfold doG;dsimp only;rw[if_pos HA.out,if_neg (by decide),if_neg (by decide),if_neg (by decide),if_neg (by decide),if_neg (by decide),if_neg (by decide),if_neg (by decide),if_neg (by decide),if_pos (by decide),if_pos HB2.out,if_neg (by decide),if_pos rfl,HHD.out]
    unfold aUp ans upE
    rw[if_neg hE,if_neg hE,if_neg hE]
   have HR2:Hid (DoesR w R ⟨8,(p:Int),(q:Int),xs,xn⟩ 0 (findE R.s h1 h2) w2):=HI2.out.ask H16.out hdd
   have y1:decide (findE R.s h1 h2=0)=false:=decide_eq_false hE
   have y2:(findE R.s h1 h2 == 0)=false:=beq_eq_false_iff_ne.2 hE
   have y3:(findE R.s h1 h2 != 0)=true:=by simp[hE]
   generalize findE R.s h1 h2=E at *
   clear hdd
   go_wp2_with fail
   go_meet
   case rel=>exact⟨0,E,rfl,rfl,HR2⟩
 case rest =>
 obtain⟨o,E,rfl,rfl,HR⟩:=hcut
 obtain⟨W9,rfl⟩:∃ W,W=wc:=⟨_,rfl⟩
 clear HI l0 l1 l2 l3 fl ll m0 m1 m2 m3 m4 lm z0 z1 z2 z3 fz lz q1 q2
 by_cases hE:E=0
 ·obtain⟨b0,b1,b2,b3,d0,d1,d2,d3,Q,hd,hbx,hr⟩:=HR.out.ok hE
  subst hE
  have HD9:Hid _:=hd
  have HB9:Hid _:=HR.out.bel
  have HR9:Hid _:=hr
  have l0:W9.cell? ⟨w.heap.size,0,none⟩=some (.slice b0 Q.s.length d0):=(zaa hbx).1
  have l1:W9.cell? ⟨w.heap.size,1,none⟩=some (.slice b1 Q.hs.length d1):=(zaa hbx).2.1
  have l2:W9.cell? ⟨w.heap.size,2,none⟩=some (.slice b2 Q.i.length d2):=(zaa hbx).2.2.1
  have l3:W9.cell? ⟨w.heap.size,3,none⟩=some (.slice b3 Q.t.length d3):=(zaa hbx).2.2.2.1
  have ll:=zaz hbx
  have BZ:=HR.out.z
  obtain⟨z0,z1,z2,z3,fz,lz⟩:=zaa BZ
  clear hd hr hbx HR
  go_wp2_with fail
  obtain⟨W8,hW8⟩:∃ W8,W8=((((W9.setCell ⟨w.heap.size+1+1,0,none⟩ (.slice b0 Q.s.length d0)).setCell ⟨w.heap.size+1+1,1,none⟩ (.slice b1 Q.hs.length d1)).setCell ⟨w.heap.size+1+1,2,none⟩ (.slice b2 Q.i.length d2)).setCell ⟨w.heap.size+1+1,3,none⟩ (.slice b3 Q.t.length d3)):=⟨_,rfl⟩
  rw[← hW8]
  obtain⟨BZ8,HB8,HR8⟩:=zaT BZ HB9.out HR9.out hW8
  clear z0 z1 z2 z3 fz lz l0 l1 l2 l3 ll hW8
  obtain⟨z0,z1,z2,z3,fz,lz⟩:=zaa BZ8
  exact bodyPost_ret (v:=.tuple #[.agg #[.slice b0 Q.s.length d0,.slice b1 Q.hs.length d1,.slice b2 Q.i.length d2,.slice b3 Q.t.length d3],.int .i64 o,.int .i64 0]) (by simp[results,Tryz.results12,go_sem,z0,z1,z2,z3]) rfl ⟨⟨b0,b1,b2,b3,d0,d1,d2,d3⟩,by rw[HD9.out],HB8,by rw[HD9.out];exact HR8⟩
 ·have y1:decide (E=0)=false:=decide_eq_false hE
  have y2:(E == 0)=false:=beq_eq_false_iff_ne.2 hE
  have y3:(E != 0)=true:=by simp[hE]
  have HBD:Hid (doG R ⟨8,(p:Int),(q:Int),xs,xn⟩=bad E):=HR.out.bad hE
  have HBX:Hid (Below w.heap.size w W9):=HR.out.bel
  have BZX:Hid (W9.heap[w.heap.size+1+1]?=some (.cells #[.slice none 0 0,.slice none 0 0,.slice none 0 0,.slice none 0 0] 31 (0,0))):=HR.out.z
  clear HR
  go_wp2_with fail
  refine Calls.mono (zba E _) ?_
  rintro e w8 ⟨rfl,hb⟩
  have HB8:Hid (Below w.heap.size w w8):=HBX.out.trans (hb.mono HBX.out.size)
  have BZ8:=keepB BZX.out hb
  clear hb
  obtain⟨z0,z1,z2,z3,fz,lz⟩:=zaa BZ8
  go_wp2_with fail
  obtain⟨W7,hW7⟩:∃ W7,W7=((((w8.setCell ⟨w.heap.size+1+1,0,none⟩ (.slice none 0 0)).setCell ⟨w.heap.size+1+1,1,none⟩ (.slice none 0 0)).setCell ⟨w.heap.size+1+1,2,none⟩ (.slice none 0 0)).setCell ⟨w.heap.size+1+1,3,none⟩ (.slice none 0 0)):=⟨_,rfl⟩
  rw[← hW7]
  obtain⟨BZ7,HB7,_⟩:=zaT (Q:=zaR) (b0:=none) (b1:=none) (b2:=none) (b3:=none) (d0:=0) (d1:=0) (d2:=0) (d3:=0) BZ8 HB8.out (zaI _ _) hW7
  clear z0 z1 z2 z3 fz lz hW7
  have BZ6:W7.heap[w.heap.size+1+1]?=some (.cells #[.slice none 0 0,.slice none 0 0,.slice none 0 0,.slice none 0 0] 31 (0,0)):=BZ7
  obtain⟨z0,z1,z2,z3,fz,lz⟩:=zaa BZ6
  exact bodyPost_ret (v:=.tuple #[.agg #[.slice none 0 0,.slice none 0 0,.slice none 0 0,.slice none 0 0],.int .i64 0,.int .i64 E]) (by simp[results,Tryz.results12,go_sem,z0,z1,z2,z3]) rfl ⟨⟨none,none,none,none,0,0,0,0⟩,by rw[HBD.out];rfl,HB7,by rw[HBD.out];exact zaI _ _⟩
end Go.Proofs.YtojlkdekdbdpoaaGreat

namespace Go.Proofs.YtojlkdekdbdpoaaGreat
set_option maxRecDepth 100000
set_option maxHeartbeats 4000000
open Go.RowKit
set_option linter.unusedVariables false
theorem zoE(hC:zbH)(a0 a1 a2 a3:Option Addr)(c0 c1 c2 c3:Nat)(R:Rl)(p q:Nat)(xs xn h1 h2:Int)(w:World)(hR:zay R=0)(hL:RlAt w ⟨a0,a1,a2,a3,c0,c1,c2,c3⟩ R)(hp:p<16)(hq:q<16)(hh:R.hs.getD p (0,0)=(h1,h2))(j1 j2:Int)(hjq:R.hs.getD q (0,0)=(j1,j2))(hxc:xs<0) :
  Calls Tryz.prog 12 #[.agg #[.slice a0 R.s.length c0,.slice a1 R.hs.length c1,.slice a2 R.i.length c2,.slice a3 R.t.length c3],.agg #[.int .i64 3,.int .i64 (p:Int),.int .i64 (q:Int),.int .i64 xs,.int .i64 xn]] w (DoesP R ⟨3,p,(q:Int),xs,xn⟩ w):=by
 have c15:decide ((15:Int)<xs)=false:=decide_eq_false (by omega)
 have c0x:decide ((0:Int)≤xs)=false:=decide_eq_false (by omega)
 have HJD:Hid (hd R (q:Int)=(j1,j2)):=hd_of hjq
 have HBQ:Hid (R.hs.getD q (0,0)=(j1,j2)):=hjq
 have HHD:Hid (hd R (p:Int)=(h1,h2)):=hd_of hh
 have HA:Hid (isH (p:Int)):=⟨by omega,by omega⟩
 have HB2:Hid (isH (q:Int)):=⟨by omega,by omega⟩
 obtain⟨wf,h16,hgr,ht⟩:=zau hR
 have DI:Hid (∀ W,_):=fun W=>zbW (p:Int) W (by omega)
 have DI2:Hid (∀ W,_):=fun W=>zbW (q:Int) W (by omega)
 have hq2:(q:Int)<16:=by omega
 have DW:Hid (∀ W,RlAt W ⟨a0,a1,a2,a3,c0,c1,c2,c3⟩ R→_):=fun W hW=>zbM a0 a1 a2 a3 c0 c1 c2 c3 R W hR hW
 have HL:Hid (RlAt w ⟨a0,a1,a2,a3,c0,c1,c2,c3⟩ R):=hL
 have HCI:Hid (ClsAt w a2 R.i):=hL.2.2.1
 have H16:Hid (R.hs.length=16):=h16
 have HWF:Hid (WF R.s):=wf
 have HD:Hid (R.hs.getD p (0,0)=(h1,h2)):=hh
 have hp2:(p:Int)<16:=by omega
 clear hL hR hgr hh h16 wf hjq
 go_enter Tryz.func12,Tryz.ntmps12
 go_wp2_with fail
 refine Calls.mono (DI.out _) ?_
 rintro e w' ⟨rfl,hw⟩
 have hw2:=hw.symm
 clear hw
 subst hw2
 go_wp2_with fail
 refine Calls.mono (DI2.out _) ?_
 rintro e w' ⟨rfl,hw⟩
 have hw2:=hw.symm
 clear hw
 subst hw2
 have W0B:Hid (Below w.heap.size w (((w.alloc (.cells #[.slice a0 R.s.length c0,.slice a1 R.hs.length c1,.slice a2 R.i.length c2,.slice a3 R.t.length c3] 31)).alloc (.cells #[.int .i64 3,.int .i64 (p:Int),.int .i64 (q:Int),.int .i64 xs,.int .i64 xn] 33)).alloc (.cells #[.slice none 0 0,.slice none 0 0,.slice none 0 0,.slice none 0 0] 31))):=(zaf w _ _).trans ((zab _ _).mono (by first|(simp;done)|(simp;omega)))
 go_wp2_with fail
 refine Calls.mono (DW.out _ (HL.out.below W0B.out)) ?_
 rintro e w1 ⟨v0,K,v1,v3,rfl,hb,hO,hH,hT⟩
 obtain⟨s0,k0,rfl,_⟩:=hO.nds
 obtain⟨g,k1,rfl⟩:∃ g k1,v1=.slice (some ⟨g,0,none⟩) 16 k1:=by
  rcases hH.2 with ⟨rfl,h0⟩ |⟨g,cap,cur,rfl,_⟩
  ·omega
  ·exact⟨g,cap,rfl⟩
 obtain⟨t0,k3,rfl,_⟩:=zdo hT
 simp only[World.size_alloc] at hO hH hT
 obtain⟨hI0,q1,q2,hg2,hg3,br,bx,bz⟩:=zbA HL.out H16.out HD.out hp hb hO hH hT
 have HI:Hid (DoesI w w1.heap.size R 3 (p:Int) (q:Int) xs xn h1 h2 s0 k0 K g k1 a2 c2 t0 k3 (((((w1.setCell ⟨w.heap.size,0,none⟩ (.slice s0 R.s.length k0)).setCell ⟨w.heap.size,1,none⟩ (.slice (some ⟨g,0,none⟩) 16 k1)).setCell ⟨w.heap.size,2,none⟩ (.slice a2 R.i.length c2)).setCell ⟨w.heap.size,3,none⟩ (.slice t0 R.t.length k3)).alloc (.cells #[.int .i64 h1,.int .i64 h2] 60))):=hI0
 obtain⟨l0,l1,l2,l3,fl,ll⟩:=zaa br
 obtain⟨m0,m1,m2,m3,m4,lm⟩:=zaH bx
 obtain⟨z0,z1,z2,z3,fz,lz⟩:=zaa bz
 clear hb hO hH hT bx bz br hI0 DW DI W0B HL
 go_upto_block 0 with fail
 go_cut [10,11] (fun s10 s11 wx=>∃ o E:Int,s10=.int .i64 o∧s11=.int .i64 E∧Hid (DoesR w R ⟨3,(p:Int),(q:Int),xs,xn⟩ o E wx))
 case first =>
  have HDG:Hid (doG R ⟨3,(p:Int),(q:Int),xs,xn⟩=ans (insE R.s h1 h2 j1 j2 ([]:List (Int × Int))) ⟨insS R.s h1 j1 ([]:List (Int × Int)),R.hs,R.i,R.t⟩ 0):=by show doG _ _=_;unfold doG;dsimp only;rw[if_pos HA.out,if_neg (by decide),if_neg (by decide),if_neg (by decide),if_neg (by decide),if_neg (by decide),if_neg (by decide),if_neg (by decide),if_neg (by decide),if_pos (by decide),if_pos HB2.out,if_neg (by decide),if_neg (by decide),if_pos hxc,HHD.out,HJD.out];rfl
  have DFH:Hid (∀ ha hc V hV hH,_):=fun ha hc V hV hH=>(zfw hC R.s (h1,h2) (j1,j2) ([]:List (Int × Int)) ha hc HWF.out (by simp)) s0 k0 V hV hH
  generalize insE R.s h1 h2 j1 j2 ([]:List (Int × Int))=E at *
  generalize insS R.s h1 j1 ([]:List (Int × Int))=TT at *
  go_wp2_with fail
  obtain⟨W2,hW2⟩:∃ W2,(((((w1.setCell ⟨w.heap.size,0,none⟩ (.slice s0 R.s.length k0)).setCell ⟨w.heap.size,1,none⟩ (.slice (some ⟨g,0,none⟩) 16 k1)).setCell ⟨w.heap.size,2,none⟩ (.slice a2 R.i.length c2)).setCell ⟨w.heap.size,3,none⟩ (.slice t0 R.t.length k3)).alloc (.cells #[.int .i64 h1,.int .i64 h2] 60))=W2:=⟨_,rfl⟩
  rw[hW2] at HI
  have HI2:Hid (DoesI w w1.heap.size R 3 (p:Int) (q:Int) xs xn h1 h2 s0 k0 K g k1 a2 c2 t0 k3 W2):=HI
  have hs1:w1.heap.size<W2.heap.size:=by rw[← hW2];simp
  clear HI
  clear l0 l1 l2 l3 fl ll m0 m1 m2 m3 m4 lm z0 z1 z2 z3 fz lz q1 q2
  obtain⟨l0,l1,l2,l3,fl,ll⟩:=zaa HI2.out.r
  obtain⟨m0,m1,m2,m3,m4,lm⟩:=zaH HI2.out.x
  obtain⟨z0,z1,z2,z3,fz,lz⟩:=zaa HI2.out.z
  obtain⟨n0,n1,ln⟩:=zaY HI2.out.a
  have gfz:∀ o,W2.frozen? ⟨g,o,none⟩=false:=HI2.out.hs.frozenAt
  have hg4:g<W2.heap.size:=(HI2.out.hs.lt g rfl).2
  have hg5:w.heap.size+5≤g:=(HI2.out.hs.lt g rfl).1
  have ng0:¬ w.heap.size=g:=by omega
  have ng1:¬ w.heap.size+1=g:=by omega
  have ng3:¬ g=w.heap.size:=by omega
  have ng4:¬ g=w.heap.size+1:=by omega
  have ng6:¬ g=w.heap.size+1+1:=by omega
  have ng7:¬ w.heap.size+1+1=g:=by omega
  rw[hW2]
  clear hW2 gfz
  obtain⟨x1,x2⟩:W2.cell? ⟨g,q*2,none⟩=some (.int .i64 j1)∧W2.cell? ⟨g,q*2+1,none⟩=some (.int .i64 j2):=by
   obtain⟨y1,y2⟩:=zbj R.hs q (by rw[H16.out];exact hq)
   rw[HBQ.out] at y1 y2
   have y3:=HI2.out.hs.cells (g:=g) rfl _ _ y1
   have y4:=HI2.out.hs.cells (g:=g) rfl _ _ y2
   rw[Addr.add_lit,Nat.zero_add] at y3 y4
   exact⟨y3,y4⟩
  refine wp_region_noPanic ?_
  refine wp_region_held_drew (S:=fun w'' => w''.cell? ⟨w.heap.size,1,none⟩=some (.slice (some ⟨g,0,none⟩) 16 k1)∧w''.cell? ⟨w.heap.size+1,2,none⟩=some (.int .i64 (q:Int))∧w''.cell? ⟨w1.heap.size,0,none⟩=some (.int .i64 h1)∧w''.cell? ⟨w1.heap.size,1,none⟩=some (.int .i64 h2)∧w''.cell? ⟨g,q*2,none⟩=some (.int .i64 j1)∧w''.cell? ⟨g,q*2+1,none⟩=some (.int .i64 j2)) (by kernel_rfl) (by(try dsimp only);go_keep) (fun hHeld=>?_)
  refine wpAnyH_take (i:=0) (v:=?_) rfl (by kernel_rfl) (by kernel_rfl) (by kernel_rfl) (fun _ _ _ h=>h) (Or.inl ⟨by rfl,?_⟩) (by assumption) ?_
  rotate_left
  ·intro w hSw;(try dsimp only at hSw);first|(go_simp;done)|(go_simp;with_reducible rfl)
  simp[Act.put]
  refine wpAnyH_take (i:=2) (v:=?_) rfl (by kernel_rfl) (by kernel_rfl) (by kernel_rfl) (fun _ _ _ h=>h) (Or.inl ⟨by rfl,?_⟩) (by assumption) ?_
  rotate_left
  ·intro w hSw;(try dsimp only at hSw);first|(go_simp;done)|(go_simp;with_reducible rfl)
  simp[Act.put]
  refine wpAnyH_take (i:=3) (v:=?_) rfl (by kernel_rfl) (by kernel_rfl) (by kernel_rfl) (fun _ _ _ h=>h) (Or.inl ⟨by rfl,?_⟩) (by assumption) ?_
  rotate_left
  ·intro w hSw;(try dsimp only at hSw);first|(go_simp;done)|(go_simp;with_reducible rfl)
  simp[Act.put]
  refine wpAnyH_take (i:=4) (v:=?_) rfl (by kernel_rfl) (by kernel_rfl) (by kernel_rfl) (fun _ _ _ h=>h) (Or.inl ⟨by rfl,?_⟩) (by assumption) ?_
  rotate_left
  ·intro w hSw;(try dsimp only at hSw);first|(go_simp;done)|(go_simp;with_reducible rfl)
  simp[Act.put]
  refine wpAnyH_take (i:=5) (v:=?_) rfl (by kernel_rfl) (by kernel_rfl) (by kernel_rfl) (fun _ _ _ h=>h) (Or.inl ⟨by rfl,?_⟩) (by assumption) ?_
  rotate_left
  ·intro w hSw;(try dsimp only at hSw);first|(go_simp;done)|(go_simp;with_reducible rfl)
  simp[Act.put]
  refine wpAnyH_take (i:=6) (v:=?_) rfl (by kernel_rfl) (by kernel_rfl) (by kernel_rfl) (fun _ _ _ h=>h) (Or.inl ⟨by rfl,?_⟩) (by assumption) ?_
  rotate_left
  ·intro w hSw;(try dsimp only at hSw);first|(go_simp;done)|(go_simp;with_reducible rfl)
  simp[Act.put]
  refine wpAnyH_take (i:=7) (v:=?_) rfl (by kernel_rfl) (by kernel_rfl) (by kernel_rfl) (fun _ _ _ h=>h) (Or.inl ⟨by rfl,?_⟩) (by assumption) ?_
  rotate_left
  ·intro w hSw;(try dsimp only at hSw);first|(go_simp;done)|(go_simp;with_reducible rfl)
  simp[Act.put]
  refine wpAnyH_take (i:=8) (v:=?_) rfl (by kernel_rfl) (by kernel_rfl) (by kernel_rfl) (fun _ _ _ h=>h) (Or.inl ⟨by rfl,?_⟩) (by assumption) ?_
  rotate_left
  ·intro w hSw;(try dsimp only at hSw);first|(go_simp;done)|(go_simp;with_reducible rfl)
  simp[Act.put]
  refine wpAnyH_take (i:=9) (v:=?_) rfl (by kernel_rfl) (by kernel_rfl) (by kernel_rfl) (fun _ _ _ h=>h) (Or.inl ⟨by rfl,?_⟩) (by assumption) ?_
  rotate_left
  ·intro w hSw;(try dsimp only at hSw);first|(go_simp;done)|(go_simp;with_reducible rfl)
  simp[Act.put]
  refine wpAnyH_ready (rs:=[1]) (by kernel_rfl) (by simp) ?_
  refine AllReadyH.cons rfl (fun KX hK=>?_) AllReadyH.nil
  go_simp
  refine hK.out _ _ ?_ (fun hHeld=>?_)
  ·(try dsimp only)
   first|go_keep|assumption
  clear hK KX
  try simp[Act.put]
  refine wpAnyH_ready (rs:=[10]) (by kernel_rfl) (by simp) ?_
  refine AllReadyH.cons rfl (fun KX hK=>?_) AllReadyH.nil
  go_simp
  refine Calls.mono (DFH.out none 0 _ (HI2.out.nds.below (Below.refl _ _).drew) (fun i hi=>absurd hi (Nat.not_lt_zero _))) ?_
  rintro e w5 ⟨a', c', rfl,hb5,hst⟩
  have hb5' : Below W2.heap.size W2 w5:=(Below.refl W2.heap.size W2).drew.trans hb5
  have u0:=keepC l1 hb5'
  have u1:=keepC m2 hb5'
  have u2:=keepC n0 hb5'
  have u3:=keepC n1 hb5'
  have u4:=keepC x1 hb5'
  have u5:=keepC x2 hb5'
  have v0:=keepC l0 hb5'
  have vr:w5.heap[w.heap.size]?=_:=keepB HI2.out.r hb5'
  have s5:W2.heap.size≤w5.heap.size:=hb5'.size
  have s50:w.heap.size<w5.heap.size:=by omega
  have f5:∀ o,w5.frozen? ⟨w.heap.size,o,none⟩=false:=fun o=>(hb5'.frozen (show (⟨w.heap.size,o,none⟩:Addr).block<W2.heap.size from ll)).trans (fl o)
  have HR5:Hid (DoesR w R ⟨3,(p:Int),(q:Int),xs,xn⟩ 0 E (w5.setCell ⟨w.heap.size,0,none⟩ (.slice a' (rS E TT).length c'))):=(HI2.out.below hb5').sto H16.out hst HDG.out
  clear hb5 hb5' hst HDG
  generalize (rS E TT).length=tl at *
  go_wp2_with fail
  refine hK.out _ _ ?_ (fun hHeld=>?_)
  ·(try dsimp only)
   exact⟨u0,u1,u2,u3,u4,u5⟩
  clear hK KX
  try simp[Act.put]
  refine wpAnyH_take (i:=11) (v:=?_) rfl (by kernel_rfl) (by kernel_rfl) (by kernel_rfl) (fun _ _ _ h=>h) (Or.inl ⟨by rfl,?_⟩) (by assumption) ?_
  rotate_left
  ·intro w hSw;(try dsimp only at hSw);first|(go_simp;done)|(go_simp;with_reducible rfl)
  simp[Act.put]
  refine wpAnyH_take (i:=12) (v:=?_) rfl (by kernel_rfl) (by kernel_rfl) (by kernel_rfl) (fun _ _ _ h=>h) (Or.inl ⟨by rfl,?_⟩) (by assumption) ?_
  rotate_left
  ·intro w hSw;(try dsimp only at hSw);first|(go_simp;done)|(go_simp;with_reducible rfl)
  simp[Act.put]
  refine wpAnyH_take (i:=13) (v:=?_) rfl (by kernel_rfl) (by kernel_rfl) (by kernel_rfl) (fun _ _ _ h=>h) (Or.inl ⟨by rfl,?_⟩) (by assumption) ?_
  rotate_left
  ·intro w hSw;(try dsimp only at hSw);first|(go_simp;done)|(go_simp;with_reducible rfl)
  simp[Act.put]
  refine wpAnyH_take (i:=14) (v:=?_) rfl (by kernel_rfl) (by kernel_rfl) (by kernel_rfl) (fun _ _ _ h=>h) (Or.inl ⟨by rfl,?_⟩) (by assumption) ?_
  rotate_left
  ·intro w hSw;(try dsimp only at hSw);first|(go_simp;done)|(go_simp;with_reducible rfl)
  simp[Act.put]
  refine wpAnyH_ready (rs:=[15]) (by kernel_rfl) (by simp) ?_
  refine AllReadyH.cons rfl (fun KX hK=>?_) AllReadyH.nil
  go_simp
  refine hK.out _ _ ?_ (fun hHeld=>?_)
  ·(try dsimp only)
   exact⟨(zaa (zck vr)).2.1,zai (by omega) u1,zai (by omega) u2,zai (by omega) u3,zai (by omega) u4,zai (by omega) u5⟩
  clear hK KX
  try simp[Act.put]
  refine wpAnyH_take (i:=16) (v:=?_) rfl (by kernel_rfl) (by kernel_rfl) (by kernel_rfl) (fun _ _ _ h=>h) (Or.inl ⟨by rfl,?_⟩) (by assumption) ?_
  rotate_left
  ·intro w hSw;(try dsimp only at hSw);first|(go_simp;done)|(go_simp;with_reducible rfl)
  simp[Act.put]
  refine wpAnyH_done (by kernel_rfl) ?_ _
  refine NoPanic.normal ?_
  clear l0 l1 l2 l3 fl ll m0 m1 m2 m3 m4 lm z0 z1 z2 z3 fz lz n0 n1 ln v0 vr f5 x1 x2
  go_wp2_with fail
  go_meet
  case rel=>exact⟨0,E,rfl,rfl,HR5⟩
 case rest =>
 obtain⟨o,E,rfl,rfl,HR⟩:=hcut
 obtain⟨W9,rfl⟩:∃ W,W=wc:=⟨_,rfl⟩
 clear HI l0 l1 l2 l3 fl ll m0 m1 m2 m3 m4 lm z0 z1 z2 z3 fz lz q1 q2
 by_cases hE:E=0
 ·obtain⟨b0,b1,b2,b3,d0,d1,d2,d3,Q,hd,hbx,hr⟩:=HR.out.ok hE
  subst hE
  have HD9:Hid _:=hd
  have HB9:Hid _:=HR.out.bel
  have HR9:Hid _:=hr
  have l0:W9.cell? ⟨w.heap.size,0,none⟩=some (.slice b0 Q.s.length d0):=(zaa hbx).1
  have l1:W9.cell? ⟨w.heap.size,1,none⟩=some (.slice b1 Q.hs.length d1):=(zaa hbx).2.1
  have l2:W9.cell? ⟨w.heap.size,2,none⟩=some (.slice b2 Q.i.length d2):=(zaa hbx).2.2.1
  have l3:W9.cell? ⟨w.heap.size,3,none⟩=some (.slice b3 Q.t.length d3):=(zaa hbx).2.2.2.1
  have ll:=zaz hbx
  have BZ:=HR.out.z
  obtain⟨z0,z1,z2,z3,fz,lz⟩:=zaa BZ
  clear hd hr hbx HR
  go_wp2_with fail
  obtain⟨W8,hW8⟩:∃ W8,W8=((((W9.setCell ⟨w.heap.size+1+1,0,none⟩ (.slice b0 Q.s.length d0)).setCell ⟨w.heap.size+1+1,1,none⟩ (.slice b1 Q.hs.length d1)).setCell ⟨w.heap.size+1+1,2,none⟩ (.slice b2 Q.i.length d2)).setCell ⟨w.heap.size+1+1,3,none⟩ (.slice b3 Q.t.length d3)):=⟨_,rfl⟩
  rw[← hW8]
  obtain⟨BZ8,HB8,HR8⟩:=zaT BZ HB9.out HR9.out hW8
  clear z0 z1 z2 z3 fz lz l0 l1 l2 l3 ll hW8
  obtain⟨z0,z1,z2,z3,fz,lz⟩:=zaa BZ8
  exact bodyPost_ret (v:=.tuple #[.agg #[.slice b0 Q.s.length d0,.slice b1 Q.hs.length d1,.slice b2 Q.i.length d2,.slice b3 Q.t.length d3],.int .i64 o,.int .i64 0]) (by simp[results,Tryz.results12,go_sem,z0,z1,z2,z3]) rfl ⟨⟨b0,b1,b2,b3,d0,d1,d2,d3⟩,by rw[HD9.out],HB8,by rw[HD9.out];exact HR8⟩
 ·have y1:decide (E=0)=false:=decide_eq_false hE
  have y2:(E == 0)=false:=beq_eq_false_iff_ne.2 hE
  have y3:(E != 0)=true:=by simp[hE]
  have HBD:Hid (doG R ⟨3,(p:Int),(q:Int),xs,xn⟩=bad E):=HR.out.bad hE
  have HBX:Hid (Below w.heap.size w W9):=HR.out.bel
  have BZX:Hid (W9.heap[w.heap.size+1+1]?=some (.cells #[.slice none 0 0,.slice none 0 0,.slice none 0 0,.slice none 0 0] 31 (0,0))):=HR.out.z
  clear HR
  go_wp2_with fail
  refine Calls.mono (zba E _) ?_
  rintro e w8 ⟨rfl,hb⟩
  have HB8:Hid (Below w.heap.size w w8):=HBX.out.trans (hb.mono HBX.out.size)
  have BZ8:=keepB BZX.out hb
  clear hb
  obtain⟨z0,z1,z2,z3,fz,lz⟩:=zaa BZ8
  go_wp2_with fail
  obtain⟨W7,hW7⟩:∃ W7,W7=((((w8.setCell ⟨w.heap.size+1+1,0,none⟩ (.slice none 0 0)).setCell ⟨w.heap.size+1+1,1,none⟩ (.slice none 0 0)).setCell ⟨w.heap.size+1+1,2,none⟩ (.slice none 0 0)).setCell ⟨w.heap.size+1+1,3,none⟩ (.slice none 0 0)):=⟨_,rfl⟩
  rw[← hW7]
  obtain⟨BZ7,HB7,_⟩:=zaT (Q:=zaR) (b0:=none) (b1:=none) (b2:=none) (b3:=none) (d0:=0) (d1:=0) (d2:=0) (d3:=0) BZ8 HB8.out (zaI _ _) hW7
  clear z0 z1 z2 z3 fz lz hW7
  have BZ6:W7.heap[w.heap.size+1+1]?=some (.cells #[.slice none 0 0,.slice none 0 0,.slice none 0 0,.slice none 0 0] 31 (0,0)):=BZ7
  obtain⟨z0,z1,z2,z3,fz,lz⟩:=zaa BZ6
  exact bodyPost_ret (v:=.tuple #[.agg #[.slice none 0 0,.slice none 0 0,.slice none 0 0,.slice none 0 0],.int .i64 0,.int .i64 E]) (by simp[results,Tryz.results12,go_sem,z0,z1,z2,z3]) rfl ⟨⟨none,none,none,none,0,0,0,0⟩,by rw[HBD.out];rfl,HB7,by rw[HBD.out];exact zaI _ _⟩
end Go.Proofs.YtojlkdekdbdpoaaGreat
