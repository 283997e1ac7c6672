/-
  x
-/
import Derived.Test.YtojlkdekdbdpoaaGreatJDq
import Derived.Test.YtojlkdekdbdpoaaGreatJDfRaRbRh
import Derived.Deep.RegionHeld3
import Derived.Deep.DeepCutAuto
import Derived.Deep.CutBlock
namespace Go.Proofs.YtojlkdekdbdpoaaGreat
set_option maxRecDepth 100000
set_option maxHeartbeats 4000000
open Go.RowKit
set_option linter.unusedVariables false
theorem znO(hC:zbH)(a0 a1 a2 a3:Option Addr)(c0 c1 c2 c3:Nat)(R:Rl)(p:Nat)(xr xs xn h1 h2:Int)(w:World)(hR:zay R=0)(hL:RlAt w ⟨a0,a1,a2,a3,c0,c1,c2,c3⟩ R)(hp:p<16)(hh:R.hs.getD p (0,0)=(h1,h2)) :
  Calls Tryz.prog 12 #[.agg #[.slice a0 R.s.length c0,.slice a1 R.hs.length c1,.slice a2 R.i.length c2,.slice a3 R.t.length c3],.agg #[.int .i64 11,.int .i64 (p:Int),.int .i64 xr,.int .i64 xs,.int .i64 xn]] w (DoesP R ⟨11,p,xr,xs,xn⟩ w):=by
 have HGI:Hid (R.i.length≤24):=(zdG (zau hR).2.2.1).1
 have HHD:Hid (hd R (p:Int)=(h1,h2)):=hd_of hh
 have HA:Hid (isH (p:Int)):=⟨by omega,by omega⟩
 obtain⟨wf,h16,hgr,ht⟩:=zau hR
 have DI:Hid (∀ W,_):=fun W=>zbW (p:Int) W (by omega)
 have DW:Hid (∀ W,RlAt W ⟨a0,a1,a2,a3,c0,c1,c2,c3⟩ R→_):=fun W hW=>zbM a0 a1 a2 a3 c0 c1 c2 c3 R W hR hW
 have HL:Hid (RlAt w ⟨a0,a1,a2,a3,c0,c1,c2,c3⟩ R):=hL
 have HCI:Hid (ClsAt w a2 R.i):=hL.2.2.1
 have H16:Hid (R.hs.length=16):=h16
 have HWF:Hid (WF R.s):=wf
 have HD:Hid (R.hs.getD p (0,0)=(h1,h2)):=hh
 have hp2:(p:Int)<16:=by omega
 clear hL hR hgr hh h16 wf
 go_enter Tryz.func12,Tryz.ntmps12
 go_wp2_with fail
 refine Calls.mono (DI.out _) ?_
 rintro e w' ⟨rfl,hw⟩
 have hw2:=hw.symm
 clear hw
 subst hw2
 have W0B:Hid (Below w.heap.size w (((w.alloc (.cells #[.slice a0 R.s.length c0,.slice a1 R.hs.length c1,.slice a2 R.i.length c2,.slice a3 R.t.length c3] 31)).alloc (.cells #[.int .i64 11,.int .i64 (p:Int),.int .i64 xr,.int .i64 xs,.int .i64 xn] 33)).alloc (.cells #[.slice none 0 0,.slice none 0 0,.slice none 0 0,.slice none 0 0] 31))):=(zaf w _ _).trans ((zab _ _).mono (by first|(simp;done)|(simp;omega)))
 go_wp2_with fail
 refine Calls.mono (DW.out _ (HL.out.below W0B.out)) ?_
 rintro e w1 ⟨v0,K,v1,v3,rfl,hb,hO,hH,hT⟩
 obtain⟨s0,k0,rfl,_⟩:=hO.nds
 obtain⟨g,k1,rfl⟩:∃ g k1,v1=.slice (some ⟨g,0,none⟩) 16 k1:=by
  rcases hH.2 with ⟨rfl,h0⟩ |⟨g,cap,cur,rfl,_⟩
  ·omega
  ·exact⟨g,cap,rfl⟩
 obtain⟨t0,k3,rfl,_⟩:=zdo hT
 simp only[World.size_alloc] at hO hH hT
 obtain⟨hI0,q1,q2,hg2,hg3,br,bx,bz⟩:=zbA HL.out H16.out HD.out hp hb hO hH hT
 have HI:Hid (DoesI w w1.heap.size R 11 (p:Int) xr xs xn h1 h2 s0 k0 K g k1 a2 c2 t0 k3 (((((w1.setCell ⟨w.heap.size,0,none⟩ (.slice s0 R.s.length k0)).setCell ⟨w.heap.size,1,none⟩ (.slice (some ⟨g,0,none⟩) 16 k1)).setCell ⟨w.heap.size,2,none⟩ (.slice a2 R.i.length c2)).setCell ⟨w.heap.size,3,none⟩ (.slice t0 R.t.length k3)).alloc (.cells #[.int .i64 h1,.int .i64 h2] 60))):=hI0
 obtain⟨l0,l1,l2,l3,fl,ll⟩:=zaa br
 obtain⟨m0,m1,m2,m3,m4,lm⟩:=zaH bx
 obtain⟨z0,z1,z2,z3,fz,lz⟩:=zaa bz
 clear hb hO hH hT bx bz br hI0 DW DI W0B HL
 go_upto_block 0 with fail
 go_cut [10,11] (fun s10 s11 wx=>∃ o E:Int,s10=.int .i64 o∧s11=.int .i64 E∧Hid (DoesR w R ⟨11,(p:Int),xr,xs,xn⟩ o E wx))
 case first =>
  have hgi:=HGI.out
  obtain⟨Q1,hQ1⟩:∃ Q:Int,(R.i.length:Int)-1=Q:=⟨_,rfl⟩
  have hwq:IntKind.i64.wrap ((R.i.length:Int)-1)=Q1:=by rw[IntKind.wrap_i64,← hQ1];omega
  by_cases hi:0≤xn∧xn<(R.i.length:Int)
  ·have DCI:Hid (∀ W,_):=fun W=>zjn xn Q1 W true (decide_eq_true (by omega))
   have HDT:Hid (doG R ⟨11,(p:Int),xr,xs,xn⟩=aSet R (h1,h2) (cl R.i xn.toNat).n):=by show doG _ _=_;unfold doG;dsimp only;rw[if_pos HA.out,if_neg (by decide),if_neg (by decide),if_neg (by decide),if_neg (by decide),if_neg (by decide),if_pos rfl,HHD.out];unfold aTake;rw[if_pos hi]
   obtain⟨ib,io,eib,i0,_⟩:=HI.out.i xn.toNat (by omega)
   subst eib
   have hi0:0≤xn:=hi.1
   have hi1:xn<(R.i.length:Int):=hi.2
   have ilt:ib<w1.heap.size+1:=by have:=World.block_lt_of_cell? _ _ i0;simpa using this
   clear hQ1 hi
   generalize (cl R.i xn.toNat).n=cn at *
   have DFH:Hid (∀ V,NdsAt V s0 R.s→Calls Tryz.prog 34 #[.agg #[.slice s0 R.s.length k0],.agg #[.int .i64 h1,.int .i64 h2]] V fun e w' => e=.returned (.int .i64 (findE R.s h1 h2))∧Below V.heap.size V w'):=fun V hV=>by
    have h:=zcR s0 k0 R.s h1 h2 V (by have:=HWF.out.small;omega) hV
    rw[zdP HWF.out] at h
    exact h
   go_wp2_with fail
   refine Calls.mono (DCI.out _) ?_
   rintro e w' ⟨rfl,hw⟩
   have hw2:=hw.symm
   clear hw
   subst hw2
   go_wp2_with fail
   refine Calls.mono (DFH.out _ HI.out.nds) ?_
   rintro e w2 ⟨rfl,hb⟩
   have HI2:Hid (DoesI w w1.heap.size R 11 (p:Int) xr xs xn h1 h2 s0 k0 K g k1 (some ⟨ib,io,none⟩) c2 t0 k3 w2):=HI.out.below hb
   clear HI DFH hb
   clear l0 l1 l2 l3 fl ll m0 m1 m2 m3 m4 lm z0 z1 z2 z3 fz lz q1 q2
   obtain⟨l0,l1,l2,l3,fl,ll⟩:=zaa HI2.out.r
   obtain⟨m0,m1,m2,m3,m4,lm⟩:=zaH HI2.out.x
   obtain⟨z0,z1,z2,z3,fz,lz⟩:=zaa HI2.out.z
   obtain⟨n0,n1,ln⟩:=zaY HI2.out.a
   by_cases hE:findE R.s h1 h2=0
   ·rw[hE]
    by_cases hr:-1000000≤cn∧cn≤1000000
    ·have DMI:Hid (∀ W,_):=fun W=>zfq cn W true (decide_eq_true hr)
     have hpl:0≤h1∧h1<(R.s.length:Int):=by
      obtain⟨_,k,e,hk,_⟩:=zbm hE
      omega
     have hpl0:0≤h1:=hpl.1
     have hpl1:h1<(R.s.length:Int):=hpl.2
     clear hpl
     have hdd:doG R ⟨11,(p:Int),xr,xs,xn⟩=⟨0,⟨R.s.set h1.toNat { nd R.s h1.toNat with m:=cn },R.hs,R.i,R.t⟩,0⟩:=by
      rw[HDT.out]
      unfold aSet ans mrkE
      rw[if_pos hE,if_pos hr,if_pos rfl]
      rfl
     have HDD:Hid _:=hdd
     obtain⟨sg,es0,hsg1,hsg2⟩:=zjw HI2.out.own (by omega)
     subst es0
     have HR2:Hid _:=HI2.out.mrk H16.out HCI.out (k:=h1.toNat) (n:=cn) (by omega) HDD.out
     have fsg:=HI2.out.own.frozenAt
     have nsg:w.heap.size<sg:=by omega
     have ysg2:w2.cell? ⟨sg,h1.toNat*8+3,none⟩=some (.int .i64 (nd R.s h1.toNat).m):=HI2.out.own.cellAt (i:=h1.toNat) (j:=3) (by omega) (by omega)
     clear hdd hr hE HDD
     generalize (nd R.s h1.toNat).m=om at ysg2
     go_wp2_with fail
     refine Calls.mono (DMI.out _) ?_
     rintro e w' ⟨rfl,hw⟩
     have hw2:=hw.symm
     clear hw
     subst hw2
     go_wp2_with fail
     go_meet
     case rel=>exact⟨0,0,rfl,rfl,HR2⟩
    ·have DMI:Hid (∀ W,_):=fun W=>zfq cn W false (decide_eq_false hr)
     have hdd:doG R ⟨11,(p:Int),xr,xs,xn⟩=ans 2 R 0:=by
      rw[HDT.out]
      unfold aSet ans mrkE
      rw[if_pos hE,if_neg hr]
      rfl
     have HR2:Hid (DoesR w R ⟨11,(p:Int),xr,xs,xn⟩ 0 2 w2):=HI2.out.ask H16.out hdd
     clear hdd hr hE
     go_wp2_with fail
     refine Calls.mono (DMI.out _) ?_
     rintro e w' ⟨rfl,hw⟩
     have hw2:=hw.symm
     clear hw
     subst hw2
     go_wp2_with fail
     go_meet
     case rel=>exact⟨0,2,rfl,rfl,HR2⟩
   ·have hdd:doG R ⟨11,(p:Int),xr,xs,xn⟩=ans (findE R.s h1 h2) R 0:=by
     rw[HDT.out]
     unfold aSet ans mrkE
     rw[if_neg hE,if_neg hE,if_neg hE]
    have HR2:Hid (DoesR w R ⟨11,(p:Int),xr,xs,xn⟩ 0 (findE R.s h1 h2) w2):=HI2.out.ask H16.out hdd
    have y1:decide (findE R.s h1 h2=0)=false:=decide_eq_false hE
    have y2:(findE R.s h1 h2 == 0)=false:=beq_eq_false_iff_ne.2 hE
    have y3:(findE R.s h1 h2 != 0)=true:=by simp[hE]
    generalize findE R.s h1 h2=E at *
    clear hdd
    go_wp2_with fail
    go_meet
    case rel=>exact⟨0,E,rfl,rfl,HR2⟩
  ·have DCI:Hid (∀ W,_):=fun W=>zjn xn Q1 W false (decide_eq_false (by omega))
   have HBD:Hid (doG R ⟨11,(p:Int),xr,xs,xn⟩=bad 4):=by show doG _ _=_;unfold doG;dsimp only;rw[if_pos HA.out,if_neg (by decide),if_neg (by decide),if_neg (by decide),if_neg (by decide),if_neg (by decide),if_pos rfl,HHD.out];unfold aTake;rw[if_neg hi]
   clear hi hQ1
   go_wp2_with fail
   refine Calls.mono (DCI.out _) ?_
   rintro e w' ⟨rfl,hw⟩
   have hw2:=hw.symm
   clear hw
   subst hw2
   have HBX:Hid (Below w.heap.size w (((((w1.setCell ⟨w.heap.size,0,none⟩ (.slice s0 R.s.length k0)).setCell ⟨w.heap.size,1,none⟩ (.slice (some ⟨g,0,none⟩) 16 k1)).setCell ⟨w.heap.size,2,none⟩ (.slice a2 R.i.length c2)).setCell ⟨w.heap.size,3,none⟩ (.slice t0 R.t.length k3)).alloc (.cells #[.int .i64 h1,.int .i64 h2] 60))):=HI.out.bel
   have BZX:Hid ((((((w1.setCell ⟨w.heap.size,0,none⟩ (.slice s0 R.s.length k0)).setCell ⟨w.heap.size,1,none⟩ (.slice (some ⟨g,0,none⟩) 16 k1)).setCell ⟨w.heap.size,2,none⟩ (.slice a2 R.i.length c2)).setCell ⟨w.heap.size,3,none⟩ (.slice t0 R.t.length k3)).alloc (.cells #[.int .i64 h1,.int .i64 h2] 60)).heap[w.heap.size+1+1]?=some (.cells #[.slice none 0 0,.slice none 0 0,.slice none 0 0,.slice none 0 0] 31 (0,0))):=HI.out.z
   clear HI
   go_wp2_with fail
   refine Calls.mono (zba 4 _) ?_
   rintro e w8 ⟨rfl,hb⟩
   have HB8:Hid (Below w.heap.size w w8):=HBX.out.trans (hb.mono HBX.out.size)
   have BZ8:=keepB BZX.out hb
   clear hb l0 l1 l2 l3 fl ll m0 m1 m2 m3 m4 lm z0 z1 z2 z3 fz lz q1 q2
   obtain⟨z0,z1,z2,z3,fz,lz⟩:=zaa BZ8
   go_wp2_with fail
   obtain⟨W7,hW7⟩:∃ W7,W7=((((w8.setCell ⟨w.heap.size+1+1,0,none⟩ (.slice none 0 0)).setCell ⟨w.heap.size+1+1,1,none⟩ (.slice none 0 0)).setCell ⟨w.heap.size+1+1,2,none⟩ (.slice none 0 0)).setCell ⟨w.heap.size+1+1,3,none⟩ (.slice none 0 0)):=⟨_,rfl⟩
   rw[← hW7]
   obtain⟨BZ7,HB7,_⟩:=zaT (Q:=zaR) (b0:=none) (b1:=none) (b2:=none) (b3:=none) (d0:=0) (d1:=0) (d2:=0) (d3:=0) BZ8 HB8.out (zaI _ _) hW7
   clear z0 z1 z2 z3 fz lz hW7
   have BZ6:W7.heap[w.heap.size+1+1]?=some (.cells #[.slice none 0 0,.slice none 0 0,.slice none 0 0,.slice none 0 0] 31 (0,0)):=BZ7
   obtain⟨z0,z1,z2,z3,fz,lz⟩:=zaa BZ6
   exact bodyPost_ret (v:=.tuple #[.agg #[.slice none 0 0,.slice none 0 0,.slice none 0 0,.slice none 0 0],.int .i64 0,.int .i64 4]) (by simp[results,Tryz.results12,go_sem,z0,z1,z2,z3]) rfl ⟨⟨none,none,none,none,0,0,0,0⟩,by rw[HBD.out];rfl,HB7,by rw[HBD.out];exact zaI _ _⟩
 case rest =>
 obtain⟨o,E,rfl,rfl,HR⟩:=hcut
 obtain⟨W9,rfl⟩:∃ W,W=wc:=⟨_,rfl⟩
 clear HI l0 l1 l2 l3 fl ll m0 m1 m2 m3 m4 lm z0 z1 z2 z3 fz lz q1 q2
 by_cases hE:E=0
 ·obtain⟨b0,b1,b2,b3,d0,d1,d2,d3,Q,hd,hbx,hr⟩:=HR.out.ok hE
  subst hE
  have HD9:Hid _:=hd
  have HB9:Hid _:=HR.out.bel
  have HR9:Hid _:=hr
  have l0:W9.cell? ⟨w.heap.size,0,none⟩=some (.slice b0 Q.s.length d0):=(zaa hbx).1
  have l1:W9.cell? ⟨w.heap.size,1,none⟩=some (.slice b1 Q.hs.length d1):=(zaa hbx).2.1
  have l2:W9.cell? ⟨w.heap.size,2,none⟩=some (.slice b2 Q.i.length d2):=(zaa hbx).2.2.1
  have l3:W9.cell? ⟨w.heap.size,3,none⟩=some (.slice b3 Q.t.length d3):=(zaa hbx).2.2.2.1
  have ll:=zaz hbx
  have BZ:=HR.out.z
  obtain⟨z0,z1,z2,z3,fz,lz⟩:=zaa BZ
  clear hd hr hbx HR
  go_wp2_with fail
  obtain⟨W8,hW8⟩:∃ W8,W8=((((W9.setCell ⟨w.heap.size+1+1,0,none⟩ (.slice b0 Q.s.length d0)).setCell ⟨w.heap.size+1+1,1,none⟩ (.slice b1 Q.hs.length d1)).setCell ⟨w.heap.size+1+1,2,none⟩ (.slice b2 Q.i.length d2)).setCell ⟨w.heap.size+1+1,3,none⟩ (.slice b3 Q.t.length d3)):=⟨_,rfl⟩
  rw[← hW8]
  obtain⟨BZ8,HB8,HR8⟩:=zaT BZ HB9.out HR9.out hW8
  clear z0 z1 z2 z3 fz lz l0 l1 l2 l3 ll hW8
  obtain⟨z0,z1,z2,z3,fz,lz⟩:=zaa BZ8
  exact bodyPost_ret (v:=.tuple #[.agg #[.slice b0 Q.s.length d0,.slice b1 Q.hs.length d1,.slice b2 Q.i.length d2,.slice b3 Q.t.length d3],.int .i64 o,.int .i64 0]) (by simp[results,Tryz.results12,go_sem,z0,z1,z2,z3]) rfl ⟨⟨b0,b1,b2,b3,d0,d1,d2,d3⟩,by rw[HD9.out],HB8,by rw[HD9.out];exact HR8⟩
 ·have y1:decide (E=0)=false:=decide_eq_false hE
  have y2:(E == 0)=false:=beq_eq_false_iff_ne.2 hE
  have y3:(E != 0)=true:=by simp[hE]
  have HBD:Hid (doG R ⟨11,(p:Int),xr,xs,xn⟩=bad E):=HR.out.bad hE
  have HBX:Hid (Below w.heap.size w W9):=HR.out.bel
  have BZX:Hid (W9.heap[w.heap.size+1+1]?=some (.cells #[.slice none 0 0,.slice none 0 0,.slice none 0 0,.slice none 0 0] 31 (0,0))):=HR.out.z
  clear HR
  go_wp2_with fail
  refine Calls.mono (zba E _) ?_
  rintro e w8 ⟨rfl,hb⟩
  have HB8:Hid (Below w.heap.size w w8):=HBX.out.trans (hb.mono HBX.out.size)
  have BZ8:=keepB BZX.out hb
  clear hb
  obtain⟨z0,z1,z2,z3,fz,lz⟩:=zaa BZ8
  go_wp2_with fail
  obtain⟨W7,hW7⟩:∃ W7,W7=((((w8.setCell ⟨w.heap.size+1+1,0,none⟩ (.slice none 0 0)).setCell ⟨w.heap.size+1+1,1,none⟩ (.slice none 0 0)).setCell ⟨w.heap.size+1+1,2,none⟩ (.slice none 0 0)).setCell ⟨w.heap.size+1+1,3,none⟩ (.slice none 0 0)):=⟨_,rfl⟩
  rw[← hW7]
  obtain⟨BZ7,HB7,_⟩:=zaT (Q:=zaR) (b0:=none) (b1:=none) (b2:=none) (b3:=none) (d0:=0) (d1:=0) (d2:=0) (d3:=0) BZ8 HB8.out (zaI _ _) hW7
  clear z0 z1 z2 z3 fz lz hW7
  have BZ6:W7.heap[w.heap.size+1+1]?=some (.cells #[.slice none 0 0,.slice none 0 0,.slice none 0 0,.slice none 0 0] 31 (0,0)):=BZ7
  obtain⟨z0,z1,z2,z3,fz,lz⟩:=zaa BZ6
  exact bodyPost_ret (v:=.tuple #[.agg #[.slice none 0 0,.slice none 0 0,.slice none 0 0,.slice none 0 0],.int .i64 0,.int .i64 E]) (by simp[results,Tryz.results12,go_sem,z0,z1,z2,z3]) rfl ⟨⟨none,none,none,none,0,0,0,0⟩,by rw[HBD.out];rfl,HB7,by rw[HBD.out];exact zaI _ _⟩
end Go.Proofs.YtojlkdekdbdpoaaGreat

namespace Go.Proofs.YtojlkdekdbdpoaaGreat
set_option maxRecDepth 100000
set_option maxHeartbeats 4000000
open Go.RowKit
set_option linter.unusedVariables false
theorem znx(hC:zbH)(a0 a1 a2 a3:Option Addr)(c0 c1 c2 c3:Nat)(R:Rl)(p:Nat)(xk xr xs xn h1 h2:Int)(w:World)(hR:zay R=0)(hL:RlAt w ⟨a0,a1,a2,a3,c0,c1,c2,c3⟩ R)(hp:p<16)(hh:R.hs.getD p (0,0)=(h1,h2))(hk:xk=14∨xk=15) :
  Calls Tryz.prog 12 #[.agg #[.slice a0 R.s.length c0,.slice a1 R.hs.length c1,.slice a2 R.i.length c2,.slice a3 R.t.length c3],.agg #[.int .i64 xk,.int .i64 (p:Int),.int .i64 xr,.int .i64 xs,.int .i64 xn]] w (DoesP R ⟨xk,p,xr,xs,xn⟩ w):=by
 have hne:xk≠3∧xk≠7∧xk≠8:=by omega
 have d3:decide (xk=3)=false:=decide_eq_false hne.1
 have b3:(xk == 3)=false:=beq_eq_false_iff_ne.2 hne.1
 have d7:decide (xk=7)=false:=decide_eq_false hne.2.1
 have b7:(xk == 7)=false:=beq_eq_false_iff_ne.2 hne.2.1
 have d8:decide (xk=8)=false:=decide_eq_false hne.2.2
 have b8:(xk == 8)=false:=beq_eq_false_iff_ne.2 hne.2.2
 have HHD:Hid (hd R (p:Int)=(h1,h2)):=hd_of hh
 have HA:Hid (isH (p:Int)):=⟨by omega,by omega⟩
 clear hne
 obtain⟨wf,h16,hgr,ht⟩:=zau hR
 have DI:Hid (∀ W,_):=fun W=>zbW (p:Int) W (by omega)
 have DW:Hid (∀ W,RlAt W ⟨a0,a1,a2,a3,c0,c1,c2,c3⟩ R→_):=fun W hW=>zbM a0 a1 a2 a3 c0 c1 c2 c3 R W hR hW
 have HL:Hid (RlAt w ⟨a0,a1,a2,a3,c0,c1,c2,c3⟩ R):=hL
 have HCI:Hid (ClsAt w a2 R.i):=hL.2.2.1
 have H16:Hid (R.hs.length=16):=h16
 have HWF:Hid (WF R.s):=wf
 have HD:Hid (R.hs.getD p (0,0)=(h1,h2)):=hh
 have hp2:(p:Int)<16:=by omega
 clear hL hR hgr hh h16 wf
 go_enter Tryz.func12,Tryz.ntmps12
 go_wp2_with fail
 refine Calls.mono (DI.out _) ?_
 rintro e w' ⟨rfl,hw⟩
 have hw2:=hw.symm
 clear hw
 subst hw2
 have W0B:Hid (Below w.heap.size w (((w.alloc (.cells #[.slice a0 R.s.length c0,.slice a1 R.hs.length c1,.slice a2 R.i.length c2,.slice a3 R.t.length c3] 31)).alloc (.cells #[.int .i64 xk,.int .i64 (p:Int),.int .i64 xr,.int .i64 xs,.int .i64 xn] 33)).alloc (.cells #[.slice none 0 0,.slice none 0 0,.slice none 0 0,.slice none 0 0] 31))):=(zaf w _ _).trans ((zab _ _).mono (by first|(simp;done)|(simp;omega)))
 go_wp2_with fail
 refine Calls.mono (DW.out _ (HL.out.below W0B.out)) ?_
 rintro e w1 ⟨v0,K,v1,v3,rfl,hb,hO,hH,hT⟩
 obtain⟨s0,k0,rfl,_⟩:=hO.nds
 obtain⟨g,k1,rfl⟩:∃ g k1,v1=.slice (some ⟨g,0,none⟩) 16 k1:=by
  rcases hH.2 with ⟨rfl,h0⟩ |⟨g,cap,cur,rfl,_⟩
  ·omega
  ·exact⟨g,cap,rfl⟩
 obtain⟨t0,k3,rfl,_⟩:=zdo hT
 simp only[World.size_alloc] at hO hH hT
 obtain⟨hI0,q1,q2,hg2,hg3,br,bx,bz⟩:=zbA HL.out H16.out HD.out hp hb hO hH hT
 have HI:Hid (DoesI w w1.heap.size R xk (p:Int) xr xs xn h1 h2 s0 k0 K g k1 a2 c2 t0 k3 (((((w1.setCell ⟨w.heap.size,0,none⟩ (.slice s0 R.s.length k0)).setCell ⟨w.heap.size,1,none⟩ (.slice (some ⟨g,0,none⟩) 16 k1)).setCell ⟨w.heap.size,2,none⟩ (.slice a2 R.i.length c2)).setCell ⟨w.heap.size,3,none⟩ (.slice t0 R.t.length k3)).alloc (.cells #[.int .i64 h1,.int .i64 h2] 60))):=hI0
 obtain⟨l0,l1,l2,l3,fl,ll⟩:=zaa br
 obtain⟨m0,m1,m2,m3,m4,lm⟩:=zaH bx
 obtain⟨z0,z1,z2,z3,fz,lz⟩:=zaa bz
 clear hb hO hH hT bx bz br hI0 DW DI W0B HL
 go_upto_block 0 with fail
 go_cut [10,11] (fun s10 s11 wx=>∃ o E:Int,s10=.int .i64 o∧s11=.int .i64 E∧Hid (DoesR w R ⟨xk,(p:Int),xr,xs,xn⟩ o E wx))
 case first =>
  rcases hk with rfl|rfl
  ·have HDG:Hid (doG R ⟨14,(p:Int),xr,xs,xn⟩=ans (cntE R.s h1 h2 [⟨xr,xn,false⟩]) R ((zcq R.s h1.toNat [⟨xr,xn,false⟩]).length:Int)):=by show doG _ _=_;unfold doG;dsimp only;rw[if_pos HA.out,if_neg (by decide),if_neg (by decide),if_neg (by decide),if_neg (by decide),if_neg (by decide),if_neg (by decide),if_pos rfl,HHD.out];rfl
   have DFH:Hid (∀ V qa qc,NdsAt V s0 R.s→zaK V qa [⟨xr,xn,false⟩]→_):=fun V qa qc hV hQ=>zkX hC R.s (h1,h2) xr xn qa qc HWF.out s0 k0 V hV hQ
   have TST:Hid (∀ V:World,V.heap.size=w1.heap.size+1→zaK (V.alloc (.cells #[.int .i64 xr,.int .i64 xn,.bool false] 77)) (some ⟨w1.heap.size+1,0,none⟩) [⟨xr,xn,false⟩]):=fun V hV=>by rw[← hV];exact znB _ _ _ _
   go_wp2_with fail
   refine Calls.mono (DFH.out _ _ _ (HI.out.nds.below (zab _ _)) (TST.out _ (by simp))) ?_
   rintro e w2 ⟨a', c', n,rfl,hb,hn⟩
   have HI2:Hid (DoesI w w1.heap.size R 14 (p:Int) xr xs xn h1 h2 s0 k0 K g k1 a2 c2 t0 k3 w2):=HI.out.below ((zab _ _).trans (hb.mono (by simp)))
   have HR2:Hid (DoesR w R ⟨14,(p:Int),xr,xs,xn⟩ (n:Int) (cntE R.s h1 h2 [⟨xr,xn,false⟩]) w2):=HI2.out.ask H16.out (HDG.out.trans (zjh fun h=>by rw[hn,if_pos h]))
   clear hb hn HI DFH HDG
   clear l0 l1 l2 l3 fl ll m0 m1 m2 m3 m4 lm z0 z1 z2 z3 fz lz q1 q2
   obtain⟨l0,l1,l2,l3,fl,ll⟩:=zaa HI2.out.r
   obtain⟨m0,m1,m2,m3,m4,lm⟩:=zaH HI2.out.x
   obtain⟨z0,z1,z2,z3,fz,lz⟩:=zaa HI2.out.z
   obtain⟨n0,n1,ln⟩:=zaY HI2.out.a
   generalize cntE R.s h1 h2 [⟨xr,xn,false⟩]=E at *
   go_wp2_with fail
   go_meet
   case rel=>exact⟨n,E,rfl,rfl,HR2⟩
  ·have HDG:Hid (doG R ⟨15,(p:Int),xr,xs,xn⟩=ans (findE R.s h1 h2) R ((flatF R.s h1.toNat).length:Int)):=by show doG _ _=_;unfold doG;dsimp only;rw[if_pos HA.out,if_neg (by decide),if_neg (by decide),if_neg (by decide),if_neg (by decide),if_neg (by decide),if_neg (by decide),if_neg (by decide),if_pos rfl,HHD.out];rfl
   have DFH:Hid (∀ V hV,_):=fun V hV=>zms hC R.s (h1,h2) HWF.out s0 k0 V hV
   go_wp2_with fail
   refine Calls.mono (DFH.out _ HI.out.nds) ?_
   rintro e w2 ⟨a', c', n,rfl,hb,hn⟩
   have HI2:Hid (DoesI w w1.heap.size R 15 (p:Int) xr xs xn h1 h2 s0 k0 K g k1 a2 c2 t0 k3 w2):=HI.out.below hb
   have HR2:Hid (DoesR w R ⟨15,(p:Int),xr,xs,xn⟩ (n:Int) (findE R.s h1 h2) w2):=HI2.out.ask H16.out (HDG.out.trans (zjh fun h=>by rw[hn,if_pos h]))
   clear hb hn HI DFH HDG
   clear l0 l1 l2 l3 fl ll m0 m1 m2 m3 m4 lm z0 z1 z2 z3 fz lz q1 q2
   obtain⟨l0,l1,l2,l3,fl,ll⟩:=zaa HI2.out.r
   obtain⟨m0,m1,m2,m3,m4,lm⟩:=zaH HI2.out.x
   obtain⟨z0,z1,z2,z3,fz,lz⟩:=zaa HI2.out.z
   obtain⟨n0,n1,ln⟩:=zaY HI2.out.a
   generalize findE R.s h1 h2=E at *
   go_wp2_with fail
   go_meet
   case rel=>exact⟨n,E,rfl,rfl,HR2⟩
 case rest =>
 obtain⟨o,E,rfl,rfl,HR⟩:=hcut
 obtain⟨W9,rfl⟩:∃ W,W=wc:=⟨_,rfl⟩
 clear HI l0 l1 l2 l3 fl ll m0 m1 m2 m3 m4 lm z0 z1 z2 z3 fz lz q1 q2
 by_cases hE:E=0
 ·obtain⟨b0,b1,b2,b3,d0,d1,d2,d3,Q,hd,hbx,hr⟩:=HR.out.ok hE
  subst hE
  have HD9:Hid _:=hd
  have HB9:Hid _:=HR.out.bel
  have HR9:Hid _:=hr
  have l0:W9.cell? ⟨w.heap.size,0,none⟩=some (.slice b0 Q.s.length d0):=(zaa hbx).1
  have l1:W9.cell? ⟨w.heap.size,1,none⟩=some (.slice b1 Q.hs.length d1):=(zaa hbx).2.1
  have l2:W9.cell? ⟨w.heap.size,2,none⟩=some (.slice b2 Q.i.length d2):=(zaa hbx).2.2.1
  have l3:W9.cell? ⟨w.heap.size,3,none⟩=some (.slice b3 Q.t.length d3):=(zaa hbx).2.2.2.1
  have ll:=zaz hbx
  have BZ:=HR.out.z
  obtain⟨z0,z1,z2,z3,fz,lz⟩:=zaa BZ
  clear hd hr hbx HR
  go_wp2_with fail
  obtain⟨W8,hW8⟩:∃ W8,W8=((((W9.setCell ⟨w.heap.size+1+1,0,none⟩ (.slice b0 Q.s.length d0)).setCell ⟨w.heap.size+1+1,1,none⟩ (.slice b1 Q.hs.length d1)).setCell ⟨w.heap.size+1+1,2,none⟩ (.slice b2 Q.i.length d2)).setCell ⟨w.heap.size+1+1,3,none⟩ (.slice b3 Q.t.length d3)):=⟨_,rfl⟩
  rw[← hW8]
  obtain⟨BZ8,HB8,HR8⟩:=zaT BZ HB9.out HR9.out hW8
  clear z0 z1 z2 z3 fz lz l0 l1 l2 l3 ll hW8
  obtain⟨z0,z1,z2,z3,fz,lz⟩:=zaa BZ8
  exact bodyPost_ret (v:=.tuple #[.agg #[.slice b0 Q.s.length d0,.slice b1 Q.hs.length d1,.slice b2 Q.i.length d2,.slice b3 Q.t.length d3],.int .i64 o,.int .i64 0]) (by simp[results,Tryz.results12,go_sem,z0,z1,z2,z3]) rfl ⟨⟨b0,b1,b2,b3,d0,d1,d2,d3⟩,by rw[HD9.out],HB8,by rw[HD9.out];exact HR8⟩
 ·have y1:decide (E=0)=false:=decide_eq_false hE
  have y2:(E == 0)=false:=beq_eq_false_iff_ne.2 hE
  have y3:(E != 0)=true:=by simp[hE]
  have HBD:Hid (doG R ⟨xk,(p:Int),xr,xs,xn⟩=bad E):=HR.out.bad hE
  have HBX:Hid (Below w.heap.size w W9):=HR.out.bel
  have BZX:Hid (W9.heap[w.heap.size+1+1]?=some (.cells #[.slice none 0 0,.slice none 0 0,.slice none 0 0,.slice none 0 0] 31 (0,0))):=HR.out.z
  clear HR
  go_wp2_with fail
  refine Calls.mono (zba E _) ?_
  rintro e w8 ⟨rfl,hb⟩
  have HB8:Hid (Below w.heap.size w w8):=HBX.out.trans (hb.mono HBX.out.size)
  have BZ8:=keepB BZX.out hb
  clear hb
  obtain⟨z0,z1,z2,z3,fz,lz⟩:=zaa BZ8
  go_wp2_with fail
  obtain⟨W7,hW7⟩:∃ W7,W7=((((w8.setCell ⟨w.heap.size+1+1,0,none⟩ (.slice none 0 0)).setCell ⟨w.heap.size+1+1,1,none⟩ (.slice none 0 0)).setCell ⟨w.heap.size+1+1,2,none⟩ (.slice none 0 0)).setCell ⟨w.heap.size+1+1,3,none⟩ (.slice none 0 0)):=⟨_,rfl⟩
  rw[← hW7]
  obtain⟨BZ7,HB7,_⟩:=zaT (Q:=zaR) (b0:=none) (b1:=none) (b2:=none) (b3:=none) (d0:=0) (d1:=0) (d2:=0) (d3:=0) BZ8 HB8.out (zaI _ _) hW7
  clear z0 z1 z2 z3 fz lz hW7
  have BZ6:W7.heap[w.heap.size+1+1]?=some (.cells #[.slice none 0 0,.slice none 0 0,.slice none 0 0,.slice none 0 0] 31 (0,0)):=BZ7
  obtain⟨z0,z1,z2,z3,fz,lz⟩:=zaa BZ6
  exact bodyPost_ret (v:=.tuple #[.agg #[.slice none 0 0,.slice none 0 0,.slice none 0 0,.slice none 0 0],.int .i64 0,.int .i64 E]) (by simp[results,Tryz.results12,go_sem,z0,z1,z2,z3]) rfl ⟨⟨none,none,none,none,0,0,0,0⟩,by rw[HBD.out];rfl,HB7,by rw[HBD.out];exact zaI _ _⟩
end Go.Proofs.YtojlkdekdbdpoaaGreat
