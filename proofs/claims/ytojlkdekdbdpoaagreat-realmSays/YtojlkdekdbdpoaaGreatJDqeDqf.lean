/-
  x
-/
import Derived.Test.YtojlkdekdbdpoaaGreatJDq
import Derived.Deep.RegionHeld3
import Derived.Deep.DeepCutAuto
import Derived.Deep.CutBlock
namespace Go.Proofs.YtojlkdekdbdpoaaGreat
set_option maxRecDepth 100000
set_option maxHeartbeats 4000000
open Go.RowKit
set_option linter.unusedVariables false
theorem znA(hC:zbH)(a0 a1 a2 a3:Option Addr)(c0 c1 c2 c3:Nat)(R:Rl)(p:Nat)(xr xs xn h1 h2:Int)(w:World)(hR:zay R=0)(hL:RlAt w ⟨a0,a1,a2,a3,c0,c1,c2,c3⟩ R)(hp:p<16)(hh:R.hs.getD p (0,0)=(h1,h2)) :
  Calls Tryz.prog 12 #[.agg #[.slice a0 R.s.length c0,.slice a1 R.hs.length c1,.slice a2 R.i.length c2,.slice a3 R.t.length c3],.agg #[.int .i64 1,.int .i64 (p:Int),.int .i64 xr,.int .i64 xs,.int .i64 xn]] w (DoesP R ⟨1,p,xr,xs,xn⟩ w):=by
 have HHD:Hid (hd R (p:Int)=(h1,h2)):=hd_of hh
 have HA:Hid (isH (p:Int)):=⟨by omega,by omega⟩
 obtain⟨wf,h16,hgr,ht⟩:=zau hR
 have DI:Hid (∀ W,_):=fun W=>zbW (p:Int) W (by omega)
 have DW:Hid (∀ W,RlAt W ⟨a0,a1,a2,a3,c0,c1,c2,c3⟩ R→_):=fun W hW=>zbM a0 a1 a2 a3 c0 c1 c2 c3 R W hR hW
 have HL:Hid (RlAt w ⟨a0,a1,a2,a3,c0,c1,c2,c3⟩ R):=hL
 have HCI:Hid (ClsAt w a2 R.i):=hL.2.2.1
 have H16:Hid (R.hs.length=16):=h16
 have HWF:Hid (WF R.s):=wf
 have HD:Hid (R.hs.getD p (0,0)=(h1,h2)):=hh
 have hp2:(p:Int)<16:=by omega
 clear hL hR hgr hh h16 wf
 go_enter Tryz.func12,Tryz.ntmps12
 go_wp2_with fail
 refine Calls.mono (DI.out _) ?_
 rintro e w' ⟨rfl,hw⟩
 have hw2:=hw.symm
 clear hw
 subst hw2
 have W0B:Hid (Below w.heap.size w (((w.alloc (.cells #[.slice a0 R.s.length c0,.slice a1 R.hs.length c1,.slice a2 R.i.length c2,.slice a3 R.t.length c3] 31)).alloc (.cells #[.int .i64 1,.int .i64 (p:Int),.int .i64 xr,.int .i64 xs,.int .i64 xn] 33)).alloc (.cells #[.slice none 0 0,.slice none 0 0,.slice none 0 0,.slice none 0 0] 31))):=(zaf w _ _).trans ((zab _ _).mono (by first|(simp;done)|(simp;omega)))
 go_wp2_with fail
 refine Calls.mono (DW.out _ (HL.out.below W0B.out)) ?_
 rintro e w1 ⟨v0,K,v1,v3,rfl,hb,hO,hH,hT⟩
 obtain⟨s0,k0,rfl,_⟩:=hO.nds
 obtain⟨g,k1,rfl⟩:∃ g k1,v1=.slice (some ⟨g,0,none⟩) 16 k1:=by
  rcases hH.2 with ⟨rfl,h0⟩ |⟨g,cap,cur,rfl,_⟩
  ·omega
  ·exact⟨g,cap,rfl⟩
 obtain⟨t0,k3,rfl,_⟩:=zdo hT
 simp only[World.size_alloc] at hO hH hT
 obtain⟨hI0,q1,q2,hg2,hg3,br,bx,bz⟩:=zbA HL.out H16.out HD.out hp hb hO hH hT
 have HI:Hid (DoesI w w1.heap.size R 1 (p:Int) xr xs xn h1 h2 s0 k0 K g k1 a2 c2 t0 k3 (((((w1.setCell ⟨w.heap.size,0,none⟩ (.slice s0 R.s.length k0)).setCell ⟨w.heap.size,1,none⟩ (.slice (some ⟨g,0,none⟩) 16 k1)).setCell ⟨w.heap.size,2,none⟩ (.slice a2 R.i.length c2)).setCell ⟨w.heap.size,3,none⟩ (.slice t0 R.t.length k3)).alloc (.cells #[.int .i64 h1,.int .i64 h2] 60))):=hI0
 obtain⟨l0,l1,l2,l3,fl,ll⟩:=zaa br
 obtain⟨m0,m1,m2,m3,m4,lm⟩:=zaH bx
 obtain⟨z0,z1,z2,z3,fz,lz⟩:=zaa bz
 clear hb hO hH hT bx bz br hI0 DW DI W0B HL
 go_upto_block 0 with fail
 go_cut [10,11] (fun s10 s11 wx=>∃ o E:Int,s10=.int .i64 o∧s11=.int .i64 E∧Hid (DoesR w R ⟨1,(p:Int),xr,xs,xn⟩ o E wx))
 case first =>
  have HDG:Hid (doG R ⟨1,(p:Int),xr,xs,xn⟩=ans (makeE R.s xn) ⟨mkS R.s xn,R.hs.set p (mkH R.s),R.i,R.t⟩ 0):=by show doG _ _=_;unfold doG;dsimp only;rw[if_pos HA.out,if_pos rfl];rfl
  have DFH:Hid (∀ V hV,_):=fun V hV=>(zmR hC R.s xn HWF.out) s0 k0 V hV
  generalize makeE R.s xn=E at *
  generalize mkS R.s xn=TT at *
  generalize mkH R.s=hv at *
  go_wp2_with fail
  obtain⟨W2,hW2⟩:∃ W2,(((((w1.setCell ⟨w.heap.size,0,none⟩ (.slice s0 R.s.length k0)).setCell ⟨w.heap.size,1,none⟩ (.slice (some ⟨g,0,none⟩) 16 k1)).setCell ⟨w.heap.size,2,none⟩ (.slice a2 R.i.length c2)).setCell ⟨w.heap.size,3,none⟩ (.slice t0 R.t.length k3)).alloc (.cells #[.int .i64 h1,.int .i64 h2] 60))=W2:=⟨_,rfl⟩
  rw[hW2] at HI
  have HI2:Hid (DoesI w w1.heap.size R 1 (p:Int) xr xs xn h1 h2 s0 k0 K g k1 a2 c2 t0 k3 W2):=HI
  have hs1:w1.heap.size<W2.heap.size:=by rw[← hW2];simp
  clear HI
  clear l0 l1 l2 l3 fl ll m0 m1 m2 m3 m4 lm z0 z1 z2 z3 fz lz q1 q2
  obtain⟨l0,l1,l2,l3,fl,ll⟩:=zaa HI2.out.r
  obtain⟨m0,m1,m2,m3,m4,lm⟩:=zaH HI2.out.x
  obtain⟨z0,z1,z2,z3,fz,lz⟩:=zaa HI2.out.z
  obtain⟨n0,n1,ln⟩:=zaY HI2.out.a
  have gfz:∀ o,W2.frozen? ⟨g,o,none⟩=false:=HI2.out.hs.frozenAt
  have hg4:g<W2.heap.size:=(HI2.out.hs.lt g rfl).2
  have hg5:w.heap.size+5≤g:=(HI2.out.hs.lt g rfl).1
  have ng0:¬ w.heap.size=g:=by omega
  have ng1:¬ w.heap.size+1=g:=by omega
  have ng3:¬ g=w.heap.size:=by omega
  have ng4:¬ g=w.heap.size+1:=by omega
  have ng6:¬ g=w.heap.size+1+1:=by omega
  have ng7:¬ w.heap.size+1+1=g:=by omega
  rw[hW2]
  clear hW2
  obtain⟨o1,ho1⟩:∃ v,W2.cell? ⟨g,p*2,none⟩=some v:=by
   obtain⟨y,_⟩:=zbj R.hs p (by rw[H16.out];exact hp)
   have:=HI2.out.hs.cells (g:=g) rfl _ _ y
   rw[Addr.add_lit,Nat.zero_add] at this
   exact⟨_,this⟩
  obtain⟨o2,ho2⟩:∃ v,W2.cell? ⟨g,p*2+1,none⟩=some v:=by
   obtain⟨_,y⟩:=zbj R.hs p (by rw[H16.out];exact hp)
   have:=HI2.out.hs.cells (g:=g) rfl _ _ y
   rw[Addr.add_lit,Nat.zero_add] at this
   exact⟨_,this⟩
  refine wp_region_noPanic ?_
  refine wp_region_held_drew (S:=fun w'' => w''.cell? ⟨w.heap.size,1,none⟩=some (.slice (some ⟨g,0,none⟩) 16 k1)∧w''.cell? ⟨w.heap.size+1,1,none⟩=some (.int .i64 (p:Int))∧w''.cell? ⟨w.heap.size+1,4,none⟩=some (.int .i64 xn)) (by kernel_rfl) (by(try dsimp only);go_keep) (fun hHeld=>?_)
  refine wpAnyH_take (i:=0) (v:=?_) rfl (by kernel_rfl) (by kernel_rfl) (by kernel_rfl) (fun _ _ _ h=>h) (Or.inl ⟨by rfl,?_⟩) (by assumption) ?_
  rotate_left
  ·intro w hSw;(try dsimp only at hSw);first|(go_simp;done)|(go_simp;with_reducible rfl)
  simp[Act.put]
  refine wpAnyH_take (i:=1) (v:=?_) rfl (by kernel_rfl) (by kernel_rfl) (by kernel_rfl) (fun _ _ _ h=>h) (Or.inl ⟨by rfl,?_⟩) (by assumption) ?_
  rotate_left
  ·intro w hSw;(try dsimp only at hSw);first|(go_simp;done)|(go_simp;with_reducible rfl)
  simp[Act.put]
  refine wpAnyH_take (i:=2) (v:=?_) rfl (by kernel_rfl) (by kernel_rfl) (by kernel_rfl) (fun _ _ _ h=>h) (Or.inl ⟨by rfl,?_⟩) (by assumption) ?_
  rotate_left
  ·intro w hSw;(try dsimp only at hSw);first|(go_simp;done)|(go_simp;with_reducible rfl)
  simp[Act.put]
  refine wpAnyH_take (i:=3) (v:=?_) rfl (by kernel_rfl) (by kernel_rfl) (by kernel_rfl) (fun _ _ _ h=>h) (Or.inl ⟨by rfl,?_⟩) (by assumption) ?_
  rotate_left
  ·intro w hSw;(try dsimp only at hSw);first|(go_simp;done)|(go_simp;with_reducible rfl)
  simp[Act.put]
  refine wpAnyH_take (i:=4) (v:=?_) rfl (by kernel_rfl) (by kernel_rfl) (by kernel_rfl) (fun _ _ _ h=>h) (Or.inl ⟨by rfl,?_⟩) (by assumption) ?_
  rotate_left
  ·intro w hSw;(try dsimp only at hSw);first|(go_simp;done)|(go_simp;with_reducible rfl)
  simp[Act.put]
  refine wpAnyH_take (i:=6) (v:=?_) rfl (by kernel_rfl) (by kernel_rfl) (by kernel_rfl) (fun _ _ _ h=>h) (Or.inl ⟨by rfl,?_⟩) (by assumption) ?_
  rotate_left
  ·intro w hSw;(try dsimp only at hSw);first|(go_simp;done)|(go_simp;with_reducible rfl)
  simp[Act.put]
  refine wpAnyH_take (i:=7) (v:=?_) rfl (by kernel_rfl) (by kernel_rfl) (by kernel_rfl) (fun _ _ _ h=>h) (Or.inl ⟨by rfl,?_⟩) (by assumption) ?_
  rotate_left
  ·intro w hSw;(try dsimp only at hSw);first|(go_simp;done)|(go_simp;with_reducible rfl)
  simp[Act.put]
  refine wpAnyH_ready (rs:=[5]) (by kernel_rfl) (by simp) ?_
  refine AllReadyH.cons rfl (fun KX hK=>?_) AllReadyH.nil
  go_simp
  refine hK.out _ _ ?_ (fun hHeld=>?_)
  ·(try dsimp only)
   first|go_keep|assumption
  clear hK KX
  try simp[Act.put]
  refine wpAnyH_ready (rs:=[8]) (by kernel_rfl) (by simp) ?_
  refine AllReadyH.cons rfl (fun KX hK=>?_) AllReadyH.nil
  go_simp
  refine Calls.mono (DFH.out _ (HI2.out.nds.below (Below.refl _ _).drew)) ?_
  rintro e w5 ⟨a', c', rfl,hb5,hst⟩
  have hb5' : Below W2.heap.size W2 w5:=(Below.refl W2.heap.size W2).drew.trans hb5
  have u0:=keepC l1 hb5'
  have u1:=keepC m1 hb5'
  have u2:=keepC m4 hb5'
  have v0:=keepC l0 hb5'
  have vr:w5.heap[w.heap.size]?=_:=keepB HI2.out.r hb5'
  have w01:=keepC ho1 hb5'
  have w02:=keepC ho2 hb5'
  have s5:W2.heap.size≤w5.heap.size:=hb5'.size
  have s50:w.heap.size<w5.heap.size:=by omega
  have s5g:g<w5.heap.size:=by omega
  have f5:∀ o,w5.frozen? ⟨w.heap.size,o,none⟩=false:=fun o=>(hb5'.frozen (show (⟨w.heap.size,o,none⟩:Addr).block<W2.heap.size from ll)).trans (fl o)
  have g5:∀ o,w5.frozen? ⟨g,o,none⟩=false:=fun o=>(hb5'.frozen (show (⟨g,o,none⟩:Addr).block<W2.heap.size from hg4)).trans (gfz o)
  have HR5:Hid (DoesR w R ⟨1,(p:Int),xr,xs,xn⟩ 0 E (((w5.setCell ⟨w.heap.size,0,none⟩ (.slice a' (rS E TT).length c')).setCell ⟨g,p*2,none⟩ (.int .i64 (rH E hv).1)).setCell ⟨g,p*2+1,none⟩ (.int .i64 (rH E hv).2))):=(HI2.out.below hb5').hnd H16.out HCI.out hp (n0:=W2.heap.size) ⟨hg4,ll⟩ hst HDG.out
  clear hb5 hb5' hst HDG
  generalize (rS E TT).length=tl at *
  generalize (rH E hv).1=hv1 at *
  generalize (rH E hv).2=hv2 at *
  go_wp2_with fail
  refine hK.out _ _ ?_ (fun hHeld=>?_)
  ·(try dsimp only)
   exact⟨u0,u1,u2⟩
  clear hK KX
  try simp[Act.put]
  refine wpAnyH_take (i:=9) (v:=?_) rfl (by kernel_rfl) (by kernel_rfl) (by kernel_rfl) (fun _ _ _ h=>h) (Or.inl ⟨by rfl,?_⟩) (by assumption) ?_
  rotate_left
  ·intro w hSw;(try dsimp only at hSw);first|(go_simp;done)|(go_simp;with_reducible rfl)
  simp[Act.put]
  refine wpAnyH_take (i:=10) (v:=?_) rfl (by kernel_rfl) (by kernel_rfl) (by kernel_rfl) (fun _ _ _ h=>h) (Or.inl ⟨by rfl,?_⟩) (by assumption) ?_
  rotate_left
  ·intro w hSw;(try dsimp only at hSw);first|(go_simp;done)|(go_simp;with_reducible rfl)
  simp[Act.put]
  refine wpAnyH_take (i:=11) (v:=?_) rfl (by kernel_rfl) (by kernel_rfl) (by kernel_rfl) (fun _ _ _ h=>h) (Or.inl ⟨by rfl,?_⟩) (by assumption) ?_
  rotate_left
  ·intro w hSw;(try dsimp only at hSw);first|(go_simp;done)|(go_simp;with_reducible rfl)
  simp[Act.put]
  refine wpAnyH_take (i:=12) (v:=?_) rfl (by kernel_rfl) (by kernel_rfl) (by kernel_rfl) (fun _ _ _ h=>h) (Or.inl ⟨by rfl,?_⟩) (by assumption) ?_
  rotate_left
  ·intro w hSw;(try dsimp only at hSw);first|(go_simp;done)|(go_simp;with_reducible rfl)
  simp[Act.put]
  refine wpAnyH_take (i:=13) (v:=?_) rfl (by kernel_rfl) (by kernel_rfl) (by kernel_rfl) (fun _ _ _ h=>h) (Or.inl ⟨by rfl,?_⟩) (by assumption) ?_
  rotate_left
  ·intro w hSw;(try dsimp only at hSw);first|(go_simp;done)|(go_simp;with_reducible rfl)
  simp[Act.put]
  refine wpAnyH_ready (rs:=[14]) (by kernel_rfl) (by simp) ?_
  refine AllReadyH.cons rfl (fun KX hK=>?_) AllReadyH.nil
  go_simp
  refine hK.out _ _ ?_ (fun hHeld=>?_)
  ·(try dsimp only)
   exact⟨(zaa (zck vr)).2.1,zai (by omega) u1,zai (by omega) u2⟩
  clear hK KX
  try simp[Act.put]
  refine wpAnyH_take (i:=15) (v:=?_) rfl (by kernel_rfl) (by kernel_rfl) (by kernel_rfl) (fun _ _ _ h=>h) (Or.inl ⟨by rfl,?_⟩) (by assumption) ?_
  rotate_left
  ·intro w hSw;(try dsimp only at hSw);first|(go_simp;done)|(go_simp;with_reducible rfl)
  simp[Act.put]
  refine wpAnyH_ready (rs:=[16]) (by kernel_rfl) (by simp) ?_
  refine AllReadyH.cons rfl (fun KX hK=>?_) AllReadyH.nil
  go_simp
  refine hK.out _ _ ?_ (fun hHeld=>?_)
  ·(try dsimp only)
   exact⟨zai (by omega) (zai (by omega) ((zaa (zck vr)).2.1)),zai (by omega) (zai (by omega) (zai (by omega) u1)),zai (by omega) (zai (by omega) (zai (by omega) u2))⟩
  clear hK KX
  try simp[Act.put]
  refine wpAnyH_take (i:=17) (v:=?_) rfl (by kernel_rfl) (by kernel_rfl) (by kernel_rfl) (fun _ _ _ h=>h) (Or.inl ⟨by rfl,?_⟩) (by assumption) ?_
  rotate_left
  ·intro w hSw;(try dsimp only at hSw);first|(go_simp;done)|(go_simp;with_reducible rfl)
  simp[Act.put]
  refine wpAnyH_done (by kernel_rfl) ?_ _
  refine NoPanic.normal ?_
  clear l0 l1 l2 l3 fl ll m0 m1 m2 m3 m4 lm z0 z1 z2 z3 fz lz n0 n1 ln v0 vr w01 w02 f5 g5 ho1 ho2 gfz
  go_wp2_with fail
  go_meet
  case rel=>exact⟨0,E,rfl,rfl,HR5⟩
 case rest =>
 obtain⟨o,E,rfl,rfl,HR⟩:=hcut
 obtain⟨W9,rfl⟩:∃ W,W=wc:=⟨_,rfl⟩
 clear HI l0 l1 l2 l3 fl ll m0 m1 m2 m3 m4 lm z0 z1 z2 z3 fz lz q1 q2
 by_cases hE:E=0
 ·obtain⟨b0,b1,b2,b3,d0,d1,d2,d3,Q,hd,hbx,hr⟩:=HR.out.ok hE
  subst hE
  have HD9:Hid _:=hd
  have HB9:Hid _:=HR.out.bel
  have HR9:Hid _:=hr
  have l0:W9.cell? ⟨w.heap.size,0,none⟩=some (.slice b0 Q.s.length d0):=(zaa hbx).1
  have l1:W9.cell? ⟨w.heap.size,1,none⟩=some (.slice b1 Q.hs.length d1):=(zaa hbx).2.1
  have l2:W9.cell? ⟨w.heap.size,2,none⟩=some (.slice b2 Q.i.length d2):=(zaa hbx).2.2.1
  have l3:W9.cell? ⟨w.heap.size,3,none⟩=some (.slice b3 Q.t.length d3):=(zaa hbx).2.2.2.1
  have ll:=zaz hbx
  have BZ:=HR.out.z
  obtain⟨z0,z1,z2,z3,fz,lz⟩:=zaa BZ
  clear hd hr hbx HR
  go_wp2_with fail
  obtain⟨W8,hW8⟩:∃ W8,W8=((((W9.setCell ⟨w.heap.size+1+1,0,none⟩ (.slice b0 Q.s.length d0)).setCell ⟨w.heap.size+1+1,1,none⟩ (.slice b1 Q.hs.length d1)).setCell ⟨w.heap.size+1+1,2,none⟩ (.slice b2 Q.i.length d2)).setCell ⟨w.heap.size+1+1,3,none⟩ (.slice b3 Q.t.length d3)):=⟨_,rfl⟩
  rw[← hW8]
  obtain⟨BZ8,HB8,HR8⟩:=zaT BZ HB9.out HR9.out hW8
  clear z0 z1 z2 z3 fz lz l0 l1 l2 l3 ll hW8
  obtain⟨z0,z1,z2,z3,fz,lz⟩:=zaa BZ8
  exact bodyPost_ret (v:=.tuple #[.agg #[.slice b0 Q.s.length d0,.slice b1 Q.hs.length d1,.slice b2 Q.i.length d2,.slice b3 Q.t.length d3],.int .i64 o,.int .i64 0]) (by simp[results,Tryz.results12,go_sem,z0,z1,z2,z3]) rfl ⟨⟨b0,b1,b2,b3,d0,d1,d2,d3⟩,by rw[HD9.out],HB8,by rw[HD9.out];exact HR8⟩
 ·have y1:decide (E=0)=false:=decide_eq_false hE
  have y2:(E == 0)=false:=beq_eq_false_iff_ne.2 hE
  have y3:(E != 0)=true:=by simp[hE]
  have HBD:Hid (doG R ⟨1,(p:Int),xr,xs,xn⟩=bad E):=HR.out.bad hE
  have HBX:Hid (Below w.heap.size w W9):=HR.out.bel
  have BZX:Hid (W9.heap[w.heap.size+1+1]?=some (.cells #[.slice none 0 0,.slice none 0 0,.slice none 0 0,.slice none 0 0] 31 (0,0))):=HR.out.z
  clear HR
  go_wp2_with fail
  refine Calls.mono (zba E _) ?_
  rintro e w8 ⟨rfl,hb⟩
  have HB8:Hid (Below w.heap.size w w8):=HBX.out.trans (hb.mono HBX.out.size)
  have BZ8:=keepB BZX.out hb
  clear hb
  obtain⟨z0,z1,z2,z3,fz,lz⟩:=zaa BZ8
  go_wp2_with fail
  obtain⟨W7,hW7⟩:∃ W7,W7=((((w8.setCell ⟨w.heap.size+1+1,0,none⟩ (.slice none 0 0)).setCell ⟨w.heap.size+1+1,1,none⟩ (.slice none 0 0)).setCell ⟨w.heap.size+1+1,2,none⟩ (.slice none 0 0)).setCell ⟨w.heap.size+1+1,3,none⟩ (.slice none 0 0)):=⟨_,rfl⟩
  rw[← hW7]
  obtain⟨BZ7,HB7,_⟩:=zaT (Q:=zaR) (b0:=none) (b1:=none) (b2:=none) (b3:=none) (d0:=0) (d1:=0) (d2:=0) (d3:=0) BZ8 HB8.out (zaI _ _) hW7
  clear z0 z1 z2 z3 fz lz hW7
  have BZ6:W7.heap[w.heap.size+1+1]?=some (.cells #[.slice none 0 0,.slice none 0 0,.slice none 0 0,.slice none 0 0] 31 (0,0)):=BZ7
  obtain⟨z0,z1,z2,z3,fz,lz⟩:=zaa BZ6
  exact bodyPost_ret (v:=.tuple #[.agg #[.slice none 0 0,.slice none 0 0,.slice none 0 0,.slice none 0 0],.int .i64 0,.int .i64 E]) (by simp[results,Tryz.results12,go_sem,z0,z1,z2,z3]) rfl ⟨⟨none,none,none,none,0,0,0,0⟩,by rw[HBD.out];rfl,HB7,by rw[HBD.out];exact zaI _ _⟩
end Go.Proofs.YtojlkdekdbdpoaaGreat

namespace Go.Proofs.YtojlkdekdbdpoaaGreat
set_option maxRecDepth 100000
set_option maxHeartbeats 4000000
open Go.RowKit
set_option linter.unusedVariables false
theorem znZ(hC:zbH)(a0 a1 a2 a3:Option Addr)(c0 c1 c2 c3:Nat)(R:Rl)(p q:Nat)(xs xn h1 h2:Int)(w:World)(hR:zay R=0)(hL:RlAt w ⟨a0,a1,a2,a3,c0,c1,c2,c3⟩ R)(hp:p<16)(hq:q<16)(hh:R.hs.getD p (0,0)=(h1,h2)) :
  Calls Tryz.prog 12 #[.agg #[.slice a0 R.s.length c0,.slice a1 R.hs.length c1,.slice a2 R.i.length c2,.slice a3 R.t.length c3],.agg #[.int .i64 7,.int .i64 (p:Int),.int .i64 (q:Int),.int .i64 xs,.int .i64 xn]] w (DoesP R ⟨7,p,(q:Int),xs,xn⟩ w):=by
 have HHD:Hid (hd R (p:Int)=(h1,h2)):=hd_of hh
 have HA:Hid (isH (p:Int)):=⟨by omega,by omega⟩
 have HB2:Hid (isH (q:Int)):=⟨by omega,by omega⟩
 obtain⟨wf,h16,hgr,ht⟩:=zau hR
 have DI:Hid (∀ W,_):=fun W=>zbW (p:Int) W (by omega)
 have DI2:Hid (∀ W,_):=fun W=>zbW (q:Int) W (by omega)
 have hq2:(q:Int)<16:=by omega
 have DW:Hid (∀ W,RlAt W ⟨a0,a1,a2,a3,c0,c1,c2,c3⟩ R→_):=fun W hW=>zbM a0 a1 a2 a3 c0 c1 c2 c3 R W hR hW
 have HL:Hid (RlAt w ⟨a0,a1,a2,a3,c0,c1,c2,c3⟩ R):=hL
 have HCI:Hid (ClsAt w a2 R.i):=hL.2.2.1
 have H16:Hid (R.hs.length=16):=h16
 have HWF:Hid (WF R.s):=wf
 have HD:Hid (R.hs.getD p (0,0)=(h1,h2)):=hh
 have hp2:(p:Int)<16:=by omega
 clear hL hR hgr hh h16 wf
 go_enter Tryz.func12,Tryz.ntmps12
 go_wp2_with fail
 refine Calls.mono (DI.out _) ?_
 rintro e w' ⟨rfl,hw⟩
 have hw2:=hw.symm
 clear hw
 subst hw2
 go_wp2_with fail
 refine Calls.mono (DI2.out _) ?_
 rintro e w' ⟨rfl,hw⟩
 have hw2:=hw.symm
 clear hw
 subst hw2
 have W0B:Hid (Below w.heap.size w (((w.alloc (.cells #[.slice a0 R.s.length c0,.slice a1 R.hs.length c1,.slice a2 R.i.length c2,.slice a3 R.t.length c3] 31)).alloc (.cells #[.int .i64 7,.int .i64 (p:Int),.int .i64 (q:Int),.int .i64 xs,.int .i64 xn] 33)).alloc (.cells #[.slice none 0 0,.slice none 0 0,.slice none 0 0,.slice none 0 0] 31))):=(zaf w _ _).trans ((zab _ _).mono (by first|(simp;done)|(simp;omega)))
 go_wp2_with fail
 refine Calls.mono (DW.out _ (HL.out.below W0B.out)) ?_
 rintro e w1 ⟨v0,K,v1,v3,rfl,hb,hO,hH,hT⟩
 obtain⟨s0,k0,rfl,_⟩:=hO.nds
 obtain⟨g,k1,rfl⟩:∃ g k1,v1=.slice (some ⟨g,0,none⟩) 16 k1:=by
  rcases hH.2 with ⟨rfl,h0⟩ |⟨g,cap,cur,rfl,_⟩
  ·omega
  ·exact⟨g,cap,rfl⟩
 obtain⟨t0,k3,rfl,_⟩:=zdo hT
 simp only[World.size_alloc] at hO hH hT
 obtain⟨hI0,q1,q2,hg2,hg3,br,bx,bz⟩:=zbA HL.out H16.out HD.out hp hb hO hH hT
 have HI:Hid (DoesI w w1.heap.size R 7 (p:Int) (q:Int) xs xn h1 h2 s0 k0 K g k1 a2 c2 t0 k3 (((((w1.setCell ⟨w.heap.size,0,none⟩ (.slice s0 R.s.length k0)).setCell ⟨w.heap.size,1,none⟩ (.slice (some ⟨g,0,none⟩) 16 k1)).setCell ⟨w.heap.size,2,none⟩ (.slice a2 R.i.length c2)).setCell ⟨w.heap.size,3,none⟩ (.slice t0 R.t.length k3)).alloc (.cells #[.int .i64 h1,.int .i64 h2] 60))):=hI0
 obtain⟨l0,l1,l2,l3,fl,ll⟩:=zaa br
 obtain⟨m0,m1,m2,m3,m4,lm⟩:=zaH bx
 obtain⟨z0,z1,z2,z3,fz,lz⟩:=zaa bz
 clear hb hO hH hT bx bz br hI0 DW DI W0B HL
 go_upto_block 0 with fail
 go_cut [10,11] (fun s10 s11 wx=>∃ o E:Int,s10=.int .i64 o∧s11=.int .i64 E∧Hid (DoesR w R ⟨7,(p:Int),(q:Int),xs,xn⟩ o E wx))
 case first =>
  have HDG:Hid (doG R ⟨7,(p:Int),(q:Int),xs,xn⟩=ans (hosE R.s h1 h2) ⟨hosS R.s h1 (decide (xn=1)),R.hs.set q (mkH R.s),R.i,R.t⟩ 0):=by show doG _ _=_;unfold doG;dsimp only;rw[if_pos HA.out,if_neg (by decide),if_neg (by decide),if_neg (by decide),if_neg (by decide),if_neg (by decide),if_neg (by decide),if_neg (by decide),if_neg (by decide),if_pos (by decide),if_pos HB2.out,if_pos rfl,HHD.out];rfl
  have DFH:Hid (∀ V hV,_):=fun V hV=>(zlz hC R.s (h1,h2) (decide (xn=1)) HWF.out) s0 k0 V hV
  generalize hosE R.s h1 h2=E at *
  generalize hosS R.s h1 (decide (xn=1))=TT at *
  generalize mkH R.s=hv at *
  go_wp2_with fail
  obtain⟨W2,hW2⟩:∃ W2,(((((w1.setCell ⟨w.heap.size,0,none⟩ (.slice s0 R.s.length k0)).setCell ⟨w.heap.size,1,none⟩ (.slice (some ⟨g,0,none⟩) 16 k1)).setCell ⟨w.heap.size,2,none⟩ (.slice a2 R.i.length c2)).setCell ⟨w.heap.size,3,none⟩ (.slice t0 R.t.length k3)).alloc (.cells #[.int .i64 h1,.int .i64 h2] 60))=W2:=⟨_,rfl⟩
  rw[hW2] at HI
  have HI2:Hid (DoesI w w1.heap.size R 7 (p:Int) (q:Int) xs xn h1 h2 s0 k0 K g k1 a2 c2 t0 k3 W2):=HI
  have hs1:w1.heap.size<W2.heap.size:=by rw[← hW2];simp
  clear HI
  clear l0 l1 l2 l3 fl ll m0 m1 m2 m3 m4 lm z0 z1 z2 z3 fz lz q1 q2
  obtain⟨l0,l1,l2,l3,fl,ll⟩:=zaa HI2.out.r
  obtain⟨m0,m1,m2,m3,m4,lm⟩:=zaH HI2.out.x
  obtain⟨z0,z1,z2,z3,fz,lz⟩:=zaa HI2.out.z
  obtain⟨n0,n1,ln⟩:=zaY HI2.out.a
  have gfz:∀ o,W2.frozen? ⟨g,o,none⟩=false:=HI2.out.hs.frozenAt
  have hg4:g<W2.heap.size:=(HI2.out.hs.lt g rfl).2
  have hg5:w.heap.size+5≤g:=(HI2.out.hs.lt g rfl).1
  have ng0:¬ w.heap.size=g:=by omega
  have ng1:¬ w.heap.size+1=g:=by omega
  have ng3:¬ g=w.heap.size:=by omega
  have ng4:¬ g=w.heap.size+1:=by omega
  have ng6:¬ g=w.heap.size+1+1:=by omega
  have ng7:¬ w.heap.size+1+1=g:=by omega
  rw[hW2]
  clear hW2
  obtain⟨o1,ho1⟩:∃ v,W2.cell? ⟨g,q*2,none⟩=some v:=by
   obtain⟨y,_⟩:=zbj R.hs q (by rw[H16.out];exact hq)
   have:=HI2.out.hs.cells (g:=g) rfl _ _ y
   rw[Addr.add_lit,Nat.zero_add] at this
   exact⟨_,this⟩
  obtain⟨o2,ho2⟩:∃ v,W2.cell? ⟨g,q*2+1,none⟩=some v:=by
   obtain⟨_,y⟩:=zbj R.hs q (by rw[H16.out];exact hq)
   have:=HI2.out.hs.cells (g:=g) rfl _ _ y
   rw[Addr.add_lit,Nat.zero_add] at this
   exact⟨_,this⟩
  refine wp_region_noPanic ?_
  refine wp_region_held_drew (S:=fun w'' => w''.cell? ⟨w.heap.size,1,none⟩=some (.slice (some ⟨g,0,none⟩) 16 k1)∧w''.cell? ⟨w.heap.size+1,2,none⟩=some (.int .i64 (q:Int))∧w''.cell? ⟨w.heap.size+1,4,none⟩=some (.int .i64 xn)∧w''.cell? ⟨w1.heap.size,0,none⟩=some (.int .i64 h1)∧w''.cell? ⟨w1.heap.size,1,none⟩=some (.int .i64 h2)) (by kernel_rfl) (by(try dsimp only);go_keep) (fun hHeld=>?_)
  refine wpAnyH_take (i:=0) (v:=?_) rfl (by kernel_rfl) (by kernel_rfl) (by kernel_rfl) (fun _ _ _ h=>h) (Or.inl ⟨by rfl,?_⟩) (by assumption) ?_
  rotate_left
  ·intro w hSw;(try dsimp only at hSw);first|(go_simp;done)|(go_simp;with_reducible rfl)
  simp[Act.put]
  refine wpAnyH_take (i:=1) (v:=?_) rfl (by kernel_rfl) (by kernel_rfl) (by kernel_rfl) (fun _ _ _ h=>h) (Or.inl ⟨by rfl,?_⟩) (by assumption) ?_
  rotate_left
  ·intro w hSw;(try dsimp only at hSw);first|(go_simp;done)|(go_simp;with_reducible rfl)
  simp[Act.put]
  refine wpAnyH_take (i:=2) (v:=?_) rfl (by kernel_rfl) (by kernel_rfl) (by kernel_rfl) (fun _ _ _ h=>h) (Or.inl ⟨by rfl,?_⟩) (by assumption) ?_
  rotate_left
  ·intro w hSw;(try dsimp only at hSw);first|(go_simp;done)|(go_simp;with_reducible rfl)
  simp[Act.put]
  refine wpAnyH_take (i:=3) (v:=?_) rfl (by kernel_rfl) (by kernel_rfl) (by kernel_rfl) (fun _ _ _ h=>h) (Or.inl ⟨by rfl,?_⟩) (by assumption) ?_
  rotate_left
  ·intro w hSw;(try dsimp only at hSw);first|(go_simp;done)|(go_simp;with_reducible rfl)
  simp[Act.put]
  refine wpAnyH_take (i:=4) (v:=?_) rfl (by kernel_rfl) (by kernel_rfl) (by kernel_rfl) (fun _ _ _ h=>h) (Or.inl ⟨by rfl,?_⟩) (by assumption) ?_
  rotate_left
  ·intro w hSw;(try dsimp only at hSw);first|(go_simp;done)|(go_simp;with_reducible rfl)
  simp[Act.put]
  refine wpAnyH_take (i:=6) (v:=?_) rfl (by kernel_rfl) (by kernel_rfl) (by kernel_rfl) (fun _ _ _ h=>h) (Or.inl ⟨by rfl,?_⟩) (by assumption) ?_
  rotate_left
  ·intro w hSw;(try dsimp only at hSw);first|(go_simp;done)|(go_simp;with_reducible rfl)
  simp[Act.put]
  refine wpAnyH_take (i:=7) (v:=?_) rfl (by kernel_rfl) (by kernel_rfl) (by kernel_rfl) (fun _ _ _ h=>h) (Or.inl ⟨by rfl,?_⟩) (by assumption) ?_
  rotate_left
  ·intro w hSw;(try dsimp only at hSw);first|(go_simp;done)|(go_simp;with_reducible rfl)
  simp[Act.put]
  refine wpAnyH_take (i:=8) (v:=?_) rfl (by kernel_rfl) (by kernel_rfl) (by kernel_rfl) (fun _ _ _ h=>h) (Or.inl ⟨by rfl,?_⟩) (by assumption) ?_
  rotate_left
  ·intro w hSw;(try dsimp only at hSw);first|(go_simp;done)|(go_simp;with_reducible rfl)
  simp[Act.put]
  refine wpAnyH_take (i:=9) (v:=?_) rfl (by kernel_rfl) (by kernel_rfl) (by kernel_rfl) (fun _ _ _ h=>h) (Or.inl ⟨by rfl,?_⟩) (by assumption) ?_
  rotate_left
  ·intro w hSw;(try dsimp only at hSw);first|(go_simp;done)|(go_simp;with_reducible rfl)
  simp[Act.put]
  refine wpAnyH_ready (rs:=[5]) (by kernel_rfl) (by simp) ?_
  refine AllReadyH.cons rfl (fun KX hK=>?_) AllReadyH.nil
  go_simp
  refine hK.out _ _ ?_ (fun hHeld=>?_)
  ·(try dsimp only)
   first|go_keep|assumption
  clear hK KX
  try simp[Act.put]
  refine wpAnyH_ready (rs:=[10]) (by kernel_rfl) (by simp) ?_
  refine AllReadyH.cons rfl (fun KX hK=>?_) AllReadyH.nil
  go_simp
  refine Calls.mono (DFH.out _ (HI2.out.nds.below (Below.refl _ _).drew)) ?_
  rintro e w5 ⟨a', c', rfl,hb5,hst⟩
  have hb5' : Below W2.heap.size W2 w5:=(Below.refl W2.heap.size W2).drew.trans hb5
  have u0:=keepC l1 hb5'
  have u1:=keepC m2 hb5'
  have u2:=keepC m4 hb5'
  have u3:=keepC n0 hb5'
  have u4:=keepC n1 hb5'
  have v0:=keepC l0 hb5'
  have vr:w5.heap[w.heap.size]?=_:=keepB HI2.out.r hb5'
  have w01:=keepC ho1 hb5'
  have w02:=keepC ho2 hb5'
  have s5:W2.heap.size≤w5.heap.size:=hb5'.size
  have s50:w.heap.size<w5.heap.size:=by omega
  have s5g:g<w5.heap.size:=by omega
  have f5:∀ o,w5.frozen? ⟨w.heap.size,o,none⟩=false:=fun o=>(hb5'.frozen (show (⟨w.heap.size,o,none⟩:Addr).block<W2.heap.size from ll)).trans (fl o)
  have g5:∀ o,w5.frozen? ⟨g,o,none⟩=false:=fun o=>(hb5'.frozen (show (⟨g,o,none⟩:Addr).block<W2.heap.size from hg4)).trans (gfz o)
  have HR5:Hid (DoesR w R ⟨7,(p:Int),(q:Int),xs,xn⟩ 0 E (((w5.setCell ⟨w.heap.size,0,none⟩ (.slice a' (rS E TT).length c')).setCell ⟨g,q*2,none⟩ (.int .i64 (rH E hv).1)).setCell ⟨g,q*2+1,none⟩ (.int .i64 (rH E hv).2))):=(HI2.out.below hb5').hnd H16.out HCI.out hq (n0:=W2.heap.size) ⟨hg4,ll⟩ hst HDG.out
  clear hb5 hb5' hst HDG
  generalize (rS E TT).length=tl at *
  generalize (rH E hv).1=hv1 at *
  generalize (rH E hv).2=hv2 at *
  go_wp2_with fail
  refine hK.out _ _ ?_ (fun hHeld=>?_)
  ·(try dsimp only)
   exact⟨u0,u1,u2,u3,u4⟩
  clear hK KX
  try simp[Act.put]
  refine wpAnyH_take (i:=11) (v:=?_) rfl (by kernel_rfl) (by kernel_rfl) (by kernel_rfl) (fun _ _ _ h=>h) (Or.inl ⟨by rfl,?_⟩) (by assumption) ?_
  rotate_left
  ·intro w hSw;(try dsimp only at hSw);first|(go_simp;done)|(go_simp;with_reducible rfl)
  simp[Act.put]
  refine wpAnyH_take (i:=12) (v:=?_) rfl (by kernel_rfl) (by kernel_rfl) (by kernel_rfl) (fun _ _ _ h=>h) (Or.inl ⟨by rfl,?_⟩) (by assumption) ?_
  rotate_left
  ·intro w hSw;(try dsimp only at hSw);first|(go_simp;done)|(go_simp;with_reducible rfl)
  simp[Act.put]
  refine wpAnyH_take (i:=13) (v:=?_) rfl (by kernel_rfl) (by kernel_rfl) (by kernel_rfl) (fun _ _ _ h=>h) (Or.inl ⟨by rfl,?_⟩) (by assumption) ?_
  rotate_left
  ·intro w hSw;(try dsimp only at hSw);first|(go_simp;done)|(go_simp;with_reducible rfl)
  simp[Act.put]
  refine wpAnyH_take (i:=14) (v:=?_) rfl (by kernel_rfl) (by kernel_rfl) (by kernel_rfl) (fun _ _ _ h=>h) (Or.inl ⟨by rfl,?_⟩) (by assumption) ?_
  rotate_left
  ·intro w hSw;(try dsimp only at hSw);first|(go_simp;done)|(go_simp;with_reducible rfl)
  simp[Act.put]
  refine wpAnyH_take (i:=15) (v:=?_) rfl (by kernel_rfl) (by kernel_rfl) (by kernel_rfl) (fun _ _ _ h=>h) (Or.inl ⟨by rfl,?_⟩) (by assumption) ?_
  rotate_left
  ·intro w hSw;(try dsimp only at hSw);first|(go_simp;done)|(go_simp;with_reducible rfl)
  simp[Act.put]
  refine wpAnyH_ready (rs:=[16]) (by kernel_rfl) (by simp) ?_
  refine AllReadyH.cons rfl (fun KX hK=>?_) AllReadyH.nil
  go_simp
  refine hK.out _ _ ?_ (fun hHeld=>?_)
  ·(try dsimp only)
   exact⟨(zaa (zck vr)).2.1,zai (by omega) u1,zai (by omega) u2,zai (by omega) u3,zai (by omega) u4⟩
  clear hK KX
  try simp[Act.put]
  refine wpAnyH_take (i:=17) (v:=?_) rfl (by kernel_rfl) (by kernel_rfl) (by kernel_rfl) (fun _ _ _ h=>h) (Or.inl ⟨by rfl,?_⟩) (by assumption) ?_
  rotate_left
  ·intro w hSw;(try dsimp only at hSw);first|(go_simp;done)|(go_simp;with_reducible rfl)
  simp[Act.put]
  refine wpAnyH_ready (rs:=[18]) (by kernel_rfl) (by simp) ?_
  refine AllReadyH.cons rfl (fun KX hK=>?_) AllReadyH.nil
  go_simp
  refine hK.out _ _ ?_ (fun hHeld=>?_)
  ·(try dsimp only)
   exact⟨zai (by omega) (zai (by omega) ((zaa (zck vr)).2.1)),zai (by omega) (zai (by omega) (zai (by omega) u1)),zai (by omega) (zai (by omega) (zai (by omega) u2)),zai (by omega) (zai (by omega) (zai (by omega) u3)),zai (by omega) (zai (by omega) (zai (by omega) u4))⟩
  clear hK KX
  try simp[Act.put]
  refine wpAnyH_take (i:=19) (v:=?_) rfl (by kernel_rfl) (by kernel_rfl) (by kernel_rfl) (fun _ _ _ h=>h) (Or.inl ⟨by rfl,?_⟩) (by assumption) ?_
  rotate_left
  ·intro w hSw;(try dsimp only at hSw);first|(go_simp;done)|(go_simp;with_reducible rfl)
  simp[Act.put]
  refine wpAnyH_done (by kernel_rfl) ?_ _
  refine NoPanic.normal ?_
  clear l0 l1 l2 l3 fl ll m0 m1 m2 m3 m4 lm z0 z1 z2 z3 fz lz n0 n1 ln v0 vr w01 w02 f5 g5 ho1 ho2 gfz
  go_wp2_with fail
  go_meet
  case rel=>exact⟨0,E,rfl,rfl,HR5⟩
 case rest =>
 obtain⟨o,E,rfl,rfl,HR⟩:=hcut
 obtain⟨W9,rfl⟩:∃ W,W=wc:=⟨_,rfl⟩
 clear HI l0 l1 l2 l3 fl ll m0 m1 m2 m3 m4 lm z0 z1 z2 z3 fz lz q1 q2
 by_cases hE:E=0
 ·obtain⟨b0,b1,b2,b3,d0,d1,d2,d3,Q,hd,hbx,hr⟩:=HR.out.ok hE
  subst hE
  have HD9:Hid _:=hd
  have HB9:Hid _:=HR.out.bel
  have HR9:Hid _:=hr
  have l0:W9.cell? ⟨w.heap.size,0,none⟩=some (.slice b0 Q.s.length d0):=(zaa hbx).1
  have l1:W9.cell? ⟨w.heap.size,1,none⟩=some (.slice b1 Q.hs.length d1):=(zaa hbx).2.1
  have l2:W9.cell? ⟨w.heap.size,2,none⟩=some (.slice b2 Q.i.length d2):=(zaa hbx).2.2.1
  have l3:W9.cell? ⟨w.heap.size,3,none⟩=some (.slice b3 Q.t.length d3):=(zaa hbx).2.2.2.1
  have ll:=zaz hbx
  have BZ:=HR.out.z
  obtain⟨z0,z1,z2,z3,fz,lz⟩:=zaa BZ
  clear hd hr hbx HR
  go_wp2_with fail
  obtain⟨W8,hW8⟩:∃ W8,W8=((((W9.setCell ⟨w.heap.size+1+1,0,none⟩ (.slice b0 Q.s.length d0)).setCell ⟨w.heap.size+1+1,1,none⟩ (.slice b1 Q.hs.length d1)).setCell ⟨w.heap.size+1+1,2,none⟩ (.slice b2 Q.i.length d2)).setCell ⟨w.heap.size+1+1,3,none⟩ (.slice b3 Q.t.length d3)):=⟨_,rfl⟩
  rw[← hW8]
  obtain⟨BZ8,HB8,HR8⟩:=zaT BZ HB9.out HR9.out hW8
  clear z0 z1 z2 z3 fz lz l0 l1 l2 l3 ll hW8
  obtain⟨z0,z1,z2,z3,fz,lz⟩:=zaa BZ8
  exact bodyPost_ret (v:=.tuple #[.agg #[.slice b0 Q.s.length d0,.slice b1 Q.hs.length d1,.slice b2 Q.i.length d2,.slice b3 Q.t.length d3],.int .i64 o,.int .i64 0]) (by simp[results,Tryz.results12,go_sem,z0,z1,z2,z3]) rfl ⟨⟨b0,b1,b2,b3,d0,d1,d2,d3⟩,by rw[HD9.out],HB8,by rw[HD9.out];exact HR8⟩
 ·have y1:decide (E=0)=false:=decide_eq_false hE
  have y2:(E == 0)=false:=beq_eq_false_iff_ne.2 hE
  have y3:(E != 0)=true:=by simp[hE]
  have HBD:Hid (doG R ⟨7,(p:Int),(q:Int),xs,xn⟩=bad E):=HR.out.bad hE
  have HBX:Hid (Below w.heap.size w W9):=HR.out.bel
  have BZX:Hid (W9.heap[w.heap.size+1+1]?=some (.cells #[.slice none 0 0,.slice none 0 0,.slice none 0 0,.slice none 0 0] 31 (0,0))):=HR.out.z
  clear HR
  go_wp2_with fail
  refine Calls.mono (zba E _) ?_
  rintro e w8 ⟨rfl,hb⟩
  have HB8:Hid (Below w.heap.size w w8):=HBX.out.trans (hb.mono HBX.out.size)
  have BZ8:=keepB BZX.out hb
  clear hb
  obtain⟨z0,z1,z2,z3,fz,lz⟩:=zaa BZ8
  go_wp2_with fail
  obtain⟨W7,hW7⟩:∃ W7,W7=((((w8.setCell ⟨w.heap.size+1+1,0,none⟩ (.slice none 0 0)).setCell ⟨w.heap.size+1+1,1,none⟩ (.slice none 0 0)).setCell ⟨w.heap.size+1+1,2,none⟩ (.slice none 0 0)).setCell ⟨w.heap.size+1+1,3,none⟩ (.slice none 0 0)):=⟨_,rfl⟩
  rw[← hW7]
  obtain⟨BZ7,HB7,_⟩:=zaT (Q:=zaR) (b0:=none) (b1:=none) (b2:=none) (b3:=none) (d0:=0) (d1:=0) (d2:=0) (d3:=0) BZ8 HB8.out (zaI _ _) hW7
  clear z0 z1 z2 z3 fz lz hW7
  have BZ6:W7.heap[w.heap.size+1+1]?=some (.cells #[.slice none 0 0,.slice none 0 0,.slice none 0 0,.slice none 0 0] 31 (0,0)):=BZ7
  obtain⟨z0,z1,z2,z3,fz,lz⟩:=zaa BZ6
  exact bodyPost_ret (v:=.tuple #[.agg #[.slice none 0 0,.slice none 0 0,.slice none 0 0,.slice none 0 0],.int .i64 0,.int .i64 E]) (by simp[results,Tryz.results12,go_sem,z0,z1,z2,z3]) rfl ⟨⟨none,none,none,none,0,0,0,0⟩,by rw[HBD.out];rfl,HB7,by rw[HBD.out];exact zaI _ _⟩
end Go.Proofs.YtojlkdekdbdpoaaGreat
