/-
  x
-/
import Derived.Test.YtgjfmepbphfjoaaGreatQ34
import Derived.Deep.CutBlock
namespace Go.Proofs.YtgjfmepbphfjoaaGreat
set_option maxRecDepth 100000
set_option maxHeartbeats 4000000
set_option linter.unusedVariables false
open Go.RowKit
theorem zqC(hC:zbW)(a0 a1 a2 a3:Option Addr)(c0 c1 c2 c3:Nat)(R:Rl)(p q:Nat)(xs M h1 h2:Int)(w:World)(hR:zaB R=0)(hL:zaS w ⟨a0,a1,a2,a3,c0,c1,c2,c3⟩ R)(hp:p<16)(hq:q<16)(hh:R.hs.getD p (0,0)=(h1,h2)) :
  Calls Tryz.prog 16 #[.agg #[.slice a0 R.s.length c0,.slice a1 R.hs.length c1,.slice a2 R.i.length c2,.slice a3 R.t.length c3],.agg #[.int .i64 7,.int .i64 (p:Int),.int .i64 (q:Int),.int .i64 xs,.int .i64 M]] w (zfV R ⟨7,p,(q:Int),xs,M⟩ w):=by
 have f9:Hid (hd R (p:Int)=(h1,h2)):=zfD hh;have HA:Hid (isH (p:Int)):=⟨by omega,by omega⟩;have f0:Hid (isH (q:Int)):=⟨by omega,by omega⟩;obtain⟨wf,c8,g4,ht⟩:=zax hR;have DI:Hid (∀ W,_):=fun W=>zct (p:Int) W (by omega);have e9:Hid (∀ W,_):=fun W=>zct (q:Int) W (by omega);have h6:(q:Int)<16:=by omega
 have DW:Hid (∀ W,zaS W ⟨a0,a1,a2,a3,c0,c1,c2,c3⟩ R->_):=fun W hW=>zcd a0 a1 a2 a3 c0 c1 c2 c3 R W hR hW;have HL:Hid (zaS w ⟨a0,a1,a2,a3,c0,c1,c2,c3⟩ R):=hL;have f8:Hid (zaY w a2 R.i):=hL.2.2.1;have a6:Hid (R.hs.length=16):=c8;have g3:Hid (WF R.s):=wf;have HD:Hid (R.hs.getD p (0,0)=(h1,h2)):=hh;have h5:(p:Int)<16:=by omega
 clear hL hR g4 hh c8 wf
 go_enter Tryz.func16,Tryz.ntmps16
 go_wp2_with fail
 refine yf (DI.out _) ?_;rintro e w' ⟨rfl,hw⟩;have b5:=hw.symm;clear hw;subst b5
 go_wp2_with fail
 refine yf (e9.out _) ?_;rintro e w' ⟨rfl,hw⟩;have b5:=hw.symm;clear hw;subst b5;have c6:Hid (Below w.heap.size w (((w.alloc (.cells #[.slice a0 R.s.length c0,.slice a1 R.hs.length c1,.slice a2 R.i.length c2,.slice a3 R.t.length c3] 31)).alloc (.cells #[.int .i64 7,.int .i64 (p:Int),.int .i64 (q:Int),.int .i64 xs,.int .i64 M] 41)).alloc (.cells #[.slice none 0 0,.slice none 0 0,.slice none 0 0,.slice none 0 0] 31))):=(zai w _ _).trans ((zab _ _).mono (by first|(simp;done)|(simp;omega)))
 go_wp2_with fail
 refine yf (DW.out _ (HL.out.below c6.out)) ?_;rintro e w1 ⟨v0,K,v1,v3,rfl,hb,hO,hH,hT⟩;obtain⟨s0,k0,rfl,_⟩:=hO.nds
 obtain⟨g,k1,rfl⟩:∃ g k1,v1=.slice (some ⟨g,0,none⟩) 16 k1:=by
  rcases hH.2 with ⟨rfl,h0⟩ |⟨g,cap,g8,rfl,_⟩
  ·omega
  ·exact⟨g,cap,rfl⟩
 obtain⟨t0,k3,rfl,_⟩:=zdV hT;simp only[yk] at hO hH hT;obtain⟨c9,q1,q2,g9,h3,br,bx,bz⟩:=zbP HL.out a6.out HD.out hp hb hO hH hT;have HI:Hid (zbx w w1.heap.size R 7 (p:Int) (q:Int) xs M h1 h2 s0 k0 K g k1 a2 c2 t0 k3 (((((w1.setCell ⟨w.heap.size,0,none⟩ (.slice s0 R.s.length k0)).setCell ⟨w.heap.size,1,none⟩ (.slice (some ⟨g,0,none⟩) 16 k1)).setCell ⟨w.heap.size,2,none⟩ (.slice a2 R.i.length c2)).setCell ⟨w.heap.size,3,none⟩ (.slice t0 R.t.length k3)).alloc (.cells #[.int .i64 h1,.int .i64 h2] 39))):=c9;obtain⟨l0,l1,l2,l3,fl,ll⟩:=zaa br;obtain⟨m0,m1,m2,m3,m4,lm⟩:=zaN bx;obtain⟨O,T,U,Z,fz,lz⟩:=zaa bz;clear hb hO hH hT bx bz br c9 DW DI c6 HL
 go_upto_block 0 with fail
 go_cut [10,11] (fun s10 s11 wx=>∃ o E:Int,s10=.int .i64 o/\s11=.int .i64 E/\Hid (zcn w R ⟨7,(p:Int),(q:Int),xs,M⟩ o E wx))
 case first =>
  have b9:Hid (doG R ⟨7,(p:Int),(q:Int),xs,M⟩=ans (zkb R.s h1 h2) ⟨zpV R.s h1 (decide (M=1)),R.hs.set q (mkH R.s),R.i,R.t⟩ 0):=by show doG _ _=_;unfold doG;dsimp only;rw[yd HA.out,ya (by decide),ya (by decide),ya (by decide),ya (by decide),ya (by decide),ya (by decide),ya (by decide),ya (by decide),yd (by decide),yd f0.out,yd rfl,f9.out];rfl
  have e8:Hid (∀ V hV,_):=fun V hV=>(zpc hC R.s (h1,h2) (decide (M=1)) g3.out) s0 k0 V hV;generalize zkb R.s h1 h2=E at *;generalize zpV R.s h1 (decide (M=1))=TT at *;generalize mkH R.s=hv at *
  go_wp2_with fail
  obtain⟨I,a7⟩:∃ I,(((((w1.setCell ⟨w.heap.size,0,none⟩ (.slice s0 R.s.length k0)).setCell ⟨w.heap.size,1,none⟩ (.slice (some ⟨g,0,none⟩) 16 k1)).setCell ⟨w.heap.size,2,none⟩ (.slice a2 R.i.length c2)).setCell ⟨w.heap.size,3,none⟩ (.slice t0 R.t.length k3)).alloc (.cells #[.int .i64 h1,.int .i64 h2] 39))=I:=⟨_,rfl⟩;rw[a7] at HI;have F:Hid (zbx w w1.heap.size R 7 (p:Int) (q:Int) xs M h1 h2 s0 k0 K g k1 a2 c2 t0 k3 I):=HI;have h7:w1.heap.size<I.heap.size:=by rw[<- a7];simp
  clear HI;clear l0 l1 l2 l3 fl ll m0 m1 m2 m3 m4 lm O T U Z fz lz q1 q2;obtain⟨l0,l1,l2,l3,fl,ll⟩:=zaa F.out.r;obtain⟨m0,m1,m2,m3,m4,lm⟩:=zaN F.out.x;obtain⟨O,T,U,Z,fz,lz⟩:=zaa F.out.z;obtain⟨n0,n1,ln⟩:=zbg F.out.a;have c7:∀ o,I.frozen? ⟨g,o,none⟩=false:=F.out.hs.frozenAt;have d7:g<I.heap.size:=(F.out.hs.lt g rfl).2;have h4:w.heap.size+5<=g:=(F.out.hs.lt g rfl).1;have i0:¬ w.heap.size=g:=by omega
  have i1:¬ w.heap.size+1=g:=by omega
  have i2:¬ g=w.heap.size:=by omega
  have i3:¬ g=w.heap.size+1:=by omega
  have i4:¬ g=w.heap.size+1+1:=by omega
  have i5:¬ w.heap.size+1+1=g:=by omega
  rw[a7];clear a7
  obtain⟨o1,d8⟩:∃ v,I.cell? ⟨g,q*2,none⟩=some v:=by
   obtain⟨y,_⟩:=zbt R.hs q (by rw[a6.out];exact hq);have:=F.out.hs.cells (g:=g) rfl _ _ y;rw[Addr.add_lit,yv] at this;exact⟨_,this⟩
  obtain⟨o2,d9⟩:∃ v,I.cell? ⟨g,q*2+1,none⟩=some v:=by
   obtain⟨_,y⟩:=zbt R.hs q (by rw[a6.out];exact hq);have:=F.out.hs.cells (g:=g) rfl _ _ y;rw[Addr.add_lit,yv] at this;exact⟨_,this⟩
  refine wp_region_noPanic ?_;refine wp_region_held_drew (S:=fun a4=>a4.cell? ⟨w.heap.size,1,none⟩=some (.slice (some ⟨g,0,none⟩) 16 k1)/\a4.cell? ⟨w.heap.size+1,2,none⟩=some (.int .i64 (q:Int))/\a4.cell? ⟨w.heap.size+1,4,none⟩=some (.int .i64 M)/\a4.cell? ⟨w1.heap.size,0,none⟩=some (.int .i64 h1)/\a4.cell? ⟨w1.heap.size,1,none⟩=some (.int .i64 h2)) (by kernel_rfl) (by(try dsimp only);go_keep) (fun hHeld=>?_);refine wpAnyH_take (i:=0) (v:=?_) rfl (by kernel_rfl) (by kernel_rfl) (by kernel_rfl) (fun _ _ _ h=>h) (Or.inl ⟨by rfl,?_⟩) (by assumption) ?_;rotate_left
  ·intro w A;(try dsimp only at A);first|(go_simp;done)|(go_simp;with_reducible rfl)
  simp[Act.put];refine wpAnyH_take (i:=1) (v:=?_) rfl (by kernel_rfl) (by kernel_rfl) (by kernel_rfl) (fun _ _ _ h=>h) (Or.inl ⟨by rfl,?_⟩) (by assumption) ?_;rotate_left
  ·intro w A;(try dsimp only at A);first|(go_simp;done)|(go_simp;with_reducible rfl)
  simp[Act.put];refine wpAnyH_take (i:=2) (v:=?_) rfl (by kernel_rfl) (by kernel_rfl) (by kernel_rfl) (fun _ _ _ h=>h) (Or.inl ⟨by rfl,?_⟩) (by assumption) ?_;rotate_left
  ·intro w A;(try dsimp only at A);first|(go_simp;done)|(go_simp;with_reducible rfl)
  simp[Act.put];refine wpAnyH_take (i:=3) (v:=?_) rfl (by kernel_rfl) (by kernel_rfl) (by kernel_rfl) (fun _ _ _ h=>h) (Or.inl ⟨by rfl,?_⟩) (by assumption) ?_;rotate_left
  ·intro w A;(try dsimp only at A);first|(go_simp;done)|(go_simp;with_reducible rfl)
  simp[Act.put];refine wpAnyH_take (i:=4) (v:=?_) rfl (by kernel_rfl) (by kernel_rfl) (by kernel_rfl) (fun _ _ _ h=>h) (Or.inl ⟨by rfl,?_⟩) (by assumption) ?_;rotate_left
  ·intro w A;(try dsimp only at A);first|(go_simp;done)|(go_simp;with_reducible rfl)
  simp[Act.put];refine wpAnyH_take (i:=6) (v:=?_) rfl (by kernel_rfl) (by kernel_rfl) (by kernel_rfl) (fun _ _ _ h=>h) (Or.inl ⟨by rfl,?_⟩) (by assumption) ?_;rotate_left
  ·intro w A;(try dsimp only at A);first|(go_simp;done)|(go_simp;with_reducible rfl)
  simp[Act.put];refine wpAnyH_take (i:=7) (v:=?_) rfl (by kernel_rfl) (by kernel_rfl) (by kernel_rfl) (fun _ _ _ h=>h) (Or.inl ⟨by rfl,?_⟩) (by assumption) ?_;rotate_left
  ·intro w A;(try dsimp only at A);first|(go_simp;done)|(go_simp;with_reducible rfl)
  simp[Act.put];refine wpAnyH_take (i:=8) (v:=?_) rfl (by kernel_rfl) (by kernel_rfl) (by kernel_rfl) (fun _ _ _ h=>h) (Or.inl ⟨by rfl,?_⟩) (by assumption) ?_;rotate_left
  ·intro w A;(try dsimp only at A);first|(go_simp;done)|(go_simp;with_reducible rfl)
  simp[Act.put];refine wpAnyH_take (i:=9) (v:=?_) rfl (by kernel_rfl) (by kernel_rfl) (by kernel_rfl) (fun _ _ _ h=>h) (Or.inl ⟨by rfl,?_⟩) (by assumption) ?_;rotate_left
  ·intro w A;(try dsimp only at A);first|(go_simp;done)|(go_simp;with_reducible rfl)
  simp[Act.put];refine wpAnyH_ready (rs:=[5]) (by kernel_rfl) (by simp) ?_;refine AllReadyH.cons rfl (fun KX hK=>?_) AllReadyH.nil;go_simp;refine hK.out _ _ ?_ (fun hHeld=>?_)
  ·(try dsimp only)
   first|go_keep|assumption
  clear hK KX
  try simp[Act.put]
  refine wpAnyH_ready (rs:=[10]) (by kernel_rfl) (by simp) ?_;refine AllReadyH.cons rfl (fun KX hK=>?_) AllReadyH.nil;go_simp;refine yf (e8.out _ (F.out.nds.below (yj _ _).drew)) ?_;rintro e w5 ⟨a', c', rfl,d6,hst⟩;have D:Below I.heap.size I w5:=(yj I.heap.size I).drew.trans d6;have u0:=zac l1 D;have u1:=zac m2 D;have u2:=zac m4 D;have u3:=zac n0 D;have u4:=zac n1 D;have v0:=zac l0 D;have vr:w5.heap[w.heap.size]?=_:=zaU F.out.r D;have g6:=zac d8 D;have g7:=zac d9 D;have s5:I.heap.size<=w5.heap.size:=D.size;have s50:w.heap.size<w5.heap.size:=by omega
  have i6:g<w5.heap.size:=by omega
  have f5:∀ o,w5.frozen? ⟨w.heap.size,o,none⟩=false:=fun o=>(D.frozen (show (⟨w.heap.size,o,none⟩:Addr).block<I.heap.size from ll)).trans (fl o);have g5:∀ o,w5.frozen? ⟨g,o,none⟩=false:=fun o=>(D.frozen (show (⟨g,o,none⟩:Addr).block<I.heap.size from d7)).trans (c7 o);have g0:Hid (zcn w R ⟨7,(p:Int),(q:Int),xs,M⟩ 0 E (((w5.setCell ⟨w.heap.size,0,none⟩ (.slice a' (rS E TT).length c')).setCell ⟨g,q*2,none⟩ (.int .i64 (rH E hv).1)).setCell ⟨g,q*2+1,none⟩ (.int .i64 (rH E hv).2))):=(F.out.below D).hnd a6.out f8.out hq (n0:=I.heap.size) ⟨d7,ll⟩ hst b9.out;clear d6 D hst b9;generalize (rS E TT).length=tl at *;generalize (rH E hv).1=h8 at *;generalize (rH E hv).2=h9 at *
  go_wp2_with fail
  refine hK.out _ _ ?_ (fun hHeld=>?_)
  ·(try dsimp only)
   exact⟨u0,u1,u2,u3,u4⟩
  clear hK KX
  try simp[Act.put]
  refine wpAnyH_take (i:=11) (v:=?_) rfl (by kernel_rfl) (by kernel_rfl) (by kernel_rfl) (fun _ _ _ h=>h) (Or.inl ⟨by rfl,?_⟩) (by assumption) ?_;rotate_left
  ·intro w A;(try dsimp only at A);first|(go_simp;done)|(go_simp;with_reducible rfl)
  simp[Act.put];refine wpAnyH_take (i:=12) (v:=?_) rfl (by kernel_rfl) (by kernel_rfl) (by kernel_rfl) (fun _ _ _ h=>h) (Or.inl ⟨by rfl,?_⟩) (by assumption) ?_;rotate_left
  ·intro w A;(try dsimp only at A);first|(go_simp;done)|(go_simp;with_reducible rfl)
  simp[Act.put];refine wpAnyH_take (i:=13) (v:=?_) rfl (by kernel_rfl) (by kernel_rfl) (by kernel_rfl) (fun _ _ _ h=>h) (Or.inl ⟨by rfl,?_⟩) (by assumption) ?_;rotate_left
  ·intro w A;(try dsimp only at A);first|(go_simp;done)|(go_simp;with_reducible rfl)
  simp[Act.put];refine wpAnyH_take (i:=14) (v:=?_) rfl (by kernel_rfl) (by kernel_rfl) (by kernel_rfl) (fun _ _ _ h=>h) (Or.inl ⟨by rfl,?_⟩) (by assumption) ?_;rotate_left
  ·intro w A;(try dsimp only at A);first|(go_simp;done)|(go_simp;with_reducible rfl)
  simp[Act.put];refine wpAnyH_take (i:=15) (v:=?_) rfl (by kernel_rfl) (by kernel_rfl) (by kernel_rfl) (fun _ _ _ h=>h) (Or.inl ⟨by rfl,?_⟩) (by assumption) ?_;rotate_left
  ·intro w A;(try dsimp only at A);first|(go_simp;done)|(go_simp;with_reducible rfl)
  simp[Act.put];refine wpAnyH_ready (rs:=[16]) (by kernel_rfl) (by simp) ?_;refine AllReadyH.cons rfl (fun KX hK=>?_) AllReadyH.nil;go_simp;refine hK.out _ _ ?_ (fun hHeld=>?_)
  ·(try dsimp only)
   exact⟨(zaa (zcD vr)).2.1,zak (by omega) u1,zak (by omega) u2,zak (by omega) u3,zak (by omega) u4⟩
  clear hK KX
  try simp[Act.put]
  refine wpAnyH_take (i:=17) (v:=?_) rfl (by kernel_rfl) (by kernel_rfl) (by kernel_rfl) (fun _ _ _ h=>h) (Or.inl ⟨by rfl,?_⟩) (by assumption) ?_;rotate_left
  ·intro w A;(try dsimp only at A);first|(go_simp;done)|(go_simp;with_reducible rfl)
  simp[Act.put];refine wpAnyH_ready (rs:=[18]) (by kernel_rfl) (by simp) ?_;refine AllReadyH.cons rfl (fun KX hK=>?_) AllReadyH.nil;go_simp;refine hK.out _ _ ?_ (fun hHeld=>?_)
  ·(try dsimp only)
   exact⟨zak (by omega) (zak (by omega) ((zaa (zcD vr)).2.1)),zak (by omega) (zak (by omega) (zak (by omega) u1)),zak (by omega) (zak (by omega) (zak (by omega) u2)),zak (by omega) (zak (by omega) (zak (by omega) u3)),zak (by omega) (zak (by omega) (zak (by omega) u4))⟩
  clear hK KX
  try simp[Act.put]
  refine wpAnyH_take (i:=19) (v:=?_) rfl (by kernel_rfl) (by kernel_rfl) (by kernel_rfl) (fun _ _ _ h=>h) (Or.inl ⟨by rfl,?_⟩) (by assumption) ?_;rotate_left
  ·intro w A;(try dsimp only at A);first|(go_simp;done)|(go_simp;with_reducible rfl)
  simp[Act.put];refine wpAnyH_done (by kernel_rfl) ?_ _;refine NoPanic.normal ?_;clear l0 l1 l2 l3 fl ll m0 m1 m2 m3 m4 lm O T U Z fz lz n0 n1 ln v0 vr g6 g7 f5 g5 d8 d9 c7
  go_wp2_with fail
  go_meet
  case rel=>exact⟨0,E,rfl,rfl,g0⟩
 case rest =>
 obtain⟨o,E,rfl,rfl,HR⟩:=hcut;obtain⟨W9,rfl⟩:∃ W,W=wc:=⟨_,rfl⟩;clear HI l0 l1 l2 l3 fl ll m0 m1 m2 m3 m4 lm O T U Z fz lz q1 q2;by_cases hE:E=0
 ·obtain⟨b0,b1,b2,b3,d0,d1,d2,d3,Q,hd,J,hr⟩:=HR.out.ok hE;subst hE;have b8:Hid _:=hd;have f7:Hid _:=HR.out.bel;have g2:Hid _:=hr;have l0:W9.cell? ⟨w.heap.size,0,none⟩=some (.slice b0 Q.s.length d0):=(zaa J).1;have l1:W9.cell? ⟨w.heap.size,1,none⟩=some (.slice b1 Q.hs.length d1):=(zaa J).2.1;have l2:W9.cell? ⟨w.heap.size,2,none⟩=some (.slice b2 Q.i.length d2):=(zaa J).2.2.1;have l3:W9.cell? ⟨w.heap.size,3,none⟩=some (.slice b3 Q.t.length d3):=(zaa J).2.2.2.1;have ll:=zaC J;have BZ:=HR.out.z;obtain⟨O,T,U,Z,fz,lz⟩:=zaa BZ;clear hd hr J HR
  go_wp2_with fail
  obtain⟨W8,b4⟩:∃ W8,W8=((((W9.setCell ⟨w.heap.size+1+1,0,none⟩ (.slice b0 Q.s.length d0)).setCell ⟨w.heap.size+1+1,1,none⟩ (.slice b1 Q.hs.length d1)).setCell ⟨w.heap.size+1+1,2,none⟩ (.slice b2 Q.i.length d2)).setCell ⟨w.heap.size+1+1,3,none⟩ (.slice b3 Q.t.length d3)):=⟨_,rfl⟩;rw[<- b4];obtain⟨a5,a8,g1⟩:=zbb BZ f7.out g2.out b4;clear O T U Z fz lz l0 l1 l2 l3 ll b4;obtain⟨O,T,U,Z,fz,lz⟩:=zaa a5;exact yq (v:=.tuple #[.agg #[.slice b0 Q.s.length d0,.slice b1 Q.hs.length d1,.slice b2 Q.i.length d2,.slice b3 Q.t.length d3],.int .i64 o,.int .i64 0]) (by simp[results,Tryz.results16,go_sem,O,T,U,Z]) rfl ⟨⟨b0,b1,b2,b3,d0,d1,d2,d3⟩,by rw[b8.out],a8,by rw[b8.out];exact g1⟩
 ·have y1:decide (E=0)=false:=decide_eq_false hE;have y2:(E == 0)=false:=beq_eq_false_iff_ne.2 hE;have y3:(E != 0)=true:=by simp[hE]
  have b6:Hid (doG R ⟨7,(p:Int),(q:Int),xs,M⟩=bad E):=HR.out.bad hE;have b7:Hid (Below w.heap.size w W9):=HR.out.bel;have e7:Hid (W9.heap[w.heap.size+1+1]?=some (.cells #[.slice none 0 0,.slice none 0 0,.slice none 0 0,.slice none 0 0] 31 (0,0))):=HR.out.z;clear HR
  go_wp2_with fail
  refine yf (zbk E _) ?_;rintro e w8 ⟨rfl,hb⟩;have a8:Hid (Below w.heap.size w w8):=b7.out.trans (hb.mono b7.out.size);have a5:=zaU e7.out hb;clear hb;obtain⟨O,T,U,Z,fz,lz⟩:=zaa a5
  go_wp2_with fail
  obtain⟨W7,a9⟩:∃ W7,W7=((((w8.setCell ⟨w.heap.size+1+1,0,none⟩ (.slice none 0 0)).setCell ⟨w.heap.size+1+1,1,none⟩ (.slice none 0 0)).setCell ⟨w.heap.size+1+1,2,none⟩ (.slice none 0 0)).setCell ⟨w.heap.size+1+1,3,none⟩ (.slice none 0 0)):=⟨_,rfl⟩;rw[<- a9];obtain⟨e6,f6,_⟩:=zbb (Q:=zaW) (b0:=none) (b1:=none) (b2:=none) (b3:=none) (d0:=0) (d1:=0) (d2:=0) (d3:=0) a5 a8.out (zaO _ _) a9;clear O T U Z fz lz a9;have e0:W7.heap[w.heap.size+1+1]?=some (.cells #[.slice none 0 0,.slice none 0 0,.slice none 0 0,.slice none 0 0] 31 (0,0)):=e6;obtain⟨O,T,U,Z,fz,lz⟩:=zaa e0;exact yq (v:=.tuple #[.agg #[.slice none 0 0,.slice none 0 0,.slice none 0 0,.slice none 0 0],.int .i64 0,.int .i64 E]) (by simp[results,Tryz.results16,go_sem,O,T,U,Z]) rfl ⟨⟨none,none,none,none,0,0,0,0⟩,by rw[b6.out];rfl,f6,by rw[b6.out];exact zaO _ _⟩
theorem zqE(hC:zbW)(a0 a1 a2 a3:Option Addr)(c0 c1 c2 c3:Nat)(R:Rl)(p q:Nat)(O xn h1 h2:Int)(w:World)(hR:zaB R=0)(hL:zaS w ⟨a0,a1,a2,a3,c0,c1,c2,c3⟩ R)(hp:p<16)(hq:q<16)(hh:R.hs.getD p (0,0)=(h1,h2))(j1 j2:Int)(b4:R.hs.getD q (0,0)=(j1,j2))(g3:O<0) :
  Calls Tryz.prog 16 #[.agg #[.slice a0 R.s.length c0,.slice a1 R.hs.length c1,.slice a2 R.i.length c2,.slice a3 R.t.length c3],.agg #[.int .i64 3,.int .i64 (p:Int),.int .i64 (q:Int),.int .i64 O,.int .i64 xn]] w (zfV R ⟨3,p,(q:Int),O,xn⟩ w):=by
 have g6:decide ((15:Int)<O)=false:=decide_eq_false (by omega);have g5:decide ((0:Int)<=O)=false:=decide_eq_false (by omega);have f6:Hid (hd R (q:Int)=(j1,j2)):=zfD b4;have e9:Hid (R.hs.getD q (0,0)=(j1,j2)):=b4;have f0:Hid (hd R (p:Int)=(h1,h2)):=zfD hh;have HA:Hid (isH (p:Int)):=⟨by omega,by omega⟩;have e6:Hid (isH (q:Int)):=⟨by omega,by omega⟩;obtain⟨wf,c7,g2,ht⟩:=zax hR;have DI:Hid (∀ W,_):=fun W=>zct (p:Int) W (by omega);have e0:Hid (∀ W,_):=fun W=>zct (q:Int) W (by omega);have h6:(q:Int)<16:=by omega
 have DW:Hid (∀ W,zaS W ⟨a0,a1,a2,a3,c0,c1,c2,c3⟩ R->_):=fun W hW=>zcd a0 a1 a2 a3 c0 c1 c2 c3 R W hR hW;have HL:Hid (zaS w ⟨a0,a1,a2,a3,c0,c1,c2,c3⟩ R):=hL;have g4:Hid (zaY w a2 R.i):=hL.2.2.1;have a6:Hid (R.hs.length=16):=c7;have g0:Hid (WF R.s):=wf;have HD:Hid (R.hs.getD p (0,0)=(h1,h2)):=hh;have h5:(p:Int)<16:=by omega
 clear hL hR g2 hh c7 wf b4
 go_enter Tryz.func16,Tryz.ntmps16
 go_wp2_with fail
 refine yf (DI.out _) ?_;rintro e w' ⟨rfl,hw⟩;have b5:=hw.symm;clear hw;subst b5
 go_wp2_with fail
 refine yf (e0.out _) ?_;rintro e w' ⟨rfl,hw⟩;have b5:=hw.symm;clear hw;subst b5;have c6:Hid (Below w.heap.size w (((w.alloc (.cells #[.slice a0 R.s.length c0,.slice a1 R.hs.length c1,.slice a2 R.i.length c2,.slice a3 R.t.length c3] 31)).alloc (.cells #[.int .i64 3,.int .i64 (p:Int),.int .i64 (q:Int),.int .i64 O,.int .i64 xn] 41)).alloc (.cells #[.slice none 0 0,.slice none 0 0,.slice none 0 0,.slice none 0 0] 31))):=(zai w _ _).trans ((zab _ _).mono (by first|(simp;done)|(simp;omega)))
 go_wp2_with fail
 refine yf (DW.out _ (HL.out.below c6.out)) ?_;rintro e w1 ⟨v0,K,v1,v3,rfl,hb,hO,hH,hT⟩;obtain⟨s0,k0,rfl,_⟩:=hO.nds
 obtain⟨g,k1,rfl⟩:∃ g k1,v1=.slice (some ⟨g,0,none⟩) 16 k1:=by
  rcases hH.2 with ⟨rfl,h0⟩ |⟨g,cap,g7,rfl,_⟩
  ·omega
  ·exact⟨g,cap,rfl⟩
 obtain⟨t0,k3,rfl,_⟩:=zdV hT;simp only[yk] at hO hH hT;obtain⟨c8,q1,q2,g8,g9,br,bx,bz⟩:=zbP HL.out a6.out HD.out hp hb hO hH hT;have HI:Hid (zbx w w1.heap.size R 3 (p:Int) (q:Int) O xn h1 h2 s0 k0 K g k1 a2 c2 t0 k3 (((((w1.setCell ⟨w.heap.size,0,none⟩ (.slice s0 R.s.length k0)).setCell ⟨w.heap.size,1,none⟩ (.slice (some ⟨g,0,none⟩) 16 k1)).setCell ⟨w.heap.size,2,none⟩ (.slice a2 R.i.length c2)).setCell ⟨w.heap.size,3,none⟩ (.slice t0 R.t.length k3)).alloc (.cells #[.int .i64 h1,.int .i64 h2] 39))):=c8;obtain⟨l0,l1,l2,l3,fl,ll⟩:=zaa br;obtain⟨m0,m1,m2,m3,m4,lm⟩:=zaN bx;obtain⟨T,U,Z,z3,fz,lz⟩:=zaa bz;clear hb hO hH hT bx bz br c8 DW DI c6 HL
 go_upto_block 0 with fail
 go_cut [10,11] (fun s10 s11 wx=>∃ o E:Int,s10=.int .i64 o/\s11=.int .i64 E/\Hid (zcn w R ⟨3,(p:Int),(q:Int),O,xn⟩ o E wx))
 case first =>
  have b9:Hid (doG R ⟨3,(p:Int),(q:Int),O,xn⟩=ans (zek R.s h1 h2 j1 j2 ([]:List (Int × Int))) ⟨zgN R.s h1 j1 ([]:List (Int × Int)),R.hs,R.i,R.t⟩ 0):=by show doG _ _=_;unfold doG;dsimp only;rw[yd HA.out,ya (by decide),ya (by decide),ya (by decide),ya (by decide),ya (by decide),ya (by decide),ya (by decide),ya (by decide),yd (by decide),yd e6.out,ya (by decide),ya (by decide),yd g3,f0.out,f6.out];rfl
  have d9:Hid (∀ ha hc V hV hH,_):=fun ha hc V hV hH=>(zgE hC R.s (h1,h2) (j1,j2) ([]:List (Int × Int)) ha hc g0.out (by simp)) s0 k0 V hV hH;generalize zek R.s h1 h2 j1 j2 ([]:List (Int × Int))=E at *;generalize zgN R.s h1 j1 ([]:List (Int × Int))=TT at *
  go_wp2_with fail
  obtain⟨I,a5⟩:∃ I,(((((w1.setCell ⟨w.heap.size,0,none⟩ (.slice s0 R.s.length k0)).setCell ⟨w.heap.size,1,none⟩ (.slice (some ⟨g,0,none⟩) 16 k1)).setCell ⟨w.heap.size,2,none⟩ (.slice a2 R.i.length c2)).setCell ⟨w.heap.size,3,none⟩ (.slice t0 R.t.length k3)).alloc (.cells #[.int .i64 h1,.int .i64 h2] 39))=I:=⟨_,rfl⟩;rw[a5] at HI;have F:Hid (zbx w w1.heap.size R 3 (p:Int) (q:Int) O xn h1 h2 s0 k0 K g k1 a2 c2 t0 k3 I):=HI;have h7:w1.heap.size<I.heap.size:=by rw[<- a5];simp
  clear HI;clear l0 l1 l2 l3 fl ll m0 m1 m2 m3 m4 lm T U Z z3 fz lz q1 q2;obtain⟨l0,l1,l2,l3,fl,ll⟩:=zaa F.out.r;obtain⟨m0,m1,m2,m3,m4,lm⟩:=zaN F.out.x;obtain⟨T,U,Z,z3,fz,lz⟩:=zaa F.out.z;obtain⟨n0,n1,ln⟩:=zbg F.out.a;have g1:∀ o,I.frozen? ⟨g,o,none⟩=false:=F.out.hs.frozenAt;have h3:g<I.heap.size:=(F.out.hs.lt g rfl).2;have h4:w.heap.size+5<=g:=(F.out.hs.lt g rfl).1;have h8:¬ w.heap.size=g:=by omega
  have h9:¬ w.heap.size+1=g:=by omega
  have i0:¬ g=w.heap.size:=by omega
  have i1:¬ g=w.heap.size+1:=by omega
  have i2:¬ g=w.heap.size+1+1:=by omega
  have i3:¬ w.heap.size+1+1=g:=by omega
  rw[a5];clear a5 g1
  obtain⟨x1,x2⟩:I.cell? ⟨g,q*2,none⟩=some (.int .i64 j1)/\I.cell? ⟨g,q*2+1,none⟩=some (.int .i64 j2):=by
   obtain⟨y1,y2⟩:=zbt R.hs q (by rw[a6.out];exact hq);rw[e9.out] at y1 y2;have y3:=F.out.hs.cells (g:=g) rfl _ _ y1;have y4:=F.out.hs.cells (g:=g) rfl _ _ y2;rw[Addr.add_lit,yv] at y3 y4;exact⟨y3,y4⟩
  refine wp_region_noPanic ?_;refine wp_region_held_drew (S:=fun M=>M.cell? ⟨w.heap.size,1,none⟩=some (.slice (some ⟨g,0,none⟩) 16 k1)/\M.cell? ⟨w.heap.size+1,2,none⟩=some (.int .i64 (q:Int))/\M.cell? ⟨w1.heap.size,0,none⟩=some (.int .i64 h1)/\M.cell? ⟨w1.heap.size,1,none⟩=some (.int .i64 h2)/\M.cell? ⟨g,q*2,none⟩=some (.int .i64 j1)/\M.cell? ⟨g,q*2+1,none⟩=some (.int .i64 j2)) (by kernel_rfl) (by(try dsimp only);go_keep) (fun hHeld=>?_);refine wpAnyH_take (i:=0) (v:=?_) rfl (by kernel_rfl) (by kernel_rfl) (by kernel_rfl) (fun _ _ _ h=>h) (Or.inl ⟨by rfl,?_⟩) (by assumption) ?_;rotate_left
  ·intro w A;(try dsimp only at A);first|(go_simp;done)|(go_simp;with_reducible rfl)
  simp[Act.put];refine wpAnyH_take (i:=2) (v:=?_) rfl (by kernel_rfl) (by kernel_rfl) (by kernel_rfl) (fun _ _ _ h=>h) (Or.inl ⟨by rfl,?_⟩) (by assumption) ?_;rotate_left
  ·intro w A;(try dsimp only at A);first|(go_simp;done)|(go_simp;with_reducible rfl)
  simp[Act.put];refine wpAnyH_take (i:=3) (v:=?_) rfl (by kernel_rfl) (by kernel_rfl) (by kernel_rfl) (fun _ _ _ h=>h) (Or.inl ⟨by rfl,?_⟩) (by assumption) ?_;rotate_left
  ·intro w A;(try dsimp only at A);first|(go_simp;done)|(go_simp;with_reducible rfl)
  simp[Act.put];refine wpAnyH_take (i:=4) (v:=?_) rfl (by kernel_rfl) (by kernel_rfl) (by kernel_rfl) (fun _ _ _ h=>h) (Or.inl ⟨by rfl,?_⟩) (by assumption) ?_;rotate_left
  ·intro w A;(try dsimp only at A);first|(go_simp;done)|(go_simp;with_reducible rfl)
  simp[Act.put];refine wpAnyH_take (i:=5) (v:=?_) rfl (by kernel_rfl) (by kernel_rfl) (by kernel_rfl) (fun _ _ _ h=>h) (Or.inl ⟨by rfl,?_⟩) (by assumption) ?_;rotate_left
  ·intro w A;(try dsimp only at A);first|(go_simp;done)|(go_simp;with_reducible rfl)
  simp[Act.put];refine wpAnyH_take (i:=6) (v:=?_) rfl (by kernel_rfl) (by kernel_rfl) (by kernel_rfl) (fun _ _ _ h=>h) (Or.inl ⟨by rfl,?_⟩) (by assumption) ?_;rotate_left
  ·intro w A;(try dsimp only at A);first|(go_simp;done)|(go_simp;with_reducible rfl)
  simp[Act.put];refine wpAnyH_take (i:=7) (v:=?_) rfl (by kernel_rfl) (by kernel_rfl) (by kernel_rfl) (fun _ _ _ h=>h) (Or.inl ⟨by rfl,?_⟩) (by assumption) ?_;rotate_left
  ·intro w A;(try dsimp only at A);first|(go_simp;done)|(go_simp;with_reducible rfl)
  simp[Act.put];refine wpAnyH_take (i:=8) (v:=?_) rfl (by kernel_rfl) (by kernel_rfl) (by kernel_rfl) (fun _ _ _ h=>h) (Or.inl ⟨by rfl,?_⟩) (by assumption) ?_;rotate_left
  ·intro w A;(try dsimp only at A);first|(go_simp;done)|(go_simp;with_reducible rfl)
  simp[Act.put];refine wpAnyH_take (i:=9) (v:=?_) rfl (by kernel_rfl) (by kernel_rfl) (by kernel_rfl) (fun _ _ _ h=>h) (Or.inl ⟨by rfl,?_⟩) (by assumption) ?_;rotate_left
  ·intro w A;(try dsimp only at A);first|(go_simp;done)|(go_simp;with_reducible rfl)
  simp[Act.put];refine wpAnyH_ready (rs:=[1]) (by kernel_rfl) (by simp) ?_;refine AllReadyH.cons rfl (fun KX hK=>?_) AllReadyH.nil;go_simp;refine hK.out _ _ ?_ (fun hHeld=>?_)
  ·(try dsimp only)
   first|go_keep|assumption
  clear hK KX
  try simp[Act.put]
  refine wpAnyH_ready (rs:=[10]) (by kernel_rfl) (by simp) ?_;refine AllReadyH.cons rfl (fun KX hK=>?_) AllReadyH.nil;go_simp;refine yf (d9.out none 0 _ (F.out.nds.below (yj _ _).drew) (fun i hi=>absurd hi (yr _))) ?_;rintro e w5 ⟨a', c', rfl,c9,hst⟩;have D:Below I.heap.size I w5:=(yj I.heap.size I).drew.trans c9;have u0:=zac l1 D;have u1:=zac m2 D;have u2:=zac n0 D;have u3:=zac n1 D;have u4:=zac x1 D;have u5:=zac x2 D;have v0:=zac l0 D;have vr:w5.heap[w.heap.size]?=_:=zaU F.out.r D;have s5:I.heap.size<=w5.heap.size:=D.size;have s50:w.heap.size<w5.heap.size:=by omega
  have f5:∀ o,w5.frozen? ⟨w.heap.size,o,none⟩=false:=fun o=>(D.frozen (show (⟨w.heap.size,o,none⟩:Addr).block<I.heap.size from ll)).trans (fl o);have f7:Hid (zcn w R ⟨3,(p:Int),(q:Int),O,xn⟩ 0 E (w5.setCell ⟨w.heap.size,0,none⟩ (.slice a' (rS E TT).length c'))):=(F.out.below D).sto a6.out hst b9.out;clear c9 D hst b9;generalize (rS E TT).length=tl at *
  go_wp2_with fail
  refine hK.out _ _ ?_ (fun hHeld=>?_)
  ·(try dsimp only)
   exact⟨u0,u1,u2,u3,u4,u5⟩
  clear hK KX
  try simp[Act.put]
  refine wpAnyH_take (i:=11) (v:=?_) rfl (by kernel_rfl) (by kernel_rfl) (by kernel_rfl) (fun _ _ _ h=>h) (Or.inl ⟨by rfl,?_⟩) (by assumption) ?_;rotate_left
  ·intro w A;(try dsimp only at A);first|(go_simp;done)|(go_simp;with_reducible rfl)
  simp[Act.put];refine wpAnyH_take (i:=12) (v:=?_) rfl (by kernel_rfl) (by kernel_rfl) (by kernel_rfl) (fun _ _ _ h=>h) (Or.inl ⟨by rfl,?_⟩) (by assumption) ?_;rotate_left
  ·intro w A;(try dsimp only at A);first|(go_simp;done)|(go_simp;with_reducible rfl)
  simp[Act.put];refine wpAnyH_take (i:=13) (v:=?_) rfl (by kernel_rfl) (by kernel_rfl) (by kernel_rfl) (fun _ _ _ h=>h) (Or.inl ⟨by rfl,?_⟩) (by assumption) ?_;rotate_left
  ·intro w A;(try dsimp only at A);first|(go_simp;done)|(go_simp;with_reducible rfl)
  simp[Act.put];refine wpAnyH_take (i:=14) (v:=?_) rfl (by kernel_rfl) (by kernel_rfl) (by kernel_rfl) (fun _ _ _ h=>h) (Or.inl ⟨by rfl,?_⟩) (by assumption) ?_;rotate_left
  ·intro w A;(try dsimp only at A);first|(go_simp;done)|(go_simp;with_reducible rfl)
  simp[Act.put];refine wpAnyH_ready (rs:=[15]) (by kernel_rfl) (by simp) ?_;refine AllReadyH.cons rfl (fun KX hK=>?_) AllReadyH.nil;go_simp;refine hK.out _ _ ?_ (fun hHeld=>?_)
  ·(try dsimp only)
   exact⟨(zaa (zcD vr)).2.1,zak (by omega) u1,zak (by omega) u2,zak (by omega) u3,zak (by omega) u4,zak (by omega) u5⟩
  clear hK KX
  try simp[Act.put]
  refine wpAnyH_take (i:=16) (v:=?_) rfl (by kernel_rfl) (by kernel_rfl) (by kernel_rfl) (fun _ _ _ h=>h) (Or.inl ⟨by rfl,?_⟩) (by assumption) ?_;rotate_left
  ·intro w A;(try dsimp only at A);first|(go_simp;done)|(go_simp;with_reducible rfl)
  simp[Act.put];refine wpAnyH_done (by kernel_rfl) ?_ _;refine NoPanic.normal ?_;clear l0 l1 l2 l3 fl ll m0 m1 m2 m3 m4 lm T U Z z3 fz lz n0 n1 ln v0 vr f5 x1 x2
  go_wp2_with fail
  go_meet
  case rel=>exact⟨0,E,rfl,rfl,f7⟩
 case rest =>
 obtain⟨o,E,rfl,rfl,HR⟩:=hcut;obtain⟨W9,rfl⟩:∃ W,W=wc:=⟨_,rfl⟩;clear HI l0 l1 l2 l3 fl ll m0 m1 m2 m3 m4 lm T U Z z3 fz lz q1 q2;by_cases hE:E=0
 ·obtain⟨b0,b1,b2,b3,d0,d1,d2,d3,Q,hd,J,hr⟩:=HR.out.ok hE;subst hE;have b8:Hid _:=hd;have e8:Hid _:=HR.out.bel;have f9:Hid _:=hr;have l0:W9.cell? ⟨w.heap.size,0,none⟩=some (.slice b0 Q.s.length d0):=(zaa J).1;have l1:W9.cell? ⟨w.heap.size,1,none⟩=some (.slice b1 Q.hs.length d1):=(zaa J).2.1;have l2:W9.cell? ⟨w.heap.size,2,none⟩=some (.slice b2 Q.i.length d2):=(zaa J).2.2.1;have l3:W9.cell? ⟨w.heap.size,3,none⟩=some (.slice b3 Q.t.length d3):=(zaa J).2.2.2.1;have ll:=zaC J;have BZ:=HR.out.z;obtain⟨T,U,Z,z3,fz,lz⟩:=zaa BZ;clear hd hr J HR
  go_wp2_with fail
  obtain⟨W8,a9⟩:∃ W8,W8=((((W9.setCell ⟨w.heap.size+1+1,0,none⟩ (.slice b0 Q.s.length d0)).setCell ⟨w.heap.size+1+1,1,none⟩ (.slice b1 Q.hs.length d1)).setCell ⟨w.heap.size+1+1,2,none⟩ (.slice b2 Q.i.length d2)).setCell ⟨w.heap.size+1+1,3,none⟩ (.slice b3 Q.t.length d3)):=⟨_,rfl⟩;rw[<- a9];obtain⟨a4,a7,f8⟩:=zbb BZ e8.out f9.out a9;clear T U Z z3 fz lz l0 l1 l2 l3 ll a9;obtain⟨T,U,Z,z3,fz,lz⟩:=zaa a4;exact yq (v:=.tuple #[.agg #[.slice b0 Q.s.length d0,.slice b1 Q.hs.length d1,.slice b2 Q.i.length d2,.slice b3 Q.t.length d3],.int .i64 o,.int .i64 0]) (by simp[results,Tryz.results16,go_sem,T,U,Z,z3]) rfl ⟨⟨b0,b1,b2,b3,d0,d1,d2,d3⟩,by rw[b8.out],a7,by rw[b8.out];exact f8⟩
 ·have y1:decide (E=0)=false:=decide_eq_false hE;have y2:(E == 0)=false:=beq_eq_false_iff_ne.2 hE;have y3:(E != 0)=true:=by simp[hE]
  have b6:Hid (doG R ⟨3,(p:Int),(q:Int),O,xn⟩=bad E):=HR.out.bad hE;have b7:Hid (Below w.heap.size w W9):=HR.out.bel;have d8:Hid (W9.heap[w.heap.size+1+1]?=some (.cells #[.slice none 0 0,.slice none 0 0,.slice none 0 0,.slice none 0 0] 31 (0,0))):=HR.out.z;clear HR
  go_wp2_with fail
  refine yf (zbk E _) ?_;rintro e w8 ⟨rfl,hb⟩;have a7:Hid (Below w.heap.size w w8):=b7.out.trans (hb.mono b7.out.size);have a4:=zaU d8.out hb;clear hb;obtain⟨T,U,Z,z3,fz,lz⟩:=zaa a4
  go_wp2_with fail
  obtain⟨W7,a8⟩:∃ W7,W7=((((w8.setCell ⟨w.heap.size+1+1,0,none⟩ (.slice none 0 0)).setCell ⟨w.heap.size+1+1,1,none⟩ (.slice none 0 0)).setCell ⟨w.heap.size+1+1,2,none⟩ (.slice none 0 0)).setCell ⟨w.heap.size+1+1,3,none⟩ (.slice none 0 0)):=⟨_,rfl⟩;rw[<- a8];obtain⟨d7,e7,_⟩:=zbb (Q:=zaW) (b0:=none) (b1:=none) (b2:=none) (b3:=none) (d0:=0) (d1:=0) (d2:=0) (d3:=0) a4 a7.out (zaO _ _) a8;clear T U Z z3 fz lz a8;have d6:W7.heap[w.heap.size+1+1]?=some (.cells #[.slice none 0 0,.slice none 0 0,.slice none 0 0,.slice none 0 0] 31 (0,0)):=d7;obtain⟨T,U,Z,z3,fz,lz⟩:=zaa d6;exact yq (v:=.tuple #[.agg #[.slice none 0 0,.slice none 0 0,.slice none 0 0,.slice none 0 0],.int .i64 0,.int .i64 E]) (by simp[results,Tryz.results16,go_sem,T,U,Z,z3]) rfl ⟨⟨none,none,none,none,0,0,0,0⟩,by rw[b6.out];rfl,e7,by rw[b6.out];exact zaO _ _⟩
end Go.Proofs.YtgjfmepbphfjoaaGreat
