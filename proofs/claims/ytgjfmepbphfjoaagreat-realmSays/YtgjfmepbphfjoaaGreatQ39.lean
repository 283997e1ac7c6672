/-
  x
-/
import Derived.Test.YtgjfmepbphfjoaaGreatQ35
import Derived.Test.YtgjfmepbphfjoaaGreatQ36
import Derived.Test.YtgjfmepbphfjoaaGreatQ37
import Derived.Test.YtgjfmepbphfjoaaGreatQ38
namespace Go.Proofs.YtgjfmepbphfjoaaGreat
set_option maxRecDepth 100000
set_option maxHeartbeats 4000000
set_option linter.unusedVariables false
open Go.RowKit
theorem zqB(hC:zbW)(a0 a1 a2 a3:Option Addr)(c0 c1 c2 c3:Nat)(R:Rl)(p:Nat)(xr xs J h1 h2:Int)(w:World)(hR:zaB R=0)(hL:zaS w ⟨a0,a1,a2,a3,c0,c1,c2,c3⟩ R)(hp:p<16)(hh:R.hs.getD p (0,0)=(h1,h2)) :
  Calls Tryz.prog 16 #[.agg #[.slice a0 R.s.length c0,.slice a1 R.hs.length c1,.slice a2 R.i.length c2,.slice a3 R.t.length c3],.agg #[.int .i64 1,.int .i64 (p:Int),.int .i64 xr,.int .i64 xs,.int .i64 J]] w (zfV R ⟨1,p,xr,xs,J⟩ w):=by
 have g4:Hid (hd R (p:Int)=(h1,h2)):=zfD hh;have HA:Hid (isH (p:Int)):=⟨by omega,by omega⟩;obtain⟨wf,c7,g0,ht⟩:=zax hR;have DI:Hid (∀ W,_):=fun W=>zct (p:Int) W (by omega);have DW:Hid (∀ W,zaS W ⟨a0,a1,a2,a3,c0,c1,c2,c3⟩ R->_):=fun W hW=>zcd a0 a1 a2 a3 c0 c1 c2 c3 R W hR hW;have HL:Hid (zaS w ⟨a0,a1,a2,a3,c0,c1,c2,c3⟩ R):=hL;have f0:Hid (zaY w a2 R.i):=hL.2.2.1;have a5:Hid (R.hs.length=16):=c7;have f9:Hid (WF R.s):=wf;have HD:Hid (R.hs.getD p (0,0)=(h1,h2)):=hh;have h3:(p:Int)<16:=by omega
 clear hL hR g0 hh c7 wf
 go_enter Tryz.func16,Tryz.ntmps16
 go_wp2_with fail
 refine yf (DI.out _) ?_;rintro e w' ⟨rfl,hw⟩;have g1:=hw.symm;clear hw;subst g1;have b9:Hid (Below w.heap.size w (((w.alloc (.cells #[.slice a0 R.s.length c0,.slice a1 R.hs.length c1,.slice a2 R.i.length c2,.slice a3 R.t.length c3] 31)).alloc (.cells #[.int .i64 1,.int .i64 (p:Int),.int .i64 xr,.int .i64 xs,.int .i64 J] 41)).alloc (.cells #[.slice none 0 0,.slice none 0 0,.slice none 0 0,.slice none 0 0] 31))):=(zai w _ _).trans ((zab _ _).mono (by first|(simp;done)|(simp;omega)))
 go_wp2_with fail
 refine yf (DW.out _ (HL.out.below b9.out)) ?_;rintro e w1 ⟨v0,K,v1,v3,rfl,hb,hO,hH,hT⟩;obtain⟨s0,k0,rfl,_⟩:=hO.nds
 obtain⟨g,k1,rfl⟩:∃ g k1,v1=.slice (some ⟨g,0,none⟩) 16 k1:=by
  rcases hH.2 with ⟨rfl,h0⟩ |⟨g,cap,g6,rfl,_⟩
  ·omega
  ·exact⟨g,cap,rfl⟩
 obtain⟨t0,k3,rfl,_⟩:=zdV hT;simp only[yk] at hO hH hT;obtain⟨c8,q1,q2,g7,g8,br,bx,bz⟩:=zbP HL.out a5.out HD.out hp hb hO hH hT;have HI:Hid (zbx w w1.heap.size R 1 (p:Int) xr xs J h1 h2 s0 k0 K g k1 a2 c2 t0 k3 (((((w1.setCell ⟨w.heap.size,0,none⟩ (.slice s0 R.s.length k0)).setCell ⟨w.heap.size,1,none⟩ (.slice (some ⟨g,0,none⟩) 16 k1)).setCell ⟨w.heap.size,2,none⟩ (.slice a2 R.i.length c2)).setCell ⟨w.heap.size,3,none⟩ (.slice t0 R.t.length k3)).alloc (.cells #[.int .i64 h1,.int .i64 h2] 39))):=c8;obtain⟨l0,l1,l2,l3,fl,ll⟩:=zaa br;obtain⟨m0,m1,m2,m3,m4,lm⟩:=zaN bx;obtain⟨O,T,U,Z,fz,lz⟩:=zaa bz;clear hb hO hH hT bx bz br c8 DW DI b9 HL
 go_upto_block 0 with fail
 go_cut [10,11] (fun s10 s11 wx=>∃ o E:Int,s10=.int .i64 o/\s11=.int .i64 E/\Hid (zcn w R ⟨1,(p:Int),xr,xs,J⟩ o E wx))
 case first =>
  have b8:Hid (doG R ⟨1,(p:Int),xr,xs,J⟩=ans (zcH R.s J) ⟨mkS R.s J,R.hs.set p (mkH R.s),R.i,R.t⟩ 0):=by show doG _ _=_;unfold doG;dsimp only;rw[yd HA.out,yd rfl];rfl
  have e7:Hid (∀ V hV,_):=fun V hV=>(zpe hC R.s J f9.out) s0 k0 V hV;generalize zcH R.s J=E at *;generalize mkS R.s J=TT at *;generalize mkH R.s=hv at *
  go_wp2_with fail
  obtain⟨I,a6⟩:∃ I,(((((w1.setCell ⟨w.heap.size,0,none⟩ (.slice s0 R.s.length k0)).setCell ⟨w.heap.size,1,none⟩ (.slice (some ⟨g,0,none⟩) 16 k1)).setCell ⟨w.heap.size,2,none⟩ (.slice a2 R.i.length c2)).setCell ⟨w.heap.size,3,none⟩ (.slice t0 R.t.length k3)).alloc (.cells #[.int .i64 h1,.int .i64 h2] 39))=I:=⟨_,rfl⟩;rw[a6] at HI;have F:Hid (zbx w w1.heap.size R 1 (p:Int) xr xs J h1 h2 s0 k0 K g k1 a2 c2 t0 k3 I):=HI;have h4:w1.heap.size<I.heap.size:=by rw[<- a6];simp
  clear HI;clear l0 l1 l2 l3 fl ll m0 m1 m2 m3 m4 lm O T U Z fz lz q1 q2;obtain⟨l0,l1,l2,l3,fl,ll⟩:=zaa F.out.r;obtain⟨m0,m1,m2,m3,m4,lm⟩:=zaN F.out.x;obtain⟨O,T,U,Z,fz,lz⟩:=zaa F.out.z;obtain⟨n0,n1,ln⟩:=zbg F.out.a;have c6:∀ o,I.frozen? ⟨g,o,none⟩=false:=F.out.hs.frozenAt;have d6:g<I.heap.size:=(F.out.hs.lt g rfl).2;have g9:w.heap.size+5<=g:=(F.out.hs.lt g rfl).1;have h7:¬ w.heap.size=g:=by omega
  have h8:¬ w.heap.size+1=g:=by omega
  have h9:¬ g=w.heap.size:=by omega
  have i0:¬ g=w.heap.size+1:=by omega
  have i1:¬ g=w.heap.size+1+1:=by omega
  have i2:¬ w.heap.size+1+1=g:=by omega
  rw[a6];clear a6
  obtain⟨o1,d7⟩:∃ v,I.cell? ⟨g,p*2,none⟩=some v:=by
   obtain⟨y,_⟩:=zbt R.hs p (by rw[a5.out];exact hp);have:=F.out.hs.cells (g:=g) rfl _ _ y;rw[Addr.add_lit,yv] at this;exact⟨_,this⟩
  obtain⟨o2,d8⟩:∃ v,I.cell? ⟨g,p*2+1,none⟩=some v:=by
   obtain⟨_,y⟩:=zbt R.hs p (by rw[a5.out];exact hp);have:=F.out.hs.cells (g:=g) rfl _ _ y;rw[Addr.add_lit,yv] at this;exact⟨_,this⟩
  refine wp_region_noPanic ?_;refine wp_region_held_drew (S:=fun b4=>b4.cell? ⟨w.heap.size,1,none⟩=some (.slice (some ⟨g,0,none⟩) 16 k1)/\b4.cell? ⟨w.heap.size+1,1,none⟩=some (.int .i64 (p:Int))/\b4.cell? ⟨w.heap.size+1,4,none⟩=some (.int .i64 J)) (by kernel_rfl) (by(try dsimp only);go_keep) (fun hHeld=>?_);refine wpAnyH_take (i:=0) (v:=?_) rfl (by kernel_rfl) (by kernel_rfl) (by kernel_rfl) (fun _ _ _ h=>h) (Or.inl ⟨by rfl,?_⟩) (by assumption) ?_;rotate_left
  ·intro w A;(try dsimp only at A);first|(go_simp;done)|(go_simp;with_reducible rfl)
  simp[Act.put];refine wpAnyH_take (i:=1) (v:=?_) rfl (by kernel_rfl) (by kernel_rfl) (by kernel_rfl) (fun _ _ _ h=>h) (Or.inl ⟨by rfl,?_⟩) (by assumption) ?_;rotate_left
  ·intro w A;(try dsimp only at A);first|(go_simp;done)|(go_simp;with_reducible rfl)
  simp[Act.put];refine wpAnyH_take (i:=2) (v:=?_) rfl (by kernel_rfl) (by kernel_rfl) (by kernel_rfl) (fun _ _ _ h=>h) (Or.inl ⟨by rfl,?_⟩) (by assumption) ?_;rotate_left
  ·intro w A;(try dsimp only at A);first|(go_simp;done)|(go_simp;with_reducible rfl)
  simp[Act.put];refine wpAnyH_take (i:=3) (v:=?_) rfl (by kernel_rfl) (by kernel_rfl) (by kernel_rfl) (fun _ _ _ h=>h) (Or.inl ⟨by rfl,?_⟩) (by assumption) ?_;rotate_left
  ·intro w A;(try dsimp only at A);first|(go_simp;done)|(go_simp;with_reducible rfl)
  simp[Act.put];refine wpAnyH_take (i:=4) (v:=?_) rfl (by kernel_rfl) (by kernel_rfl) (by kernel_rfl) (fun _ _ _ h=>h) (Or.inl ⟨by rfl,?_⟩) (by assumption) ?_;rotate_left
  ·intro w A;(try dsimp only at A);first|(go_simp;done)|(go_simp;with_reducible rfl)
  simp[Act.put];refine wpAnyH_take (i:=6) (v:=?_) rfl (by kernel_rfl) (by kernel_rfl) (by kernel_rfl) (fun _ _ _ h=>h) (Or.inl ⟨by rfl,?_⟩) (by assumption) ?_;rotate_left
  ·intro w A;(try dsimp only at A);first|(go_simp;done)|(go_simp;with_reducible rfl)
  simp[Act.put];refine wpAnyH_take (i:=7) (v:=?_) rfl (by kernel_rfl) (by kernel_rfl) (by kernel_rfl) (fun _ _ _ h=>h) (Or.inl ⟨by rfl,?_⟩) (by assumption) ?_;rotate_left
  ·intro w A;(try dsimp only at A);first|(go_simp;done)|(go_simp;with_reducible rfl)
  simp[Act.put];refine wpAnyH_ready (rs:=[5]) (by kernel_rfl) (by simp) ?_;refine AllReadyH.cons rfl (fun KX hK=>?_) AllReadyH.nil;go_simp;refine hK.out _ _ ?_ (fun hHeld=>?_)
  ·(try dsimp only)
   first|go_keep|assumption
  clear hK KX
  try simp[Act.put]
  refine wpAnyH_ready (rs:=[8]) (by kernel_rfl) (by simp) ?_;refine AllReadyH.cons rfl (fun KX hK=>?_) AllReadyH.nil;go_simp;refine yf (e7.out _ (F.out.nds.below (yj _ _).drew)) ?_;rintro e w5 ⟨a', c', rfl,c9,hst⟩;have D:Below I.heap.size I w5:=(yj I.heap.size I).drew.trans c9;have u0:=zac l1 D;have u1:=zac m1 D;have u2:=zac m4 D;have v0:=zac l0 D;have vr:w5.heap[w.heap.size]?=_:=zaU F.out.r D;have g2:=zac d7 D;have g3:=zac d8 D;have s5:I.heap.size<=w5.heap.size:=D.size;have s50:w.heap.size<w5.heap.size:=by omega
  have i3:g<w5.heap.size:=by omega
  have f5:∀ o,w5.frozen? ⟨w.heap.size,o,none⟩=false:=fun o=>(D.frozen (show (⟨w.heap.size,o,none⟩:Addr).block<I.heap.size from ll)).trans (fl o);have g5:∀ o,w5.frozen? ⟨g,o,none⟩=false:=fun o=>(D.frozen (show (⟨g,o,none⟩:Addr).block<I.heap.size from d6)).trans (c6 o);have f6:Hid (zcn w R ⟨1,(p:Int),xr,xs,J⟩ 0 E (((w5.setCell ⟨w.heap.size,0,none⟩ (.slice a' (rS E TT).length c')).setCell ⟨g,p*2,none⟩ (.int .i64 (rH E hv).1)).setCell ⟨g,p*2+1,none⟩ (.int .i64 (rH E hv).2))):=(F.out.below D).hnd a5.out f0.out hp (n0:=I.heap.size) ⟨d6,ll⟩ hst b8.out;clear c9 D hst b8;generalize (rS E TT).length=tl at *;generalize (rH E hv).1=h5 at *;generalize (rH E hv).2=h6 at *
  go_wp2_with fail
  refine hK.out _ _ ?_ (fun hHeld=>?_)
  ·(try dsimp only)
   exact⟨u0,u1,u2⟩
  clear hK KX
  try simp[Act.put]
  refine wpAnyH_take (i:=9) (v:=?_) rfl (by kernel_rfl) (by kernel_rfl) (by kernel_rfl) (fun _ _ _ h=>h) (Or.inl ⟨by rfl,?_⟩) (by assumption) ?_;rotate_left
  ·intro w A;(try dsimp only at A);first|(go_simp;done)|(go_simp;with_reducible rfl)
  simp[Act.put];refine wpAnyH_take (i:=10) (v:=?_) rfl (by kernel_rfl) (by kernel_rfl) (by kernel_rfl) (fun _ _ _ h=>h) (Or.inl ⟨by rfl,?_⟩) (by assumption) ?_;rotate_left
  ·intro w A;(try dsimp only at A);first|(go_simp;done)|(go_simp;with_reducible rfl)
  simp[Act.put];refine wpAnyH_take (i:=11) (v:=?_) rfl (by kernel_rfl) (by kernel_rfl) (by kernel_rfl) (fun _ _ _ h=>h) (Or.inl ⟨by rfl,?_⟩) (by assumption) ?_;rotate_left
  ·intro w A;(try dsimp only at A);first|(go_simp;done)|(go_simp;with_reducible rfl)
  simp[Act.put];refine wpAnyH_take (i:=12) (v:=?_) rfl (by kernel_rfl) (by kernel_rfl) (by kernel_rfl) (fun _ _ _ h=>h) (Or.inl ⟨by rfl,?_⟩) (by assumption) ?_;rotate_left
  ·intro w A;(try dsimp only at A);first|(go_simp;done)|(go_simp;with_reducible rfl)
  simp[Act.put];refine wpAnyH_take (i:=13) (v:=?_) rfl (by kernel_rfl) (by kernel_rfl) (by kernel_rfl) (fun _ _ _ h=>h) (Or.inl ⟨by rfl,?_⟩) (by assumption) ?_;rotate_left
  ·intro w A;(try dsimp only at A);first|(go_simp;done)|(go_simp;with_reducible rfl)
  simp[Act.put];refine wpAnyH_ready (rs:=[14]) (by kernel_rfl) (by simp) ?_;refine AllReadyH.cons rfl (fun KX hK=>?_) AllReadyH.nil;go_simp;refine hK.out _ _ ?_ (fun hHeld=>?_)
  ·(try dsimp only)
   exact⟨(zaa (zcD vr)).2.1,zak (by omega) u1,zak (by omega) u2⟩
  clear hK KX
  try simp[Act.put]
  refine wpAnyH_take (i:=15) (v:=?_) rfl (by kernel_rfl) (by kernel_rfl) (by kernel_rfl) (fun _ _ _ h=>h) (Or.inl ⟨by rfl,?_⟩) (by assumption) ?_;rotate_left
  ·intro w A;(try dsimp only at A);first|(go_simp;done)|(go_simp;with_reducible rfl)
  simp[Act.put];refine wpAnyH_ready (rs:=[16]) (by kernel_rfl) (by simp) ?_;refine AllReadyH.cons rfl (fun KX hK=>?_) AllReadyH.nil;go_simp;refine hK.out _ _ ?_ (fun hHeld=>?_)
  ·(try dsimp only)
   exact⟨zak (by omega) (zak (by omega) ((zaa (zcD vr)).2.1)),zak (by omega) (zak (by omega) (zak (by omega) u1)),zak (by omega) (zak (by omega) (zak (by omega) u2))⟩
  clear hK KX
  try simp[Act.put]
  refine wpAnyH_take (i:=17) (v:=?_) rfl (by kernel_rfl) (by kernel_rfl) (by kernel_rfl) (fun _ _ _ h=>h) (Or.inl ⟨by rfl,?_⟩) (by assumption) ?_;rotate_left
  ·intro w A;(try dsimp only at A);first|(go_simp;done)|(go_simp;with_reducible rfl)
  simp[Act.put];refine wpAnyH_done (by kernel_rfl) ?_ _;refine NoPanic.normal ?_;clear l0 l1 l2 l3 fl ll m0 m1 m2 m3 m4 lm O T U Z fz lz n0 n1 ln v0 vr g2 g3 f5 g5 d7 d8 c6
  go_wp2_with fail
  go_meet
  case rel=>exact⟨0,E,rfl,rfl,f6⟩
 case rest =>
 obtain⟨o,E,rfl,rfl,HR⟩:=hcut;obtain⟨W9,rfl⟩:∃ W,W=wc:=⟨_,rfl⟩;clear HI l0 l1 l2 l3 fl ll m0 m1 m2 m3 m4 lm O T U Z fz lz q1 q2;by_cases hE:E=0
 ·obtain⟨b0,b1,b2,b3,d0,d1,d2,d3,Q,hd,M,hr⟩:=HR.out.ok hE;subst hE;have b7:Hid _:=hd;have e9:Hid _:=HR.out.bel;have f8:Hid _:=hr;have l0:W9.cell? ⟨w.heap.size,0,none⟩=some (.slice b0 Q.s.length d0):=(zaa M).1;have l1:W9.cell? ⟨w.heap.size,1,none⟩=some (.slice b1 Q.hs.length d1):=(zaa M).2.1;have l2:W9.cell? ⟨w.heap.size,2,none⟩=some (.slice b2 Q.i.length d2):=(zaa M).2.2.1;have l3:W9.cell? ⟨w.heap.size,3,none⟩=some (.slice b3 Q.t.length d3):=(zaa M).2.2.2.1;have ll:=zaC M;have BZ:=HR.out.z;obtain⟨O,T,U,Z,fz,lz⟩:=zaa BZ;clear hd hr M HR
  go_wp2_with fail
  obtain⟨W8,a9⟩:∃ W8,W8=((((W9.setCell ⟨w.heap.size+1+1,0,none⟩ (.slice b0 Q.s.length d0)).setCell ⟨w.heap.size+1+1,1,none⟩ (.slice b1 Q.hs.length d1)).setCell ⟨w.heap.size+1+1,2,none⟩ (.slice b2 Q.i.length d2)).setCell ⟨w.heap.size+1+1,3,none⟩ (.slice b3 Q.t.length d3)):=⟨_,rfl⟩;rw[<- a9];obtain⟨a4,a7,f7⟩:=zbb BZ e9.out f8.out a9;clear O T U Z fz lz l0 l1 l2 l3 ll a9;obtain⟨O,T,U,Z,fz,lz⟩:=zaa a4;exact yq (v:=.tuple #[.agg #[.slice b0 Q.s.length d0,.slice b1 Q.hs.length d1,.slice b2 Q.i.length d2,.slice b3 Q.t.length d3],.int .i64 o,.int .i64 0]) (by simp[results,Tryz.results16,go_sem,O,T,U,Z]) rfl ⟨⟨b0,b1,b2,b3,d0,d1,d2,d3⟩,by rw[b7.out],a7,by rw[b7.out];exact f7⟩
 ·have y1:decide (E=0)=false:=decide_eq_false hE;have y2:(E == 0)=false:=beq_eq_false_iff_ne.2 hE;have y3:(E != 0)=true:=by simp[hE]
  have b5:Hid (doG R ⟨1,(p:Int),xr,xs,J⟩=bad E):=HR.out.bad hE;have b6:Hid (Below w.heap.size w W9):=HR.out.bel;have e6:Hid (W9.heap[w.heap.size+1+1]?=some (.cells #[.slice none 0 0,.slice none 0 0,.slice none 0 0,.slice none 0 0] 31 (0,0))):=HR.out.z;clear HR
  go_wp2_with fail
  refine yf (zbk E _) ?_;rintro e w8 ⟨rfl,hb⟩;have a7:Hid (Below w.heap.size w w8):=b6.out.trans (hb.mono b6.out.size);have a4:=zaU e6.out hb;clear hb;obtain⟨O,T,U,Z,fz,lz⟩:=zaa a4
  go_wp2_with fail
  obtain⟨W7,a8⟩:∃ W7,W7=((((w8.setCell ⟨w.heap.size+1+1,0,none⟩ (.slice none 0 0)).setCell ⟨w.heap.size+1+1,1,none⟩ (.slice none 0 0)).setCell ⟨w.heap.size+1+1,2,none⟩ (.slice none 0 0)).setCell ⟨w.heap.size+1+1,3,none⟩ (.slice none 0 0)):=⟨_,rfl⟩;rw[<- a8];obtain⟨e0,e8,_⟩:=zbb (Q:=zaW) (b0:=none) (b1:=none) (b2:=none) (b3:=none) (d0:=0) (d1:=0) (d2:=0) (d3:=0) a4 a7.out (zaO _ _) a8;clear O T U Z fz lz a8;have d9:W7.heap[w.heap.size+1+1]?=some (.cells #[.slice none 0 0,.slice none 0 0,.slice none 0 0,.slice none 0 0] 31 (0,0)):=e0;obtain⟨O,T,U,Z,fz,lz⟩:=zaa d9;exact yq (v:=.tuple #[.agg #[.slice none 0 0,.slice none 0 0,.slice none 0 0,.slice none 0 0],.int .i64 0,.int .i64 E]) (by simp[results,Tryz.results16,go_sem,O,T,U,Z]) rfl ⟨⟨none,none,none,none,0,0,0,0⟩,by rw[b5.out];rfl,e8,by rw[b5.out];exact zaO _ _⟩
theorem zqG(hC:zbW)(a0 a1 a2 a3:Option Addr)(c0 c1 c2 c3:Nat)(R:Rl)(p:Nat)(A xr xs xn h1 O:Int)(w:World)(hR:zaB R=0)(hL:zaS w ⟨a0,a1,a2,a3,c0,c1,c2,c3⟩ R)(hp:p<16)(hh:R.hs.getD p (0,0)=(h1,O))(hk:A≠1/\A≠2/\A≠4/\A≠6/\A≠5/\A≠11/\A≠14/\A≠15)(D:A≠3/\A≠7/\A≠8) :
  Calls Tryz.prog 16 #[.agg #[.slice a0 R.s.length c0,.slice a1 R.hs.length c1,.slice a2 R.i.length c2,.slice a3 R.t.length c3],.agg #[.int .i64 A,.int .i64 (p:Int),.int .i64 xr,.int .i64 xs,.int .i64 xn]] w (zfV R ⟨A,p,xr,xs,xn⟩ w):=by
 obtain⟨M,T,U,Z,V,F,I,J⟩:=hk;have d1:decide (A=1)=false:=decide_eq_false M;have b1:(A == 1)=false:=beq_eq_false_iff_ne.2 M;have d2:decide (A=2)=false:=decide_eq_false T;have b2:(A == 2)=false:=beq_eq_false_iff_ne.2 T;have d4:decide (A=4)=false:=decide_eq_false U;have b4:(A == 4)=false:=beq_eq_false_iff_ne.2 U;have d6:decide (A=6)=false:=decide_eq_false Z;have b6:(A == 6)=false:=beq_eq_false_iff_ne.2 Z;have d5:decide (A=5)=false:=decide_eq_false V;have b5:(A == 5)=false:=beq_eq_false_iff_ne.2 V;have g0:decide (A=11)=false:=decide_eq_false F;have f6:(A == 11)=false:=beq_eq_false_iff_ne.2 F;have g1:decide (A=14)=false:=decide_eq_false I;have f7:(A == 14)=false:=beq_eq_false_iff_ne.2 I;have g2:decide (A=15)=false:=decide_eq_false J;have f8:(A == 15)=false:=beq_eq_false_iff_ne.2 J;have d3:decide (A=3)=false:=decide_eq_false D.1;have b3:(A == 3)=false:=beq_eq_false_iff_ne.2 D.1;have d7:decide (A=7)=false:=decide_eq_false D.2.1;have b7:(A == 7)=false:=beq_eq_false_iff_ne.2 D.2.1;have d8:decide (A=8)=false:=decide_eq_false D.2.2;have b8:(A == 8)=false:=beq_eq_false_iff_ne.2 D.2.2;have e9:Hid (hd R (p:Int)=(h1,O)):=zfD hh;have HA:Hid (isH (p:Int)):=⟨by omega,by omega⟩;have a6:Hid (doG R ⟨A,(p:Int),xr,xs,xn⟩=bad 3):=by show doG _ _=_;unfold doG;dsimp only;rw[yd HA.out,ya M,ya T,ya U,ya Z,ya V,ya F,ya I,ya J,ya (fun h=>by rcases h with h|h|h;exact D.1 h;exact D.2.1 h;exact D.2.2 h)]
 clear D;obtain⟨wf,a9,e6,ht⟩:=zax hR;have DI:Hid (∀ W,_):=fun W=>zct (p:Int) W (by omega);have DW:Hid (∀ W,zaS W ⟨a0,a1,a2,a3,c0,c1,c2,c3⟩ R->_):=fun W hW=>zcd a0 a1 a2 a3 c0 c1 c2 c3 R W hR hW;have HL:Hid (zaS w ⟨a0,a1,a2,a3,c0,c1,c2,c3⟩ R):=hL;have e8:Hid (zaY w a2 R.i):=hL.2.2.1;have c9:Hid (R.hs.length=16):=a9;have f0:Hid (WF R.s):=wf;have HD:Hid (R.hs.getD p (0,0)=(h1,O)):=hh;have g5:(p:Int)<16:=by omega
 clear hL hR e6 hh a9 wf
 go_enter Tryz.func16,Tryz.ntmps16
 go_wp2_with fail
 refine yf (DI.out _) ?_;rintro e w' ⟨rfl,hw⟩;have e7:=hw.symm;clear hw;subst e7;have a8:Hid (Below w.heap.size w (((w.alloc (.cells #[.slice a0 R.s.length c0,.slice a1 R.hs.length c1,.slice a2 R.i.length c2,.slice a3 R.t.length c3] 31)).alloc (.cells #[.int .i64 A,.int .i64 (p:Int),.int .i64 xr,.int .i64 xs,.int .i64 xn] 41)).alloc (.cells #[.slice none 0 0,.slice none 0 0,.slice none 0 0,.slice none 0 0] 31))):=(zai w _ _).trans ((zab _ _).mono (by first|(simp;done)|(simp;omega)))
 go_wp2_with fail
 refine yf (DW.out _ (HL.out.below a8.out)) ?_;rintro e w1 ⟨v0,K,v1,v3,rfl,hb,hO,hH,hT⟩;obtain⟨s0,k0,rfl,_⟩:=hO.nds
 obtain⟨g,k1,rfl⟩:∃ g k1,v1=.slice (some ⟨g,0,none⟩) 16 k1:=by
  rcases hH.2 with ⟨rfl,h0⟩ |⟨g,cap,f9,rfl,_⟩
  ·omega
  ·exact⟨g,cap,rfl⟩
 obtain⟨t0,k3,rfl,_⟩:=zdV hT;simp only[yk] at hO hH hT;obtain⟨b9,q1,q2,g3,g4,br,bx,bz⟩:=zbP HL.out c9.out HD.out hp hb hO hH hT;have HI:Hid (zbx w w1.heap.size R A (p:Int) xr xs xn h1 O s0 k0 K g k1 a2 c2 t0 k3 (((((w1.setCell ⟨w.heap.size,0,none⟩ (.slice s0 R.s.length k0)).setCell ⟨w.heap.size,1,none⟩ (.slice (some ⟨g,0,none⟩) 16 k1)).setCell ⟨w.heap.size,2,none⟩ (.slice a2 R.i.length c2)).setCell ⟨w.heap.size,3,none⟩ (.slice t0 R.t.length k3)).alloc (.cells #[.int .i64 h1,.int .i64 O] 39))):=b9;obtain⟨l0,l1,l2,l3,fl,ll⟩:=zaa br;obtain⟨m0,m1,m2,m3,m4,lm⟩:=zaN bx;obtain⟨z0,z1,z2,z3,fz,lz⟩:=zaa bz;clear hb hO hH hT bx bz br b9 DW DI a8 HL
 go_wp2_with fail
 have a7:Hid (Below w.heap.size w (((((w1.setCell ⟨w.heap.size,0,none⟩ (.slice s0 R.s.length k0)).setCell ⟨w.heap.size,1,none⟩ (.slice (some ⟨g,0,none⟩) 16 k1)).setCell ⟨w.heap.size,2,none⟩ (.slice a2 R.i.length c2)).setCell ⟨w.heap.size,3,none⟩ (.slice t0 R.t.length k3)).alloc (.cells #[.int .i64 h1,.int .i64 O] 39))):=HI.out.bel;have c8:Hid ((((((w1.setCell ⟨w.heap.size,0,none⟩ (.slice s0 R.s.length k0)).setCell ⟨w.heap.size,1,none⟩ (.slice (some ⟨g,0,none⟩) 16 k1)).setCell ⟨w.heap.size,2,none⟩ (.slice a2 R.i.length c2)).setCell ⟨w.heap.size,3,none⟩ (.slice t0 R.t.length k3)).alloc (.cells #[.int .i64 h1,.int .i64 O] 39)).heap[w.heap.size+1+1]?=some (.cells #[.slice none 0 0,.slice none 0 0,.slice none 0 0,.slice none 0 0] 31 (0,0))):=HI.out.z;clear HI;refine yf (zbk 3 _) ?_;rintro e w8 ⟨rfl,hb⟩;have e0:Hid (Below w.heap.size w w8):=a7.out.trans (hb.mono a7.out.size);have a5:=zaU c8.out hb;clear hb l0 l1 l2 l3 fl ll m0 m1 m2 m3 m4 lm z0 z1 z2 z3 fz lz q1 q2;obtain⟨z0,z1,z2,z3,fz,lz⟩:=zaa a5
 go_wp2_with fail
 obtain⟨W7,a4⟩:∃ W7,W7=((((w8.setCell ⟨w.heap.size+1+1,0,none⟩ (.slice none 0 0)).setCell ⟨w.heap.size+1+1,1,none⟩ (.slice none 0 0)).setCell ⟨w.heap.size+1+1,2,none⟩ (.slice none 0 0)).setCell ⟨w.heap.size+1+1,3,none⟩ (.slice none 0 0)):=⟨_,rfl⟩;rw[<- a4];obtain⟨c7,d9,_⟩:=zbb (Q:=zaW) (b0:=none) (b1:=none) (b2:=none) (b3:=none) (d0:=0) (d1:=0) (d2:=0) (d3:=0) a5 e0.out (zaO _ _) a4;clear z0 z1 z2 z3 fz lz a4;have c6:W7.heap[w.heap.size+1+1]?=some (.cells #[.slice none 0 0,.slice none 0 0,.slice none 0 0,.slice none 0 0] 31 (0,0)):=c7;obtain⟨z0,z1,z2,z3,fz,lz⟩:=zaa c6;exact yq (v:=.tuple #[.agg #[.slice none 0 0,.slice none 0 0,.slice none 0 0,.slice none 0 0],.int .i64 0,.int .i64 3]) (by simp[results,Tryz.results16,go_sem,z0,z1,z2,z3]) rfl ⟨⟨none,none,none,none,0,0,0,0⟩,by rw[a6.out];rfl,d9,by rw[a6.out];exact zaO _ _⟩
theorem zff{R:Rl}{x:Ac}{w:World}{E:Int}{f:Nat}{args:Array Value}(h:doG R x=bad E)(D:Calls Tryz.prog f args w fun e w' => e=.returned (.tuple #[.agg #[.slice none 0 0,.slice none 0 0,.slice none 0 0,.slice none 0 0],.int .i64 0,.int .i64 E])/\Below w.heap.size w w'):Calls Tryz.prog f args w (zfV R x w) :=
 D.mono (fun e w' ⟨e1,A⟩=>⟨⟨none,none,none,none,0,0,0,0⟩,by rw[h,e1];rfl,A,by rw[h];exact zaO _ _⟩)
theorem zoY(T:zbW)(A:RA)(R:Rl)(x:Ac)(w:World)(V:zaB R=0)(U:zaS w A R) :
  Calls Tryz.prog 16 #[rlV A R,acV x] w fun e w' => ∃ B:RA,e=.returned (.tuple #[rlV B (doG R x).r,.int .i64 (doG R x).o,.int .i64 (doG R x).e])/\Below w.heap.size w w' /\ zaS w' B (doG R x).r:=by
 obtain⟨a0,a1,a2,a3,c0,c1,c2,c3⟩:=A;obtain⟨F,xq,J,D,I⟩:=x;show Calls Tryz.prog 16 _ w (zfV R ⟨F,xq,J,D,I⟩ w);by_cases ha:isH xq
 ·obtain⟨p,rfl,Z⟩:=zjd ha;obtain⟨⟨h1,O⟩,hh⟩:∃ h,R.hs.getD p (0,0)=h:=⟨_,rfl⟩;by_cases k1:F=1
  ·subst k1;exact zqB T a0 a1 a2 a3 c0 c1 c2 c3 R p J D I h1 O w V U Z hh
  by_cases ka:F=2\/F=4
  ·exact zqx T a0 a1 a2 a3 c0 c1 c2 c3 R p F J D I h1 O w V U Z hh ka
  by_cases kb:F=6\/F=5
  ·exact zqy T a0 a1 a2 a3 c0 c1 c2 c3 R p F J D I h1 O w V U Z hh kb
  by_cases a5:F=11
  ·subst a5;exact zqz T a0 a1 a2 a3 c0 c1 c2 c3 R p J D I h1 O w V U Z hh
  by_cases kd:F=14\/F=15
  ·exact zqA T a0 a1 a2 a3 c0 c1 c2 c3 R p F J D I h1 O w V U Z hh kd
  have D2:∀ k:Int,(k=3\/k=7\/k=8)->¬ isH J->doG R ⟨k,p,J,D,I⟩=bad 4:=fun k hk M=>by
   unfold doG;dsimp only;rw[yd ha,ya (by omega),ya (by omega),ya (by omega),ya (by omega),ya (by omega),ya (by omega),ya (by omega),ya (by omega),yd hk,ya M]
  by_cases k7:F=7
  ·subst k7;by_cases M:isH J
   ·obtain⟨q,rfl,hq⟩:=zjd M;exact zqC T a0 a1 a2 a3 c0 c1 c2 c3 R p q D I h1 O w V U Z hq hh
   ·exact zff (D2 7 (by decide) M) (zjo a0 a1 a2 a3 c0 c1 c2 c3 R (p:Int) J D I w ha M)
  by_cases k8:F=8
  ·subst k8;by_cases M:isH J
   ·obtain⟨q,rfl,hq⟩:=zjd M;exact zqD T a0 a1 a2 a3 c0 c1 c2 c3 R p q D I h1 O w V U Z hq hh
   ·exact zff (D2 8 (by decide) M) (zmJ a0 a1 a2 a3 c0 c1 c2 c3 R (p:Int) J D I w ha M)
  by_cases k3:F=3
  ·subst k3;by_cases M:isH J
   ·obtain⟨q,rfl,hq⟩:=zjd M;obtain⟨⟨j1,j2⟩,a4⟩:∃ h,R.hs.getD q (0,0)=h:=⟨_,rfl⟩;by_cases hx:D<0
    ·exact zqE T a0 a1 a2 a3 c0 c1 c2 c3 R p q D I h1 O w V U Z hq hh j1 j2 a4 hx
    ·by_cases hc:isH D
     ·obtain⟨r,rfl,hr⟩:=zjd hc;obtain⟨⟨a7,a8⟩,a6⟩:∃ h,R.hs.getD r (0,0)=h:=⟨_,rfl⟩;exact zqF T a0 a1 a2 a3 c0 c1 c2 c3 R p q r I h1 O w V U Z hq hr hh j1 j2 a4 a7 a8 a6
     ·refine zff ?_ (zrU a0 a1 a2 a3 c0 c1 c2 c3 R (p:Int) (q:Int) D I w ha M (by unfold isH at hc;omega));unfold doG;dsimp only;rw[yd ha,ya (by decide),ya (by decide),ya (by decide),ya (by decide),ya (by decide),ya (by decide),ya (by decide),ya (by decide),yd (by decide),yd M,ya (by decide),ya (by decide),ya hx,ya hc]
   ·exact zff (D2 3 (by decide) M) (zkt a0 a1 a2 a3 c0 c1 c2 c3 R (p:Int) J D I w ha M)
  exact zqG T a0 a1 a2 a3 c0 c1 c2 c3 R p F J D I h1 O w V U Z hh ⟨k1,by omega,by omega,by omega,by omega,a5,by omega,by omega⟩ ⟨k3,k7,k8⟩
 ·refine zff ?_ (zrT a0 a1 a2 a3 c0 c1 c2 c3 R F xq J D I w ha);unfold doG;rw[ya ha]
theorem zfs{P:Program}(w:World)(O Z ty elem:TypeId)(i:TypeInfo)(g o I M:Nat)(a:Addr)(D J n:Nat)(A:Array Value)(t:TypeId)(F:List Value)
  (V:P.underlying O=some (.slice elem)) (U:P.info? elem=some i) (hg:w.heap[g]?=some (.cells A t (0,0))) (hn:n=Nat.min D I) (hl:F.length=n*i.size)
  (hsrc:∀ j v,F[j]?=some v->w.cell? (a.add j)=some v) (hfit:o+F.length<=A.size) (h1:∀ v ∈ F,v.oneCell' = true) :
  (Builtin.copy_ #[O,Z] ty #[.slice (some ⟨g,o,none⟩) I M,.slice (some a) D J]).run P w=.ok (goInt n) (w.setRow g (A.toList.take o++F++A.toList.drop (o+F.length)).toArray):=by
 have T:=run_firstCells_some (P:=P) w i.size n a D J F hl hsrc;have hst:=run_storeCells_at P g o t F 0 A w hg (by simpa using hfit) h1;simp only[Nat.add_zero] at hst;simp[Builtin.copy_,run_underlying V,Builtin.lenOf,sizeOf,typeInfo,U,<- hn,T,hst]
theorem zdW{P:Program}{w:World}{T:Array Oper}{rest:List Oper}{o:Oper}{a:Act}{Q:Exit->Act->World->Prop}(Z:o.guard=none)(d s:Operand)(V sT:TypeId)
  (ho:o.op=.call { callee:=.builtin .copy,args:=#[d,s],argTypes:=#[V,sT] }) (elem:TypeId) (i:TypeInfo) (hu:P.underlying V=some (.slice elem)) (hi:P.info? elem=some i)
  (g off D J:Nat) (U:Addr) (F M n:Nat) (hd:a.eval d=.slice (some ⟨g,off,none⟩) D J) (hs:a.eval s=.slice (some U) F M)
  (A:List Value) (t:TypeId) (hg:w.heap[g]?=some (.cells A.toArray t (0,0))) (I:List Value) (hn:n=Nat.min F D) (hl:I.length=n*i.size)
  (hsrc:∀ j v,I[j]?=some v->w.cell? (U.add j)=some v) (hfit:off+I.length<=A.length) (h1:∀ v ∈ I,v.oneCell' = true)
  (h:∀ w', w'.heap[g]?=some (.cells (A.take off++I++A.drop (off+I.length)).toArray t (0,0))->(∀ B w0,Below B w0 w->B<=g->Below B w0 w')->wpList P T Q rest (a.put o.dst (goInt n)) w'):wpList P T Q (o :: rest) a w:=by
 refine wpList_plain Z fun K hK=>?_;have O:=zfs (P:=P) w V sT o.type elem i g off D J U F M n A.toArray t I hu hi hg hn hl hsrc (by simpa using hfit) h1;unfold Oper.wp;simp[execOp,ho,resolve,invoke,builtin,hd,hs,O,Result.andThen];refine hK _ _ (h _ ?_ (fun B w0 hb hB=>below_setRow hb hB _));have:=setRow_heap w g A.toArray ((A.toArray.toList.take off++I++A.toArray.toList.drop (off+I.length)).toArray) t _ hg;simpa using this
theorem zhb{P:Program}{T:Array Oper}{o:Oper}{a:Act}{w:World}{K:Act->World->Prop}{Q:Exit->Act->World->Prop}{E:Prop}(Z:o.guard=none)(d s:Operand)(V sT:TypeId)
  (ho:o.op=.call { callee:=.builtin .copy,args:=#[d,s],argTypes:=#[V,sT] }) (elem:TypeId) (i:TypeInfo) (hu:P.underlying V=some (.slice elem)) (hi:P.info? elem=some i)
  (g off D J:Nat) (U:Addr) (F M n:Nat) (hd:a.eval d=.slice (some ⟨g,off,none⟩) D J) (hs:a.eval s=.slice (some U) F M)
  (A:List Value) (t:TypeId) (hg:w.heap[g]?=some (.cells A.toArray t (0,0))) (I:List Value) (hn:n=Nat.min F D) (hl:I.length=n*i.size)
  (hsrc:∀ j v,I[j]?=some v->w.cell? (U.add j)=some v) (hfit:off+I.length<=A.length) (h1:∀ v ∈ I,v.oneCell' = true)
  (h:∀ w', w'.heap[g]?=some (.cells (A.take off++I++A.drop (off+I.length)).toArray t (0,0))->(∀ B w0,Below B w0 w->B<=g->Below B w0 w')->K (a.put o.dst (goInt n)) w') :
  if Region.wanted o (yielded T a.tmps)=true then Oper.wp P o a w K Q else E:=by
 have hw:Region.wanted o (yielded T a.tmps)=true:=by simp[Region.wanted,Z]
 rw[yd hw];have O:=zfs (P:=P) w V sT o.type elem i g off D J U F M n A.toArray t I hu hi hg hn hl hsrc (by simpa using hfit) h1;unfold Oper.wp;simp[execOp,ho,resolve,invoke,builtin,hd,hs,O,Result.andThen];refine h _ ?_ (fun B w0 hb hB=>below_setRow hb hB _);have:=setRow_heap w g A.toArray ((A.toArray.toList.take off++I++A.toArray.toList.drop (off+I.length)).toArray) t _ hg;simpa using this
end Go.Proofs.YtgjfmepbphfjoaaGreat
