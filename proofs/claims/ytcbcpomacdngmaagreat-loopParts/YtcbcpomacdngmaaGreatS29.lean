/-
  x
-/
import Derived.Test.YtcbcpomacdngmaaGreatS28
namespace Go.Proofs.YtcbcpomacdngmaaGreat
set_option maxRecDepth 100000
set_option maxHeartbeats 4000000
set_option linter.unusedVariables false
open Go.RowKit Go.ChangeShapes Go.WideShapes
theorem zcp{W:Wl}{L:List (Int × Bool)}(h:zcT W L=0):zao W/\L.length<=120/\zck W L=L.foldl zhW W/\zer W L=zlW W L:=by
 have D:zbH W=0/\L.length<=120:=by
  unfold zcT at h;by_cases e:zbH W=0
  ·rw[yb e] at h;refine⟨e,?_⟩;by_cases E:120<L.length
   ·rw[yb E] at h;cases h
   ·omega
  ·rw[ya e] at h;exact absurd h e
 refine⟨zdA.1 D.1,D.2,?_,?_⟩
 ·unfold zck;rw[yb h]
 ·unfold zer;rw[yb h]
theorem zuH{W:Wl}{L:List (Int × Bool)}(H:zao W)(h:L.length<=120):zcT W L=0:=by
 unfold zcT;rw[yb (zdA.2 H),ya (by omega)]
theorem zxp{W:Wl}{L:List (Int × Bool)}(h:zcT W L=0)(k:Nat):zcT W (L.take k)=0/\zao (zck W (L.take k))/\zcT (zck W (L.take k)) (L.drop k)=0/\zck (zck W (L.take k)) (L.drop k)=zck W L/\zer W L=zer W (L.take k)++zer (zck W (L.take k)) (L.drop k):=by
 obtain⟨H,hl,I,J⟩:=zcp h;have E:zcT W (L.take k)=0:=zuH H (by rw[List.length_take];omega);obtain⟨_,_,D,M⟩:=zcp E;have H2:zao (zck W (L.take k)):=by rw[D];exact(zfU _ H).1
 have F:zcT (zck W (L.take k)) (L.drop k)=0:=zuH H2 (by rw[List.length_drop];omega);obtain⟨_,_,O,T⟩:=zcp F;have ap:=zrF W (L.take k) (L.drop k);rw[List.take_append_drop] at ap;exact⟨E,H2,F,by rw[O,D,I,ap.1],by rw[J,M,T,D,ap.2]⟩
theorem zuj(W:Wl)(L:List (Int × Bool))(n m:Nat)(Z:Wl)(E k:Int)(a0 a1 a2 a3 a4 la:Option Addr)(c0 c1 c2 c3 c4 lc:Nat)(w:World)(hE:E≠0)
  (M:Hid (∀ V:World,yM 9 #[] V fun e w' => e=.returned (.bool true)/\Below V.heap.size V w'))
  (J:Hid (∀ V,Below w.heap.size w V->yM 20 #[.agg #[.slice a0 W.fs.length c0,.slice a1 W.rs.length c1,.slice a2 W.ps.length c2,.slice a3 W.qs.length c3,.slice a4 W.pt.length c4],.slice la n lc] V fun e w' => ∃ (O T U b3 b4 sa:Option Addr) (d0 d1 d2 d3 d4 sc:Nat),e=.returned (.tuple #[.agg #[.slice O Z.fs.length d0,.slice T Z.rs.length d1,.slice U Z.ps.length d2,.slice b3 Z.qs.length d3,.slice b4 Z.pt.length d4],.slice sa m sc,.int .i64 E])/\Below V.heap.size V w')) :
  yM 6 #[.agg #[.slice a0 W.fs.length c0,.slice a1 W.rs.length c1,.slice a2 W.ps.length c2,.slice a3 W.qs.length c3,.slice a4 W.pt.length c4],.slice la n lc,.int .i64 k] w fun e w' => e=.returned (.bool true)/\Below w.heap.size w w' := by
 go_enter Tryz.func6,Tryz.ntmps6
 go_wp2_with fail
 refine ye (J.out _ (zaa w _)) ?_;rintro e w1 ⟨O,T,U,b3,b4,sa,d0,d1,d2,d3,d4,sc,rfl,D⟩;have F:Hid (Below w.heap.size w w1):=(zaa w _).trans (D.mono (by simp));clear D J
 go_wp2_with fail
 refine ye (M.out _) ?_;rintro e w2 ⟨rfl,D⟩;have I:Hid (Below w.heap.size w w2):=(F.out.trans ((zaa w1 _).mono F.out.size)).trans (D.mono (by have:=F.out.size;simp;omega));clear D
 go_wp2_with fail
 refine ye (M.out _) ?_;rintro e w3 ⟨rfl,D⟩;have B3:Hid (Below w.heap.size w w3):=I.out.trans (D.mono I.out.size);clear D
 go_wp2
 go_ret;exact⟨rfl,B3.out⟩
theorem znC{X:Nat->Prop}{w V:World}{A:WA}{W:Wl}(h:zeY w A W)(E:Below w.heap.size w V)(D:∀ b,X b->w.heap.size<=b):ziv X V A W:=(St.new (zAI h) D).off (zaq.of_below E)
theorem zwP(hR:zhr)(hS:zli)(W:Wl)(L:List (Int × Bool))(n:Nat)(hn:L.length=n)(k:Int)(a0 a1 a2 a3 a4 la:Option Addr)(c0 c1 c2 c3 c4 lc:Nat)(w:World)(hE:zcT W L=0)
  (DT:Hid (∀ V:World,yM 9 #[] V fun e w' => e=.returned (.bool true)/\Below V.heap.size V w'))
  (hC:WlC ⟨a0,a1,a2,a3,a4,c0,c1,c2,c3,c4⟩ W) (hW:zeY w ⟨a0,a1,a2,a3,a4,c0,c1,c2,c3,c4⟩ W) (hL:SlA la n lc) (hP:zdp w la L) :
  yM 6 #[.agg #[.slice a0 W.fs.length c0,.slice a1 W.rs.length c1,.slice a2 W.ps.length c2,.slice a3 W.qs.length c3,.slice a4 W.pt.length c4],.slice la n lc,.int .i64 k] w fun e w' => e=.returned (.bool true)/\Below w.heap.size w w' := by
 obtain⟨H,hl,_,_⟩:=zcp hE;obtain⟨kk,i8,g7⟩:=zzx k (n+1) (by omega) (by omega);obtain⟨t1,t2,t3,t4,t5⟩:=zxp hE kk;obtain⟨q1,j5,g9⟩:=zBa la n kk lc (by omega) hL;obtain⟨j7,q2,j6,h6,e3⟩:=zBm la L n kk lc hn (by omega) hL
 have l1:(zer W (L.take kk)).length=kk:=by
  rw[(zcp t1).2.2.2,zhf,List.length_take];omega
 have l2:(zer (zck W (L.take kk)) (L.drop kk)).length=n-kk:=by
  rw[(zcp t3).2.2.2,zhf,List.length_drop,hn]
 have l0:(zer W L).length=n:=by
  rw[(zcp hE).2.2.2,zhf,hn]
 have BW:zpi W:=zeq H;have BY:zpi (zck W (L.take kk)):=zeq t2;have BZ:zpi (zck W L):=by rw[(zcp hE).2.2.1];exact zeq (zfU _ H).1
 obtain⟨Z,hZ⟩:∃ Z,zck W L=Z:=⟨_,rfl⟩;obtain⟨Y,hY⟩:∃ Y,zck W (L.take kk)=Y:=⟨_,rfl⟩;obtain⟨S,d5⟩:∃ S,zer W L=S:=⟨_,rfl⟩;obtain⟨S1,c8⟩:∃ S1,zer W (L.take kk)=S1:=⟨_,rfl⟩;rw[hY] at t2 t3 t4 t5 BY l2;obtain⟨S2,c9⟩:∃ S2,zer Y (L.drop kk)=S2:=⟨_,rfl⟩;rw[d5,c8,c9] at t5;rw[hZ] at t4 BZ;rw[d5] at l0;rw[c8] at l1;rw[c9] at l2;have T5:Hid (S=S1++S2):=t5;have N1:Hid (S1.length=kk):=l1;have N2:Hid (S2.length=n-kk):=l2;have N0:Hid (S.length=n):=l0;have j8:Hid _:=e3;have HP:Hid (zdp w la L):=hP;have HW:Hid (zeY w ⟨a0,a1,a2,a3,a4,c0,c1,c2,c3,c4⟩ W):=hW;have g8:((n:Int)+1)=((n+1:Nat):Int):=by omega
 have AT:Hid (∀ w:World,yM 11 #[.int .i64 k,.int .i64 ((n:Int)+1)] w fun e w' => e=.returned (.int .i64 (kk:Int))/\w' = w):=by rw[g8];exact g7
 have D1:Hid (∀ V,Below w.heap.size w V->yM 20 #[.agg #[.slice a0 W.fs.length c0,.slice a1 W.rs.length c1,.slice a2 W.ps.length c2,.slice a3 W.qs.length c3,.slice a4 W.pt.length c4],.slice la n lc] V fun e w' => ∃ (b0 b1 b2 b3 b4 sa:Option Addr) (d0 d1 d2 d3 d4 sc:Nat),e=.returned (.tuple #[.agg #[.slice b0 Z.fs.length d0,.slice b1 Z.rs.length d1,.slice b2 Z.ps.length d2,.slice b3 Z.qs.length d3,.slice b4 Z.pt.length d4],.slice sa n sc,.int .i64 0])/\Below V.heap.size V w' /\ WlC ⟨b0,b1,b2,b3,b4,d0,d1,d2,d3,d4⟩ Z/\ziv (fun _=>False) w' ⟨b0,b1,b2,b3,b4,d0,d1,d2,d3,d4⟩ Z/\St (fun _=>False) (fun w=>zaj w sa S) w'):=fun V hV=>zpX hR (fun _=>False) BW (by omega) hE hZ d5 hn l0 (fun _ h=>h.elim) hC (znC hW hV (fun _ h=>h.elim)) hL (hP.below hV)
 have D2:Hid (∀ (X:Nat->Prop) V,(∀ b,X b->b<V.heap.size)->Below w.heap.size w V->(∀ b,X b->w.heap.size<=b)->yM 20 #[.agg #[.slice a0 W.fs.length c0,.slice a1 W.rs.length c1,.slice a2 W.ps.length c2,.slice a3 W.qs.length c3,.slice a4 W.pt.length c4],.slice la kk q1] V fun e w' => ∃ (f0 f1 f2 f3 f4 E:Option Addr) (J g1 g2 g3 M a6:Nat),e=.returned (.tuple #[.agg #[.slice f0 Y.fs.length J,.slice f1 Y.rs.length g1,.slice f2 Y.ps.length g2,.slice f3 Y.qs.length g3,.slice f4 Y.pt.length M],.slice E kk a6,.int .i64 0])/\Below V.heap.size V w' /\ WlC ⟨f0,f1,f2,f3,f4,J,g1,g2,g3,M⟩ Y/\ziv X w' ⟨f0,f1,f2,f3,f4,J,g1,g2,g3,M⟩ Y/\St X (fun w=>zaj w E S1) w'):=fun X V hX hV i7=>zpX hR X BW (by rw[List.length_take];omega) t1 hY c8 (by rw[List.length_take];omega) l1 hX hC (znC hW hV i7) g9 ((hP.take kk).below hV)
 have D3:Hid (∀ (f0 f1 f2 f3 f4:Option Addr) (J g1 g2 g3 M:Nat) (X:Nat->Prop) V,(∀ b,X b->b<V.heap.size)->Below w.heap.size w V->WlC ⟨f0,f1,f2,f3,f4,J,g1,g2,g3,M⟩ Y->ziv X V ⟨f0,f1,f2,f3,f4,J,g1,g2,g3,M⟩ Y->yM 20 #[.agg #[.slice f0 Y.fs.length J,.slice f1 Y.rs.length g1,.slice f2 Y.ps.length g2,.slice f3 Y.qs.length g3,.slice f4 Y.pt.length M],.slice j7 (n-kk) q2] V fun e w' => ∃ (h0 h1 O T U F:Option Addr) (j0 j1 j2 j3 j4 a7:Nat),e=.returned (.tuple #[.agg #[.slice h0 Z.fs.length j0,.slice h1 Z.rs.length j1,.slice O Z.ps.length j2,.slice T Z.qs.length j3,.slice U Z.pt.length j4],.slice F (n-kk) a7,.int .i64 0])/\Below V.heap.size V w' /\ WlC ⟨h0,h1,O,T,U,j0,j1,j2,j3,j4⟩ Z/\ziv X w' ⟨h0,h1,O,T,U,j0,j1,j2,j3,j4⟩ Z/\St X (fun w=>zaj w F S2) w'):=fun f0 f1 f2 f3 f4 J g1 g2 g3 M X V hX hV hc hw=>zpX hR X BY (by rw[List.length_drop];omega) t3 t4 c9 (by rw[List.length_drop,hn]) l2 hX hc hw h6 (e3 V (hP.below hV))
 have DS:Hid (∀ (b0 b1 b2 b3 b4:Option Addr) (d0 d1 d2 d3 d4:Nat) (h0 h1 O T U:Option Addr) (j0 j1 j2 j3 j4:Nat) V,zeY V ⟨b0,b1,b2,b3,b4,d0,d1,d2,d3,d4⟩ Z->zeY V ⟨h0,h1,O,T,U,j0,j1,j2,j3,j4⟩ Z->yM 21 #[.agg #[.slice b0 Z.fs.length d0,.slice b1 Z.rs.length d1,.slice b2 Z.ps.length d2,.slice b3 Z.qs.length d3,.slice b4 Z.pt.length d4],.agg #[.slice h0 Z.fs.length j0,.slice h1 Z.rs.length j1,.slice O Z.ps.length j2,.slice T Z.qs.length j3,.slice U Z.pt.length j4]] V fun e w' => e=.returned (.bool true)/\Below V.heap.size V w'):=fun b0 b1 b2 b3 b4 d0 d1 d2 d3 d4 h0 h1 O T U j0 j1 j2 j3 j4 V y1 y2=>(hS ⟨b0,b1,b2,b3,b4,d0,d1,d2,d3,d4⟩ ⟨h0,h1,O,T,U,j0,j1,j2,j3,j4⟩ Z Z V BZ y1 y2).mono fun e w' ⟨r,he,hb,hr⟩=>⟨by rw[he,hr.2 rfl],hb⟩;have k0:kk<=n:=by omega
 have i9:n<=120:=by omega
 clear g7 g8 hR hS hE t1 t2 t3 t4 t5 g9 h6 e3 l0 l1 l2 BW BY BZ hZ hY d5 c8 c9 H hC hW hP hL i8 hn hl;have wn:IntKind.i64.wrap ((n:Int)+1)=(n:Int)+1:=by rw[yI];omega
 go_enter Tryz.func6,Tryz.ntmps6
 go_wp2_with fail
 refine ye (D1.out _ (zaa w _)) ?_;rintro e w1 ⟨b0,b1,b2,b3,b4,sa,d0,d1,d2,d3,d4,sc,rfl,hb,hc,hw,hi⟩;have B1:Hid (Below (w.heap.size+1) (w.alloc (.cells #[.slice a0 W.fs.length c0,.slice a1 W.rs.length c1,.slice a2 W.ps.length c2,.slice a3 W.qs.length c3,.slice a4 W.pt.length c4] 28)) w1):=(show Below _ _ _ from by simpa using hb);have HZ:Hid (zeY w1 ⟨b0,b1,b2,b3,b4,d0,d1,d2,d3,d4⟩ Z):=hw.at;have HI:Hid (zaj w1 sa S):=hi.at;have h7:w.heap.size<w1.heap.size:=by have:=hb.size;simp at this;omega
 clear hb hc hw hi D1
 go_wp2_with fail
 refine ye (DT.out _) ?_;rintro e D ⟨rfl,hb⟩;have K3:Hid (D.heap[w.heap.size]?=some (.cells #[.slice a0 W.fs.length c0,.slice a1 W.rs.length c1,.slice a2 W.ps.length c2,.slice a3 W.qs.length c3,.slice a4 W.pt.length c4] 28 (0,0))):=zaA (zaA ((B1.out.block _ (by omega)).trans (yL w _)) (zaa w1 _)) hb;have K7:Hid (D.heap[w1.heap.size]?=some (.cells #[.slice b0 Z.fs.length d0,.slice b1 Z.rs.length d1,.slice b2 Z.ps.length d2,.slice b3 Z.qs.length d3,.slice b4 Z.pt.length d4] 28 (0,0))):=zaA (yL w1 _) hb;have c7:Hid (Below w1.heap.size w1 D):=(zaa w1 _).trans (hb.mono (by simp));have B2:Hid (Below w.heap.size w D):=((zaa w _).trans (B1.out.mono (by omega))).trans (c7.out.mono (by omega));have g6:Hid (zeY D ⟨b0,b1,b2,b3,b4,d0,d1,d2,d3,d4⟩ Z):=HZ.out.below c7.out;have g5:Hid (zaj D sa S):=HI.out.below c7.out;clear hb HZ HI B1 c7 DT h7;obtain⟨b7,e2⟩:∃ b7,w1.heap.size=b7:=⟨_,rfl⟩;rw[e2] at K7;rw[e2];clear e2;obtain⟨p0,p1,p2,p3,p4,pf,pl⟩:=zbl K3.out
 go_wp2_with fail
 refine ye (AT.out _) ?_;rintro e w3 ⟨rfl,h8⟩;have h9:=h8.symm;clear h8;subst h9
 go_upto_region 5 with fail
 have X3:Hid (∀ V,Below D.heap.size D V->Below w.heap.size w V):=fun V hV=>B2.out.trans (hV.mono B2.out.size);have sw:¬ D.heap.size=w.heap.size:=by omega
 have e5:¬ w.heap.size=D.heap.size:=by omega
 go_cut [9,10,11] (fun s9 s10 s11 wx=>∃ (bb:Nat) (f0 f1 f2 f3 f4 E:Option Addr) (J g1 g2 g3 M a6:Nat),s10=.pointer (some ⟨bb,0,none⟩)/\s9=.int .i64 0/\s11=.slice E kk a6/\Hid (Below D.heap.size D wx/\D.heap.size<=bb/\wx.heap[bb]?=some (.cells #[.slice f0 Y.fs.length J,.slice f1 Y.rs.length g1,.slice f2 Y.ps.length g2,.slice f3 Y.qs.length g3,.slice f4 Y.pt.length M] 28 (0,0))/\WlC ⟨f0,f1,f2,f3,f4,J,g1,g2,g3,M⟩ Y/\zeY wx ⟨f0,f1,f2,f3,f4,J,g1,g2,g3,M⟩ Y/\zaj wx E S1))
 case first =>
  go_region_held3 (fun b6=>b6.cell? ⟨w.heap.size,0,none⟩=some (.slice a0 W.fs.length c0)/\b6.cell? ⟨w.heap.size,1,none⟩=some (.slice a1 W.rs.length c1)/\b6.cell? ⟨w.heap.size,2,none⟩=some (.slice a2 W.ps.length c2)/\b6.cell? ⟨w.heap.size,3,none⟩=some (.slice a3 W.qs.length c3)/\b6.cell? ⟨w.heap.size,4,none⟩=some (.slice a4 W.pt.length c4)) (go_keep) (first|(go_at_call 20;refine ye (D2.out (fun _=>False) D.drew (fun _ h=>h.elim) (X3.out _ (yk _ _).drew) (fun _ h=>h.elim)) ?_;rintro e w3 ⟨f0,f1,f2,f3,f4,E,J,g1,g2,g3,M,a6,rfl,a5,a8,b5,a9⟩;have B3:Hid (Below D.heap.size D w3):=(yk D.heap.size D).drew.trans (a5.mono (by simp));have N3:Hid (St (fun c=>c=w3.heap.size) (fun w=>zeY w ⟨f0,f1,f2,f3,f4,J,g1,g2,g3,M⟩ Y) w3):=St.new b5 (fun c e=>Nat.le_of_eq e.symm);have M3:Hid (St (fun c=>c=w3.heap.size) (fun w=>zaj w E S1) w3):=St.new a9 (fun c e=>Nat.le_of_eq e.symm);have C3:Hid (WlC ⟨f0,f1,f2,f3,f4,J,g1,g2,g3,M⟩ Y):=a8;have d7:=zab p0 B3.out;have d8:=zab p1 B3.out;have d9:=zab p2 B3.out;have e0:=zab p3 B3.out;have e1:=zab p4 B3.out;clear a5 b5 a8 a9)|(go_at_call 20;refine ye (D2.out (fun c=>c=D.heap.size) (D.alloc (.cells #[.slice none 0 0,.slice none 0 0,.slice none 0 0,.slice none 0 0,.slice none 0 0] 28)).drew (fun c e=>by rw[e];simp) (X3.out _ (zaa _ _).drew) (fun c e=>by rw[e];exact B2.out.size)) ?_;rintro e w3 ⟨f0,f1,f2,f3,f4,E,J,g1,g2,g3,M,a6,rfl,a5,a8,b5,a9⟩;have B3:Hid (Below D.heap.size D w3):=(zaa D _).drew.trans (a5.mono (by simp));have N3:Hid (St (fun c=>c=D.heap.size) (fun w=>zeY w ⟨f0,f1,f2,f3,f4,J,g1,g2,g3,M⟩ Y) w3):=b5;have M3:Hid (St (fun c=>c=D.heap.size) (fun w=>zaj w E S1) w3):=a9;have C3:Hid (WlC ⟨f0,f1,f2,f3,f4,J,g1,g2,g3,M⟩ Y):=a8;have XA:Hid (w3.heap[D.heap.size]?=some (.cells #[.slice none 0 0,.slice none 0 0,.slice none 0 0,.slice none 0 0,.slice none 0 0] 28 (0,0))):=(a5.block _ (by simp)).trans (yL D _);have d7:=zab p0 B3.out;have d8:=zab p1 B3.out;have d9:=zab p2 B3.out;have e0:=zab p3 B3.out;have e1:=zab p4 B3.out;clear a5 b5 a8 a9;obtain⟨x0,x1,x2,x3,x4,xf,xl⟩:=zbl XA.out))
  all_goals first
   |(have HQ:Hid (Below D.heap.size D (set5 w3 D.heap.size (.slice f0 Y.fs.length J) (.slice f1 Y.rs.length g1) (.slice f2 Y.ps.length g2) (.slice f3 Y.qs.length g3) (.slice f4 Y.pt.length M))/\D.heap.size<=D.heap.size/\(set5 w3 D.heap.size (.slice f0 Y.fs.length J) (.slice f1 Y.rs.length g1) (.slice f2 Y.ps.length g2) (.slice f3 Y.qs.length g3) (.slice f4 Y.pt.length M)).heap[D.heap.size]?=some (.cells #[.slice f0 Y.fs.length J,.slice f1 Y.rs.length g1,.slice f2 Y.ps.length g2,.slice f3 Y.qs.length g3,.slice f4 Y.pt.length M] 28 (0,0))/\WlC ⟨f0,f1,f2,f3,f4,J,g1,g2,g3,M⟩ Y/\zeY (set5 w3 D.heap.size (.slice f0 Y.fs.length J) (.slice f1 Y.rs.length g1) (.slice f2 Y.ps.length g2) (.slice f3 Y.qs.length g3) (.slice f4 Y.pt.length M)) ⟨f0,f1,f2,f3,f4,J,g1,g2,g3,M⟩ Y/\zaj (set5 w3 D.heap.size (.slice f0 Y.fs.length J) (.slice f1 Y.rs.length g1) (.slice f2 Y.ps.length g2) (.slice f3 Y.qs.length g3) (.slice f4 Y.pt.length M)) E S1):=⟨zfE B3.out (yj _) _ _ _ _ _,yj _,ziO XA.out,C3.out,N3.out _ (zhc (X:=fun c=>c=D.heap.size) rfl),M3.out _ (zhc (X:=fun c=>c=D.heap.size) rfl)⟩
     go_wp2_with fail
     go_meet
     case rel=>exact⟨D.heap.size,f0,f1,f2,f3,f4,E,J,g1,g2,g3,M,a6,rfl,rfl,rfl,HQ⟩)
   |(have HQ:Hid (Below D.heap.size D (w3.alloc (.cells #[.slice f0 Y.fs.length J,.slice f1 Y.rs.length g1,.slice f2 Y.ps.length g2,.slice f3 Y.qs.length g3,.slice f4 Y.pt.length M] 28))/\D.heap.size<=w3.heap.size/\(w3.alloc (.cells #[.slice f0 Y.fs.length J,.slice f1 Y.rs.length g1,.slice f2 Y.ps.length g2,.slice f3 Y.qs.length g3,.slice f4 Y.pt.length M] 28)).heap[w3.heap.size]?=some (.cells #[.slice f0 Y.fs.length J,.slice f1 Y.rs.length g1,.slice f2 Y.ps.length g2,.slice f3 Y.qs.length g3,.slice f4 Y.pt.length M] 28 (0,0))/\WlC ⟨f0,f1,f2,f3,f4,J,g1,g2,g3,M⟩ Y/\zeY (w3.alloc (.cells #[.slice f0 Y.fs.length J,.slice f1 Y.rs.length g1,.slice f2 Y.ps.length g2,.slice f3 Y.qs.length g3,.slice f4 Y.pt.length M] 28)) ⟨f0,f1,f2,f3,f4,J,g1,g2,g3,M⟩ Y/\zaj (w3.alloc (.cells #[.slice f0 Y.fs.length J,.slice f1 Y.rs.length g1,.slice f2 Y.ps.length g2,.slice f3 Y.qs.length g3,.slice f4 Y.pt.length M] 28)) E S1):=⟨B3.out.alloc B3.out.size _,B3.out.size,yL w3 _,C3.out,N3.out _ (zaq.of_below (zaa w3 _)),M3.out _ (zaq.of_below (zaa w3 _))⟩
     go_wp2_with fail
     go_meet
     case rel=>exact⟨w3.heap.size,f0,f1,f2,f3,f4,E,J,g1,g2,g3,M,a6,rfl,rfl,rfl,HQ⟩)
 case rest =>
 obtain⟨b8,f0,f1,f2,f3,f4,E,J,g1,g2,g3,M,a6,rfl,rfl,rfl,e8⟩:=hcut;obtain⟨I,e4⟩:∃ I,wc=I:=⟨_,rfl⟩;subst e4;obtain⟨B5,l5,x5,c5,y5,i5⟩:=e8.out;have d6:Hid (Below D.heap.size D wc):=B5;have X5:Hid _:=x5;have C5:Hid (WlC ⟨f0,f1,f2,f3,f4,J,g1,g2,g3,M⟩ Y):=c5;have Y5:Hid (zeY wc ⟨f0,f1,f2,f3,f4,J,g1,g2,g3,M⟩ Y):=y5;have I5:Hid (zaj wc E S1):=i5;have e6:Hid (Below w.heap.size w wc):=B2.out.trans (B5.mono B2.out.size);clear B5 x5 c5 y5 i5 e8 p0 p1 p2 p3 p4 pf pl sw e5 X3 D2 K3;obtain⟨p0,p1,p2,p3,p4,pf,pl⟩:=zbl X5.out;obtain⟨I,e4⟩:∃ I,I=wc:=⟨_,rfl⟩;subst e4
 go_upto_region 6 with fail
 have sw:¬ I.heap.size=b8:=by omega
 have e5:¬ b8=I.heap.size:=by omega
 have X3:Hid (∀ V,Below I.heap.size I V->Below w.heap.size w V):=fun V hV=>e6.out.trans (hV.mono e6.out.size)
 go_cut [12,13,14] (fun s12 s13 s14 wx=>∃ (bb:Nat) (h0 h1 O T U F:Option Addr) (j0 j1 j2 j3 j4 a7:Nat),s12=.pointer (some ⟨bb,0,none⟩)/\s14=.int .i64 0/\s13=.slice F (n-kk) a7/\Hid (Below I.heap.size I wx/\I.heap.size<=bb/\wx.heap[bb]?=some (.cells #[.slice h0 Z.fs.length j0,.slice h1 Z.rs.length j1,.slice O Z.ps.length j2,.slice T Z.qs.length j3,.slice U Z.pt.length j4] 28 (0,0))/\WlC ⟨h0,h1,O,T,U,j0,j1,j2,j3,j4⟩ Z/\zeY wx ⟨h0,h1,O,T,U,j0,j1,j2,j3,j4⟩ Z/\zaj wx F S2))
 case first =>
  go_region_held3 (fun b6=>b6.cell? ⟨b8,0,none⟩=some (.slice f0 Y.fs.length J)/\b6.cell? ⟨b8,1,none⟩=some (.slice f1 Y.rs.length g1)/\b6.cell? ⟨b8,2,none⟩=some (.slice f2 Y.ps.length g2)/\b6.cell? ⟨b8,3,none⟩=some (.slice f3 Y.qs.length g3)/\b6.cell? ⟨b8,4,none⟩=some (.slice f4 Y.pt.length M)) (go_keep) (first|(go_at_call 20;refine ye (D3.out f0 f1 f2 f3 f4 J g1 g2 g3 M (fun _=>False) I.drew (fun _ h=>h.elim) (X3.out _ (yk _ _).drew) C5.out (znC Y5.out (yk _ _).drew (fun _ h=>h.elim))) ?_;rintro e w3 ⟨h0,h1,O,T,U,F,j0,j1,j2,j3,j4,a7,rfl,a5,a8,b5,a9⟩;have B3:Hid (Below I.heap.size I w3):=(yk I.heap.size I).drew.trans (a5.mono (by simp));have N3:Hid (St (fun c=>c=w3.heap.size) (fun w=>zeY w ⟨h0,h1,O,T,U,j0,j1,j2,j3,j4⟩ Z) w3):=St.new b5 (fun c e=>Nat.le_of_eq e.symm);have M3:Hid (St (fun c=>c=w3.heap.size) (fun w=>zaj w F S2) w3):=St.new a9 (fun c e=>Nat.le_of_eq e.symm);have C3:Hid (WlC ⟨h0,h1,O,T,U,j0,j1,j2,j3,j4⟩ Z):=a8;have d7:=zab p0 B3.out;have d8:=zab p1 B3.out;have d9:=zab p2 B3.out;have e0:=zab p3 B3.out;have e1:=zab p4 B3.out;clear a5 b5 a8 a9)|(go_at_call 20;refine ye (D3.out f0 f1 f2 f3 f4 J g1 g2 g3 M (fun c=>c=I.heap.size) (I.alloc (.cells #[.slice none 0 0,.slice none 0 0,.slice none 0 0,.slice none 0 0,.slice none 0 0] 28)).drew (fun c e=>by rw[e];simp) (X3.out _ (zaa _ _).drew) C5.out (znC Y5.out (zaa _ _).drew (fun c e=>Nat.le_of_eq e.symm))) ?_;rintro e w3 ⟨h0,h1,O,T,U,F,j0,j1,j2,j3,j4,a7,rfl,a5,a8,b5,a9⟩;have B3:Hid (Below I.heap.size I w3):=(zaa I _).drew.trans (a5.mono (by simp));have N3:Hid (St (fun c=>c=I.heap.size) (fun w=>zeY w ⟨h0,h1,O,T,U,j0,j1,j2,j3,j4⟩ Z) w3):=b5;have M3:Hid (St (fun c=>c=I.heap.size) (fun w=>zaj w F S2) w3):=a9;have C3:Hid (WlC ⟨h0,h1,O,T,U,j0,j1,j2,j3,j4⟩ Z):=a8;have XA:Hid (w3.heap[I.heap.size]?=some (.cells #[.slice none 0 0,.slice none 0 0,.slice none 0 0,.slice none 0 0,.slice none 0 0] 28 (0,0))):=(a5.block _ (by simp)).trans (yL I _);have d7:=zab p0 B3.out;have d8:=zab p1 B3.out;have d9:=zab p2 B3.out;have e0:=zab p3 B3.out;have e1:=zab p4 B3.out;clear a5 b5 a8 a9;obtain⟨x0,x1,x2,x3,x4,xf,xl⟩:=zbl XA.out))
  all_goals first
   |(have HQ:Hid (Below I.heap.size I (set5 w3 I.heap.size (.slice h0 Z.fs.length j0) (.slice h1 Z.rs.length j1) (.slice O Z.ps.length j2) (.slice T Z.qs.length j3) (.slice U Z.pt.length j4))/\I.heap.size<=I.heap.size/\(set5 w3 I.heap.size (.slice h0 Z.fs.length j0) (.slice h1 Z.rs.length j1) (.slice O Z.ps.length j2) (.slice T Z.qs.length j3) (.slice U Z.pt.length j4)).heap[I.heap.size]?=some (.cells #[.slice h0 Z.fs.length j0,.slice h1 Z.rs.length j1,.slice O Z.ps.length j2,.slice T Z.qs.length j3,.slice U Z.pt.length j4] 28 (0,0))/\WlC ⟨h0,h1,O,T,U,j0,j1,j2,j3,j4⟩ Z/\zeY (set5 w3 I.heap.size (.slice h0 Z.fs.length j0) (.slice h1 Z.rs.length j1) (.slice O Z.ps.length j2) (.slice T Z.qs.length j3) (.slice U Z.pt.length j4)) ⟨h0,h1,O,T,U,j0,j1,j2,j3,j4⟩ Z/\zaj (set5 w3 I.heap.size (.slice h0 Z.fs.length j0) (.slice h1 Z.rs.length j1) (.slice O Z.ps.length j2) (.slice T Z.qs.length j3) (.slice U Z.pt.length j4)) F S2):=⟨zfE B3.out (yj _) _ _ _ _ _,yj _,ziO XA.out,C3.out,N3.out _ (zhc (X:=fun c=>c=I.heap.size) rfl),M3.out _ (zhc (X:=fun c=>c=I.heap.size) rfl)⟩
     go_wp2_with fail
     go_meet
     case rel=>exact⟨I.heap.size,h0,h1,O,T,U,F,j0,j1,j2,j3,j4,a7,rfl,rfl,rfl,HQ⟩)
   |(have HQ:Hid (Below I.heap.size I (w3.alloc (.cells #[.slice h0 Z.fs.length j0,.slice h1 Z.rs.length j1,.slice O Z.ps.length j2,.slice T Z.qs.length j3,.slice U Z.pt.length j4] 28))/\I.heap.size<=w3.heap.size/\(w3.alloc (.cells #[.slice h0 Z.fs.length j0,.slice h1 Z.rs.length j1,.slice O Z.ps.length j2,.slice T Z.qs.length j3,.slice U Z.pt.length j4] 28)).heap[w3.heap.size]?=some (.cells #[.slice h0 Z.fs.length j0,.slice h1 Z.rs.length j1,.slice O Z.ps.length j2,.slice T Z.qs.length j3,.slice U Z.pt.length j4] 28 (0,0))/\WlC ⟨h0,h1,O,T,U,j0,j1,j2,j3,j4⟩ Z/\zeY (w3.alloc (.cells #[.slice h0 Z.fs.length j0,.slice h1 Z.rs.length j1,.slice O Z.ps.length j2,.slice T Z.qs.length j3,.slice U Z.pt.length j4] 28)) ⟨h0,h1,O,T,U,j0,j1,j2,j3,j4⟩ Z/\zaj (w3.alloc (.cells #[.slice h0 Z.fs.length j0,.slice h1 Z.rs.length j1,.slice O Z.ps.length j2,.slice T Z.qs.length j3,.slice U Z.pt.length j4] 28)) F S2):=⟨B3.out.alloc B3.out.size _,B3.out.size,yL w3 _,C3.out,N3.out _ (zaq.of_below (zaa w3 _)),M3.out _ (zaq.of_below (zaa w3 _))⟩
     go_wp2_with fail
     go_meet
     case rel=>exact⟨w3.heap.size,h0,h1,O,T,U,F,j0,j1,j2,j3,j4,a7,rfl,rfl,rfl,HQ⟩)
 case rest =>
 obtain⟨j9,h0,h1,O,T,U,F,j0,j1,j2,j3,j4,a7,rfl,rfl,rfl,e9⟩:=hcut;obtain⟨B6,l6,x6,c6,y6,i6⟩:=e9.out;have i0:Hid (Below I.heap.size I wc):=B6;have b9:Hid (Below D.heap.size D wc):=d6.out.trans (B6.mono d6.out.size);have X6:Hid _:=x6;have Y6:Hid (zeY wc ⟨h0,h1,O,T,U,j0,j1,j2,j3,j4⟩ Z):=y6;have I6:Hid (zaj wc F S2):=i6;have i3:Hid (zaj wc E S1):=I5.out.below B6;have i2:Hid (zeY wc ⟨b0,b1,b2,b3,b4,d0,d1,d2,d3,d4⟩ Z):=g6.out.below b9.out;have i1:Hid (zaj wc sa S):=g5.out.below b9.out;have i4:Hid (wc.heap[b7]?=some (.cells #[.slice b0 Z.fs.length d0,.slice b1 Z.rs.length d1,.slice b2 Z.ps.length d2,.slice b3 Z.qs.length d3,.slice b4 Z.pt.length d4] 28 (0,0))):=zaA K7.out b9.out;have e7:Hid (Below w.heap.size w wc):=B2.out.trans (b9.out.mono B2.out.size);clear B6 x6 c6 y6 i6 e9 p0 p1 p2 p3 p4 pf pl sw e5 X3 D3 K7 g6 g5 d6 b9 I5 C5 Y5 X5 i0 l6 l5 j5 j6;obtain⟨p0,p1,p2,p3,p4,pf,pl⟩:=zbl X6.out;obtain⟨r0,r1,r2,r3,r4,rf,rl⟩:=zbl i4.out
 have CC:Hid (∀ (E F:Option Addr) (a6 a7 vb:Nat) (V:World),V.cell? ⟨vb,0,none⟩=some (.slice E kk a6)->V.cell? ⟨vb,1,none⟩=some (.slice F (n-kk) a7)->zaj V E S1->zaj V F S2->yM 23 #[.slice (some ⟨vb,0,none⟩) 2 2] V fun e w' => ∃ (ra:Option Addr) (rc:Nat),e=.returned (.slice ra n rc)/\Below V.heap.size V w' /\ zaj w' ra S):=fun E F a6 a7 vb V y1 y2 y3 y4=>by
  have h:=zob E F a6 a7 vb S1 S2 V (by rw[N1.out];omega) (by rw[N2.out];omega) (by rw[N1.out];exact y1) (by rw[N2.out];exact y2) y3 y4;rw[<- T5.out,N0.out] at h;exact h
 clear N1 N2 T5
 go_wp2_with fail
 refine ye (DS.out b0 b1 b2 b3 b4 d0 d1 d2 d3 d4 h0 h1 O T U j0 j1 j2 j3 j4 _ i2.out Y6.out) ?_;rintro e w7 ⟨rfl,hb⟩;have B7:Hid (Below wc.heap.size wc w7):=hb;clear hb
 go_wp2_with fail
 refine ye (CC.out E F a6 a7 w7.heap.size _ (zad _ _ _ _ rfl) (zad _ _ _ _ rfl) ((i3.out.below B7.out).below (zaa _ _)) ((I6.out.below B7.out).below (zaa _ _))) ?_;rintro e w8 ⟨ra,rc,rfl,hb,hi⟩;have B8:Hid (Below wc.heap.size wc w8):=(B7.out.trans ((zaa w7 _).mono B7.out.size)).trans (hb.mono (by have:=B7.out.size;simp;omega));have I8:Hid (zaj w8 ra S):=hi;clear hb hi
 go_wp2_with fail
 refine ye (zsV (ks:=S) N0.out (by rw[N0.out];omega) (i1.out.below B8.out) I8.out) ?_;rintro e w9 ⟨rfl,hb⟩;have B9:Hid (Below wc.heap.size wc w9):=B8.out.trans (hb.mono B8.out.size);clear hb
 go_wp2
 go_ret;exact⟨rfl,e7.out.trans (B9.out.mono e7.out.size)⟩
theorem zlI(hN:zpj)(I:zhr)(hS:zli)(A:WA)(W:Wl)(D:Option Addr)(F:Nat)(L:List (Int × Bool))(k:Int)(w:World)(hB:zpi W)(M:WlC A W)(Z:zeY w A W)(E:SlA D L.length F)(T:zdp w D L) :
  yM 6 #[wlV A W,.slice D L.length F,.int .i64 k] w fun e w' => e=.returned (.bool true)/\Below w.heap.size w w' := by
 obtain⟨a0,a1,a2,a3,a4,c0,c1,c2,c3,c4⟩:=A;have J:Hid (∀ V:World,yM 9 #[] V fun e w' => e=.returned (.bool true)/\Below V.heap.size V w'):=fun V=>zuY hN I V;have hl:L.length<=9223372036854775807:=yH E.2.1 E.2.2;by_cases O:zcT W L=0
 ·exact zwP I hS W L L.length rfl k a0 a1 a2 a3 a4 D c0 c1 c2 c3 c4 F w O J M Z E T
 ·exact zuj W L L.length _ _ _ k a0 a1 a2 a3 a4 D c0 c1 c2 c3 c4 F w O J (fun V U=>(zpX I (fun _=>False) hB hl rfl rfl rfl rfl rfl (fun _ h=>h.elim) M (znC Z U (fun _ h=>h.elim)) E (T.below U)).mono fun e w' ⟨b0,b1,b2,b3,b4,sa,d0,d1,d2,d3,d4,sc,h1,h2,_⟩=>⟨b0,b1,b2,b3,b4,sa,d0,d1,d2,d3,d4,sc,h1,h2⟩)
def hcF(hs:List (Int × Int)):Nat->Value:=fun j=>.int .i64 (if j % 2=0 then (hs.getD (j / 2) (0,0)).1 else (hs.getD (j / 2) (0,0)).2)
theorem zzR(hs:List (Int × Int))(i:Nat):hcF hs (i*2)=.int .i64 (hs.getD i (0,0)).1:=by
 unfold hcF;rw[yb (by omega),show i*2 / 2=i by omega]
theorem zzS(hs:List (Int × Int))(i:Nat):hcF hs (i*2+1)=.int .i64 (hs.getD i (0,0)).2:=by
 unfold hcF;rw[ya (by omega),show (i*2+1) / 2=i by omega]
theorem zfl{w:World}{h:Nat}{hs:List (Int × Int)}(D:w.rowIs h 61 (hs.length*2) (hcF hs)):zas w (some ⟨h,0,none⟩) hs:=fun i hi=>by
 refine⟨h,0,rfl,?_,?_⟩
 ·rw[yB,D.cell (by omega),zzR]
 ·rw[yB,D.cell (by omega),zzS]
theorem zyA(hs:List (Int × Int))(k:Nat)(x:Int × Int)(E:k<hs.length):(fun j=>if j=k*2+1 then Value.int .i64 x.2 else if j=k*2 then Value.int .i64 x.1 else hcF hs j)=hcF (hs.set k x):=by
 have key:∀ i,(hs.set k x).getD i (0,0)=if i=k then x else hs.getD i (0,0):=fun i=>by
  by_cases e:i=k
  ·subst e;rw[yb rfl];simp[List.getD_eq_getElem?_getD,E]
  ·rw[ya e];exact ziE _ _ _ _ _ e
 funext j
 unfold hcF;rw[key];by_cases h1:j=k*2+1
 ·subst h1;rw[yb rfl,ya (by omega),yb (by omega)]
 ·rw[ya h1];by_cases D:j=k*2
  ·subst D;rw[yb rfl,yb (by omega),yb (by omega)]
  ·rw[ya D,ya (show ¬ j / 2=k by omega)]
def zlh(w:World)(g:Nat)(X:Nat->Prop)(S:List Nd):Prop :=
 ¬ X g/\∃ F,w.rowIs g 57 (S.length*8) F/\∀ i,i<S.length->∃ kb kc,NdR w F (i*8) (nd S i) kb kc/\kb≠g/\¬ X kb
theorem zlh.off{w w' : World}{g:Nat}{X:Nat->Prop}{S:List Nd}(h:zlh w g X S)(J:zaq X w w'):zlh w' g X S:=by
 obtain⟨hg,F,E,hN⟩:=h;refine⟨hg,F,E.of_block (J.block g E.lt hg),fun i hi=>?_⟩;obtain⟨kb,kc,⟨O,T,U,Z,e4,e5,e6,e7,e8,D,G,I,e9⟩,hk,M⟩:=hN i hi;exact⟨kb,kc,⟨O,T,U,Z,e4,e5,e6,e7,e8,D,G,I.of_block (J.block kb I.lt M),e9⟩,hk,M⟩
theorem zlh.lt{w:World}{g:Nat}{X:Nat->Prop}{S:List Nd}(h:zlh w g X S):g<w.heap.size:=by
 obtain⟨_,F,D,_⟩:=h;exact D.lt
theorem zlh.grow{w:World}{g:Nat}{X Y:Nat->Prop}{S:List Nd}(h:zlh w g X S)(I:∀ b,b<w.heap.size->Y b->X b):zlh w g Y S:=by
 obtain⟨hg,F,E,J⟩:=h;refine⟨fun D=>hg (I g E.lt D),F,E,fun i hi=>?_⟩;obtain⟨kb,kc,h1,M,O⟩:=J i hi;exact⟨kb,kc,h1,M,fun D=>O (I kb h1.row D)⟩
theorem zlh.nds{w:World}{g:Nat}{X:Nat->Prop}{S:List Nd}(h:zlh w g X S):zai w (some ⟨g,0,none⟩) S:=fun i hi=>by
 obtain⟨_,F,D,hN⟩:=h;obtain⟨kb,kc,⟨E,I,J,M,O,T,U,Z,e8,a5,G,hG,e9⟩,_⟩:=hN i hi;refine⟨g,0,rfl,?_⟩;rw[yB];refine⟨?_,?_,?_,?_,?_,⟨some ⟨kb,0,none⟩,kc,?_,fun j hj=>⟨kb,0,rfl,?_⟩⟩,?_,?_⟩
 ·rw[D.cell (by omega),E]
 ·rw[D.cell (by omega),I]
 ·rw[D.cell (by omega),J]
 ·rw[D.cell (by omega),M]
 ·rw[D.cell (by omega),O]
 ·rw[D.cell (by omega),T]
 ·rw[yB,hG.cell (by omega),e9 j hj]
 ·rw[D.cell (by omega),U]
 ·rw[D.cell (by omega),Z]
theorem zlh.st{w:World}{g:Nat}{X:Nat->Prop}{S:List Nd}(h:zlh w g X S):St X (fun V=>zai V (some ⟨g,0,none⟩) S) w:=fun w' D=>(h.off D).nds
theorem zlh.mark{w:World}{g:Nat}{X:Nat->Prop}{S:List Nd}{k:Nat}(h:zlh w g X S)(hk:k<S.length)(n:Int):zlh (w.setCell ⟨g,k*8+3,none⟩ (.int .i64 n)) g X (S.set k { nd S k with m:=n }):=by
 obtain⟨hg,F,hF,hN⟩:=h;refine⟨hg,_,by rw[List.length_set];exact hF.set (k*8+3) (.int .i64 n),fun i hi=>?_⟩;rw[List.length_set] at hi;obtain⟨kb,kc,⟨O,T,U,e3,Z,e5,e6,e7,J,D,G,hG,M⟩,I,hx⟩:=hN i hi;have E:=hG.setOther (a:=⟨g,k*8+3,none⟩) (by simp;omega) (.int .i64 n);refine⟨kb,kc,?_,I,hx⟩;rw[zcP S k i _ hk];by_cases e:i=k
 ·subst e;rw[yb rfl];refine⟨?_,?_,?_,?_,?_,?_,?_,?_,J,D,G,E,M⟩
  all_goals dsimp only
  ·rw[ya (by omega),O]
  ·rw[ya (by omega),T]
  ·rw[ya (by omega),U]
  ·rw[yb rfl]
  ·rw[ya (by omega),Z]
  ·rw[ya (by omega),e5]
  ·rw[ya (by omega),e6]
  ·rw[ya (by omega),e7]
 ·rw[ya e];refine⟨?_,?_,?_,?_,?_,?_,?_,?_,J,D,G,E,M⟩
  all_goals
   dsimp only;rw[ya (by omega)];assumption
def tOf(A:RA):Nat:=(A.a3.getD ⟨0,0,none⟩).block
abbrev zrU(R:Rl):Nat->Value:=fun j=>.int .i64 (R.t.getD j 0)
structure CI (w:World) (R:Rl) (h g:Nat) (A:RA) (V:World):Prop where
 bel:Below w.heap.size w V
 h0:w.heap.size<=h
 t0:w.heap.size<=tOf A
 th:tOf A≠h
 a0:A.a0=some ⟨g,0,none⟩
 a1:A.a1=some ⟨h,0,none⟩
 a3:A.a3=some ⟨tOf A,0,none⟩
 c3:A.c3=R.t.length
 row:V.rowIs h 61 (R.hs.length*2) (hcF R.hs)
 tr:V.rowIs (tOf A) 3 R.t.length (zrU R)
 own:zlh V g (fun b=>b<w.heap.size\/b=h\/b=tOf A) R.s
 cls:St (fun b=>b<w.heap.size\/b=h\/b=tOf A\/b=g) (fun V=>zaI V A.a2 R.i) V
structure WI (w:World) (R:Rl) (d h g:Nat) (A:RA) (V:World):Prop where
 bel:Below w.heap.size w V
 d0:w.heap.size<=d
 h0:w.heap.size<=h
 t0:w.heap.size<=tOf A
 dh:h≠d
 th:tOf A≠h
 td:tOf A≠d
 a0:A.a0=some ⟨g,0,none⟩
 a1:A.a1=some ⟨h,0,none⟩
 a3:A.a3=some ⟨tOf A,0,none⟩
 c3:A.c3=R.t.length
 box:V.heap[d]?=some (bxR A R)
 row:V.rowIs h 61 (R.hs.length*2) (hcF R.hs)
 tr:V.rowIs (tOf A) 3 R.t.length (zrU R)
 own:zlh V g (fun b=>b<w.heap.size\/b=d\/b=h\/b=tOf A) R.s
 cls:St (fun b=>b<w.heap.size\/b=d\/b=h\/b=tOf A\/b=g) (fun V=>zaI V A.a2 R.i) V
theorem CI.wi{w V:World}{R:Rl}{h g:Nat}{A:RA}(I:CI w R h g A V):WI w R V.heap.size h g A (V.alloc (.cells #[.slice A.a0 R.s.length A.c0,.slice A.a1 R.hs.length A.c1,.slice A.a2 R.i.length A.c2,.slice A.a3 R.t.length A.c3] 50)):=by
 have D:=zaa V (.cells #[.slice A.a0 R.s.length A.c0,.slice A.a1 R.hs.length A.c1,.slice A.a2 R.i.length A.c2,.slice A.a3 R.t.length A.c3] 50);have hl:=I.row.lt;have tl:=I.tr.lt;exact⟨I.bel.trans (D.mono I.bel.size),I.bel.size,I.h0,I.t0,by omega,I.th,by omega,I.a0,I.a1,I.a3,I.c3,zcc _ _ _ _ _ _,I.row.of_block (D.block h hl),I.tr.of_block (D.block _ tl),(I.own.grow (fun b E F=>by omega)).off (zaq.of_below D),I.cls.grow (zaq.of_below D) (fun b E F=>by omega)⟩
theorem WI.below{w V E:World}{R:Rl}{d h g:Nat}{A:RA}(I:WI w R d h g A V)(D:Below V.heap.size V E):WI w R d h g A E :=
 ⟨I.bel.trans (D.mono I.bel.size),I.d0,I.h0,I.t0,I.dh,I.th,I.td,I.a0,I.a1,I.a3,I.c3,zaA I.box D,I.row.of_block (D.block h I.row.lt),I.tr.of_block (D.block _ I.tr.lt),I.own.off (zaq.of_below D),I.cls.off (zaq.of_below D)⟩
theorem WI.nds{w V:World}{R:Rl}{d h g:Nat}{A:RA}(I:WI w R d h g A V):zai V (some ⟨g,0,none⟩) R.s:=I.own.nds
theorem WI.gs{w V:World}{R:Rl}{d h g:Nat}{A:RA}(I:WI w R d h g A V):w.heap.size<=g/\g≠d/\h≠g/\tOf A≠g:=by
 have:=I.own.1;omega
theorem WI.base{w V:World}{R:Rl}{d h g:Nat}{A:RA}(I:WI w R d h g A V):w.heap.size<=V.heap.size/\d<V.heap.size/\h<V.heap.size/\tOf A<V.heap.size:=⟨I.bel.size,zaw I.box,I.row.lt,I.tr.lt⟩
theorem WI.hand{w V:World}{R:Rl}{d h g:Nat}{A:RA}(I:WI w R d h g A V){k:Nat}(D:k<R.hs.length):V.cell? ⟨h,k*2,none⟩=some (.int .i64 (hd R k).1)/\V.cell? ⟨h,k*2+1,none⟩=some (.int .i64 (hd R k).2):=by
 have e:hd R (k:Int)=R.hs.getD k (0,0):=by unfold hd;rw[yi]
 rw[e];exact⟨by rw[I.row.cell (by omega),zzR],by rw[I.row.cell (by omega),zzS]⟩
structure RlF (B d:Nat) (V:World) (A:RA) (R:Rl):Prop where
 a3:A.a3=some ⟨tOf A,0,none⟩
 c3:A.c3=R.t.length
 t0:B<=tOf A
 td:tOf A≠d
 tr:V.rowIs (tOf A) 3 R.t.length (zrU R)
 st:St (fun b=>b<B\/b=d\/b=tOf A) (fun V=>zai V A.a0 R.s/\zas V A.a1 R.hs/\zaI V A.a2 R.i) V
theorem RlF.off{B d:Nat}{V D:World}{A:RA}{R:Rl}(h:RlF B d V A R)(E:zaq (fun b=>b<B\/b=d) V D):RlF B d D A R :=
 ⟨h.a3,h.c3,h.t0,h.td,h.tr.of_block (E.block _ h.tr.lt (by have:=h.t0;have:=h.td;omega)),h.st.off (E.mono (fun b F=>by omega))⟩
theorem RlF.below{B d:Nat}{V D:World}{A:RA}{R:Rl}(h:RlF B d V A R)(E:Below V.heap.size V D):RlF B d D A R:=h.off (zaq.of_below E)
theorem zkK{G:List Cl}(h:zav G=0):∀ i,i<G.length->(cl G i).ks.length<=1000:=fun i hi=>by
 unfold zav at h
 split at h
 ·omega
 ·have:=zeB h i hi;unfold zeZ at this
  split at this
  ·omega
  ·split at this
   ·omega
   ·omega
def hcL(hs:List (Int × Int)):List Value:=(List.range (hs.length*2)).map (hcF hs)
theorem zos(hs:List (Int × Int)):(hcL hs).length=hs.length*2:=by simp[hcL]
theorem zzT{hs:List (Int × Int)}{j:Nat}{v:Value}(h:(hcL hs)[j]?=some v):j<hs.length*2/\v=hcF hs j:=by
 obtain⟨hl,E⟩:=List.getElem?_eq_some_iff.1 h;have D:=hl;rw[zos] at D;refine⟨D,?_⟩;rw[<- E];simp[hcL]
theorem zyB(hs:List (Int × Int)):∀ v ∈ hcL hs,v.oneCell' = true:=fun v D=>by
 obtain⟨j,_,rfl⟩:=List.mem_map.1 D;rfl
theorem ztp{w:World}{a:Option Addr}{hs:List (Int × Int)}(h:zas w a hs):∀ D,a=some D->∀ j v,(hcL hs)[j]?=some v->w.cell? (D.add j)=some v:=fun D e j v J=>by
 obtain⟨hl,rfl⟩:=zzT J;obtain⟨b,o,E,h1,I⟩:=h (j / 2) (by omega);rw[e] at E;cases E;rw[Addr.add_lit];by_cases F:j % 2=0
 ·have:j=j / 2*2:=by omega
  rw[show o+j=o+j / 2*2 by omega,h1];unfold hcF;rw[yb F]
 ·rw[show o+j=o+j / 2*2+1 by omega,I];unfold hcF;rw[ya F]
theorem zoq{w:World}{h:Nat}{hs:List (Int × Int)}(e:w.heap[h]?=some (.cells (hcL hs).toArray 61 (0,0))):w.rowIs h 61 (hs.length*2) (hcF hs):=by
 refine⟨_,e,?_,fun i hi=>?_⟩
 ·simp[zos]
 ·simp[hcL,hi]
theorem zpF{w:World}{a:Option Addr}{l:List Int}(h:zaj w a l):∀ D,a=some D->∀ j v,(l.map (Value.int .i64))[j]?=some v->w.cell? (D.add j)=some v:=fun D e j v I=>by
 obtain⟨hl,F⟩:=List.getElem?_eq_some_iff.1 I;obtain⟨b,o,E,h1⟩:=h j (by simpa using hl);rw[e] at E;cases E;rw[List.getElem_map] at F;rw[zae l 0 (by simpa using hl),F] at h1;rw[Addr.add_lit];exact h1
theorem ztx{w:World}{a:Option Addr}{l:List Int}(h:zaj w a l):a=none->l.length=0:=fun e=>by
 subst e
 cases hl:l.length with
 | zero=>rfl
 | succ n=>obtain⟨b,o,D,_⟩:=h 0 (by omega);cases D
theorem zyf(a:Option Addr)(c n:Nat)(D:List Value)(w:World)(hn:n<=100000)(hl:D.length=n*2)(E:a=none->n=0)(hsrc:∀ F,a=some F->∀ j u,D[j]?=some u->w.cell? (F.add j)=some u)(h1:∀ u ∈ D,u.oneCell' = true) :
  yM 103 #[.slice a n c] w fun e w' => e=.returned (.slice (some ⟨w.heap.size,0,none⟩) n n)/\Below w.heap.size w w' /\ w'.heap[w.heap.size]?=some (.cells D.toArray 61 (0,0)):=by
 have hz:(Tryz.prog.info? 61).map (fun i=>(i.zero,i.size,i.bytes))=some (some (.agg #[.int .i64 0,.int .i64 0]),2,16):=by kernel_rfl
 obtain⟨i0,J,a8,O,a9⟩:=info_parts hz
 have b0:∀ w:World,(Instr.makeSlice 44 (.int .i64 (n:Int)) (.int .i64 (n:Int))).run Tryz.prog w=.ok (.slice (some ⟨w.heap.size,0,none⟩) n n) (w.alloc (.cells (madeCells #[.int .i64 0,.int .i64 0] (n*2)) 61)):=fun w=>by
  have h:=run_make (P:=Tryz.prog) w 44 61 i0 _ Tryz.underlying44 J a8 .i64 .i64 n n (by omega) (by omega) (by rw[a9];omega) (by omega);rw[O] at h;simp only[yi] at h;exact h
 have HG:Hid ((w.alloc (.cells (madeCells #[.int .i64 0,.int .i64 0] (n*2)) 61)).heap[w.heap.size]?=some (.cells (madeCells #[.int .i64 0,.int .i64 0] (n*2)).toList.toArray 61 (0,0))):=by
  have:=yL w (.cells (madeCells #[.int .i64 0,.int .i64 0] (n*2)) 61);show _=_;simpa using this
 have a7:Hid (∀ o1:Obj,∀ F,a=some F->∀ j u,D[j]?=some u->(w.alloc o1).cell? (F.add j)=some u):=fun o1 F e j u hj=>by
  have h1:=hsrc F e j u hj;exact((zaa w o1).cell (yd _ _ h1)).trans h1
 have a5:Hid (a=none->n=0):=E;have a6:Hid (∀ u ∈ D,u.oneCell' = true):=h1;have Z:Hid (D.length=n*2):=hl;clear hsrc E h1 hl
 go_enter Tryz.func103,Tryz.ntmps103
 go_wp2_with (refine zcX rfl (.tmp 7) (.tmp 8) 44 44 rfl 61 i0 2 Tryz.underlying44 J O w.heap.size n n a c rfl rfl (madeCells #[.int .i64 0,.int .i64 0] (n*2)).toList 61 HG.out D Z.out (by simp[size_madeCells]) a5.out (a7.out _) a6.out ?_)
 intro w3 M I;have T:Hid (Below w.heap.size w w3):=I.out _ _ (zaa _ _) (yj _);have U:Hid _:=M;clear M I
 go_wp2
 go_ret;exact⟨rfl,T.out,U.out⟩
theorem zBg{w:World}{B g:Nat}{S:List Nd}{kb kc:Nat->Nat}(h:Own w B g S kb kc S.length):zlh w g (fun b=>b<B) S:=by
 obtain⟨h0,F,D,E,hg,_⟩:=h;exact⟨by omega,F,D,fun i hi=>⟨kb i,kc i,E i hi,by have:=hg i hi;omega,by have:=hg i hi;omega⟩⟩
theorem zAU{w V E F D O X:World}{R:Rl}{g gg z:Nat}{kb kc:Nat->Nat}(c0 c1 c2:Nat)(bV:Below w.heap.size w V)(b3:Below V.heap.size V E)(o3:Own E V.heap.size g R.s kb kc R.s.length)(Z:Below E.heap.size E F)(hr:F.heap[E.heap.size]?=some (.cells (hcL R.hs).toArray 61 (0,0)))
  (T:Below F.heap.size F D) (c5:St (fun b=>b<F.heap.size\/D.heap.size<=b) (fun V=>zaI V (some ⟨gg,0,none⟩) R.i) D) (J:Below D.heap.size D O) (tr:O.rowIs D.heap.size 3 R.t.length (zrU R)) (zl:z<V.heap.size) (M:zaq (fun b=>b=z) O X) (bX:Below w.heap.size w X) :
  CI w R E.heap.size g ⟨some ⟨g,0,none⟩,some ⟨E.heap.size,0,none⟩,some ⟨gg,0,none⟩,some ⟨D.heap.size,0,none⟩,c0,c1,c2,R.t.length⟩ X:=by
 have hl:=zaw hr;have tl:=tr.lt;have sV:=bV.size;have s3:=b3.size;have s4:=Z.size;have s5:=T.size;have s6:=J.size;have U:=zBg o3;have gl:=U.lt;have hg:=U.1;have oX:zlh X g (fun b=>b<V.heap.size\/b=E.heap.size\/b=D.heap.size) R.s:=((((U.grow (Y:=fun b=>b<V.heap.size\/b=E.heap.size\/b=D.heap.size) (fun b I hy=>by omega)).off (zaq.of_below Z)).off (zaq.of_below T)).off (zaq.of_below J)).off (M.mono (fun b I=>Or.inl (by have:b=z:=I;omega)));refine⟨bX,by omega,(show w.heap.size<=D.heap.size by omega),(show D.heap.size≠E.heap.size by omega),rfl,rfl,rfl,rfl,zoq ?_,tr.of_block (M.block _ tl (by show ¬ D.heap.size=z;omega)),oX.grow (fun b _ hy=>?_),(St.off (X:=fun b=>b<F.heap.size\/D.heap.size<=b) (c5.off (zaq.of_below J)) (M.mono (fun b I=>Or.inl (by have:b=z:=I;omega)))).less (fun b I=>?_)⟩
 ·exact(M.block _ (by omega) (by show ¬ E.heap.size=z;omega)).trans (zaA (zaA hr T) J)
 ·have:b<w.heap.size\/b=E.heap.size\/b=D.heap.size:=hy;omega
 ·have:b<w.heap.size\/b=E.heap.size\/b=D.heap.size\/b=g:=I;omega
theorem zkF(A:RA)(R:Rl)(w:World)(hR:zaF R=0)(hW:zcZ w A R) :
  yM 73 #[rlV A R] w fun e w' => ∃ (B:RA) (h g:Nat),e=.returned (rlV B R)/\CI w R h g B w' := by
 obtain⟨a0,a1,a2,a3,c0,c1,c2,c3⟩:=A;obtain⟨wf,hl,b0,ht⟩:=zaB hR;have d5:=zdj b0;obtain⟨w0,w1,w2,w3⟩:=hW;have D0:Hid (∀ W,Below w.heap.size w W->_):=fun W hW=>YtcbcpomacdngmaaGreat.copy_any a0 c0 R.s W wf.small (zdw wf) (w0.below hW);have D1:Hid (∀ W,Below w.heap.size w W->_):=fun W hW=>zyf a1 c1 R.hs.length (hcL R.hs) W (by omega) (zos _) (fun e=>by obtain⟨b,o,e2,_⟩:=w1 0 (by omega);rw[e] at e2;cases e2) (ztp (w1.below hW)) (zyB _);have D2:Hid (∀ W,Below w.heap.size w W->_):=fun W hW=>zhx a2 c2 R.i W (by omega) (zkK b0) (w2.below hW);have D3:Hid (∀ W,Below w.heap.size w W->_):=fun W hW=>zfh a3 c3 R.t W (by omega) (w3.below hW);clear w0 w1 w2 w3 d5 b0 wf hR ht;have CC:Hid (∀ (V D M E T X:World) (g gg z:Nat) (kb kc:Nat->Nat),Below w.heap.size w V->Below V.heap.size V D->Own D V.heap.size g R.s kb kc R.s.length->Below D.heap.size D M->M.heap[D.heap.size]?=some (.cells (hcL R.hs).toArray 61 (0,0))->Below M.heap.size M E->St (fun b=>b<M.heap.size\/E.heap.size<=b) (fun V=>zaI V (some ⟨gg,0,none⟩) R.i) E->Below E.heap.size E T->T.rowIs E.heap.size 3 R.t.length (zrU R)->z<V.heap.size->zaq (fun b=>b=z) T X->Below w.heap.size w X->CI w R D.heap.size g ⟨some ⟨g,0,none⟩,some ⟨D.heap.size,0,none⟩,some ⟨gg,0,none⟩,some ⟨E.heap.size,0,none⟩,R.s.length,R.hs.length,R.i.length,R.t.length⟩ X):=fun V D M E T X g gg z kb kc h1 h2 h3 h4 h5 h6 h7 h8 h9 c7 c8 c9=>zAU _ _ _ h1 h2 h3 h4 h5 h6 h7 h8 h9 c7 c8 c9;dsimp only[rlV];obtain⟨O,b6⟩:∃ n,R.s.length=n:=⟨_,rfl⟩;obtain⟨U,b4⟩:∃ n,R.hs.length=n:=⟨_,rfl⟩
 obtain⟨Z,b5⟩:∃ n,R.i.length=n:=⟨_,rfl⟩;obtain⟨nt,b7⟩:∃ n,R.t.length=n:=⟨_,rfl⟩;rw[b6] at D0 CC |-;rw[b4] at D1 CC |-;rw[b5] at D2 CC |-;rw[b7] at D3 CC |-;clear b6 b4 b5 b7 hl
 go_enter Tryz.func73,Tryz.ntmps73
 go_wp2_with fail
 obtain⟨V,hV⟩:∃ V,(w.alloc (.cells #[.slice a0 O c0,.slice a1 U c1,.slice a2 Z c2,.slice a3 nt c3] 50)).alloc (.cells #[.slice none 0 0,.slice none 0 0,.slice none 0 0,.slice none 0 0] 50)=V:=⟨_,rfl⟩;have XR:Hid (V.heap[w.heap.size]?=some (.cells #[.slice a0 O c0,.slice a1 U c1,.slice a2 Z c2,.slice a3 nt c3] 50 (0,0))):=by rw[<- hV];exact zaA (zcc _ _ _ _ _ _) (zaa _ _)
 have XZ:Hid (V.heap[w.heap.size+1]?=some (.cells #[.slice none 0 0,.slice none 0 0,.slice none 0 0,.slice none 0 0] 50 (0,0))):=by
  rw[<- hV];have h:=zcc (w.alloc (.cells #[.slice a0 O c0,.slice a1 U c1,.slice a2 Z c2,.slice a3 nt c3] 50)) 50 (.slice none 0 0) (.slice none 0 0) (.slice none 0 0) (.slice none 0 0);rw[yr] at h;exact h
 have BV:Hid (Below w.heap.size w V):=by rw[<- hV];exact zaf _ _ _
 rw[hV];clear hV;obtain⟨l0,l1,l2,l3,lf,ll⟩:=zak XR.out
 go_region_held3 (fun a8=>a8.cell? ⟨w.heap.size,0,none⟩=some (.slice a0 O c0)/\a8.cell? ⟨w.heap.size,1,none⟩=some (.slice a1 U c1)/\a8.cell? ⟨w.heap.size,2,none⟩=some (.slice a2 Z c2)/\a8.cell? ⟨w.heap.size,3,none⟩=some (.slice a3 nt c3)) (go_keep) (first
  |(go_at_call 102;refine ye (D0.out _ BV.out.drew) ?_;rintro e D ⟨g,kb,kc,rfl,b2,b8⟩;have B3:Hid (Below V.heap.size V D):=(yk _ _).drew.trans b2;have O3:Hid (Own D V.heap.size g R.s kb kc O):=b8;have a5:Hid (Below w.heap.size w D):=BV.out.trans (B3.out.mono BV.out.size);have q0:=zab l0 B3.out;have q1:=zab l1 B3.out;have q2:=zab l2 B3.out;have q3:=zab l3 B3.out;clear b2 b8)
  |(go_at_call 103;refine ye (D1.out _ a5.out) ?_;rintro e M ⟨rfl,F,b9⟩;have B4:Hid (Below D.heap.size D M):=F;have R4:Hid _:=b9;have a6:Hid (Below w.heap.size w M):=a5.out.trans (F.mono a5.out.size);have p0:=zab q0 F;have p1:=zab q1 F;have p2:=zab q2 F;have p3:=zab q3 F;clear F b9)
  |(go_at_call 104;refine ye (D2.out _ a6.out) ?_;rintro e E ⟨gg,rfl,I,d4,b3⟩;have B5:Hid (Below M.heap.size M E):=I;have C5:Hid _:=b3;have a7:Hid (Below w.heap.size w E):=a6.out.trans (I.mono a6.out.size);have r0:=zab p0 I;have r1:=zab p1 I;have r2:=zab p2 I;have r3:=zab p3 I;clear I b3 d4)
  |(go_at_call 85;refine ye (D3.out _ a7.out) ?_;rintro e T ⟨rfl,J,c6⟩;have B6:Hid (Below E.heap.size E T):=J;have T6:Hid _:=c6;have b1:Hid (Below w.heap.size w T):=a7.out.trans (J.mono a7.out.size);have u0:=zab r0 J;have u1:=zab r1 J;have u2:=zab r2 J;have u3:=zab r3 J;clear J c6;have a9:Hid _:=zaA (zaA (zaA (zaA XZ.out B3.out) B4.out) B5.out) B6.out;obtain⟨t0,t1,t2,t3,tf,tl⟩:=zak a9.out))
 clear t0 t1 t2 t3 tf tl u0 u1 u2 u3 r0 r1 r2 r3 p0 p1 p2 p3 q0 q1 q2 q3 l0 l1 l2 l3 lf ll;obtain⟨X,hX⟩:∃ X,(((T.setCell ⟨w.heap.size+1,0,none⟩ (.slice (some ⟨g,0,none⟩) O O)).setCell ⟨w.heap.size+1,1,none⟩ (.slice (some ⟨D.heap.size,0,none⟩) U U)).setCell ⟨w.heap.size+1,2,none⟩ (.slice (some ⟨gg,0,none⟩) Z Z)).setCell ⟨w.heap.size+1,3,none⟩ (.slice (some ⟨E.heap.size,0,none⟩) nt nt)=X:=⟨_,rfl⟩;have x0:X.heap[w.heap.size+1]?=some (.cells #[.slice (some ⟨g,0,none⟩) O O,.slice (some ⟨D.heap.size,0,none⟩) U U,.slice (some ⟨gg,0,none⟩) Z Z,.slice (some ⟨E.heap.size,0,none⟩) nt nt] 50 (0,0)):=by rw[<- hX];exact zcL a9.out
 have xo:zaq (fun b=>b=w.heap.size+1) T X:=by
  rw[<- hX];exact(((zaq.set (X:=fun b=>b=w.heap.size+1) _ _ rfl).trans (zaq.set (X:=fun b=>b=w.heap.size+1) _ _ rfl)).trans (zaq.set (X:=fun b=>b=w.heap.size+1) _ _ rfl)).trans (zaq.set (X:=fun b=>b=w.heap.size+1) _ _ rfl)
 have xb:Below w.heap.size w X:=by
  rw[<- hX];exact(((b1.out.setCell (by simp) _).setCell (by simp) _).setCell (by simp) _).setCell (by simp) _
 rw[hX];clear hX;have C:Hid _:=CC.out V D M E T X g gg (w.heap.size+1) kb kc BV.out B3.out O3.out B4.out R4.out B5.out C5.out B6.out T6.out (zaw XZ.out) xo xb;obtain⟨m0,m1,m2,m3,mf,ml⟩:=zak x0;clear xo xb x0 O3 B3 B4 B5 B6 C5 T6 R4 a9 XZ XR BV a5 a6 a7 b1 CC D0 D1 D2 D3
 go_wp2
 exact yw (v:=.agg #[.slice (some ⟨g,0,none⟩) O O,.slice (some ⟨D.heap.size,0,none⟩) U U,.slice (some ⟨gg,0,none⟩) Z Z,.slice (some ⟨E.heap.size,0,none⟩) nt nt]) (by simp[results,Tryz.results73,go_sem,m0,m1,m2,m3]) rfl ⟨_,_,_,rfl,C.out⟩
end Go.Proofs.YtcbcpomacdngmaaGreat
