/-
  x
-/
import Derived.Test.YtcbcpomacdngmaaGreatQ34
import Derived.Test.YtcbcpomacdngmaaGreatQ35
import Derived.Test.YtcbcpomacdngmaaGreatQ36
namespace Go.Proofs.YtcbcpomacdngmaaGreat
set_option maxRecDepth 100000
set_option maxHeartbeats 4000000
set_option linter.unusedVariables false
open Go.RowKit Go.ChangeShapes Go.WideShapes
theorem zgh(n0 n1 n2 n3 n4:Nat)(E:Int)(k:Int)(la:Option Addr)(lm lc:Nat)(a0 a1 a2 a3 a4:Option Addr)(c0 c1 c2 c3 c4:Nat)(w:World)(hE:E≠0\/E=0/\n0=0)(DT:Hid (∀ V:World,Calls Tryz.prog 9 #[] V fun e w' => e=.returned (.bool true)/\Below V.heap.size V w'))
  (DK:Hid (∀ V,Below w.heap.size w V->Calls Tryz.prog 10 #[.agg #[.slice a0 n0 c0,.slice a1 n1 c1,.slice a2 n2 c2,.slice a3 n3 c3,.slice a4 n4 c4]] V fun e w' => e=.returned (.int .i64 E)/\Below V.heap.size V w')) :
  Calls Tryz.prog 7 #[.agg #[.slice a0 n0 c0,.slice a1 n1 c1,.slice a2 n2 c2,.slice a3 n3 c3,.slice a4 n4 c4],.int .i64 k,.slice la lm lc] w fun e w' => e=.returned (.bool true)/\Below w.heap.size w w' := by
 rcases hE with hE |⟨rfl,rfl⟩
 ·
  go_enter Tryz.func7,Tryz.ntmps7
  go_wp2_with fail
  refine ye (DT.out _) ?_;rintro e w1 ⟨rfl,D⟩;have I:Hid (w1.heap[w.heap.size]?=some (.cells #[.slice a0 n0 c0,.slice a1 n1 c1,.slice a2 n2 c2,.slice a3 n3 c3,.slice a4 n4 c4] 28 (0,0))):=zaD (heap_alloc_new w _) D;have F:Hid (Below w.heap.size w w1):=(zaa w _).trans (D.mono (by simp));clear D;obtain⟨J,M,O,T,U,Z,pl⟩:=zaV I.out
  go_wp2_with fail
  refine ye (DK.out _ F.out) ?_;rintro e w2 ⟨rfl,D⟩;have B2:Hid (Below w.heap.size w w2):=F.out.trans (D.mono F.out.size);have K2:Hid _:=zaD I.out D;clear J M O T U Z pl D I;obtain⟨J,M,O,T,U,Z,pl⟩:=zaV K2.out
  go_wp2_with fail
  refine ye (DT.out _) ?_;rintro e w3 ⟨rfl,D⟩;have B3:Hid (Below w.heap.size w w3):=B2.out.trans (D.mono B2.out.size);clear D J M O T U Z pl
  go_wp2
  go_ret;exact⟨rfl,B3.out⟩
 ·
  go_enter Tryz.func7,Tryz.ntmps7
  go_wp2_with fail
  refine ye (DT.out _) ?_;rintro e w1 ⟨rfl,D⟩;have I:Hid (w1.heap[w.heap.size]?=some (.cells #[.slice a0 0 c0,.slice a1 n1 c1,.slice a2 n2 c2,.slice a3 n3 c3,.slice a4 n4 c4] 28 (0,0))):=zaD (heap_alloc_new w _) D;have F:Hid (Below w.heap.size w w1):=(zaa w _).trans (D.mono (by simp));clear D;obtain⟨J,M,O,T,U,Z,pl⟩:=zaV I.out
  go_wp2_with fail
  refine ye (DK.out _ F.out) ?_;rintro e w2 ⟨rfl,D⟩;have B2:Hid (Below w.heap.size w w2):=F.out.trans (D.mono F.out.size);have K2:Hid _:=zaD I.out D;clear J M O T U Z pl D I;obtain⟨J,M,O,T,U,Z,pl⟩:=zaV K2.out
  go_wp2_with fail
  refine ye (DT.out _) ?_;rintro e w3 ⟨rfl,D⟩;have B3:Hid (Below w.heap.size w w3):=B2.out.trans (D.mono B2.out.size);clear D J M O T U Z pl
  go_wp2
  go_ret;exact⟨rfl,B3.out⟩
theorem zvS(n n4:Nat)(a0 a1 a2 a3 a4:Option Addr)(c0 c1 c2 c3 c4:Nat)(w:World)(DT:Hid (∀ V:World,Calls Tryz.prog 9 #[] V fun e w' => e=.returned (.bool true)/\Below V.heap.size V w'))
  (DK:Hid (∀ V,Below w.heap.size w V->Calls Tryz.prog 10 #[.agg #[.slice a0 n c0,.slice a1 n c1,.slice a2 n c2,.slice a3 n c3,.slice a4 n4 c4]] V fun e w' => e=.returned (.int .i64 0)/\Below V.heap.size V w')) (k:Int) (I:Nat) (AT:Hid (∀ w:World,Calls Tryz.prog 11 #[.int .i64 k,.int .i64 n] w fun e w' => e=.returned (.int .i64 (I:Int))/\w' = w)) (la:Option Addr) (lm lc O T:Nat) (M:Int) (a7:0<n) (a6:I<n) (a9:n<=8) (ea:a0=some ⟨O,T,none⟩) (f2:w.cell? ⟨O,T+I*5+2,none⟩=some (.int .i64 M)) (f4:w.cell? ⟨O,T+I*5+4,none⟩=some (.bool false)) (hM:bits .and .i64 M 1≠0) :
  Calls Tryz.prog 7 #[.agg #[.slice a0 n c0,.slice a1 n c1,.slice a2 n c2,.slice a3 n c3,.slice a4 n4 c4],.int .i64 k,.slice la lm lc] w fun e w' => e=.returned (.bool true)/\Below w.heap.size w w' := by
 subst ea;have F2:Hid _:=f2;have F4:Hid _:=f4;have a8:¬ ((n:Int)=0):=by omega
 have a5:(I:Int)<n:=by omega
 clear f2 f4
 go_enter Tryz.func7,Tryz.ntmps7
 go_wp2_with fail
 refine ye (DT.out _) ?_;rintro e w1 ⟨rfl,D⟩;have Z:Hid (w1.heap[w.heap.size]?=some (.cells #[.slice (some ⟨O,T,none⟩) n c0,.slice a1 n c1,.slice a2 n c2,.slice a3 n c3,.slice a4 n4 c4] 28 (0,0))):=zaD (heap_alloc_new w _) D;have J:Hid (Below w.heap.size w w1):=(zaa w _).trans (D.mono (by simp));clear D;obtain⟨p0,p1,p2,p3,p4,pf,pl⟩:=zaV Z.out
 go_wp2_with fail
 refine ye (DK.out _ J.out) ?_;rintro e w2 ⟨rfl,D⟩;have U:Hid (Below w.heap.size w w2):=J.out.trans (D.mono J.out.size);have K2:Hid _:=zaD Z.out D;clear p0 p1 p2 p3 p4 pf pl D Z J DT DK;obtain⟨p0,p1,p2,p3,p4,pf,pl⟩:=zaV K2.out
 go_wp2_with fail
 refine ye (AT.out _) ?_;rintro e w3 ⟨rfl,E⟩;have F:=E.symm;clear E;subst F;have g2:=zab F2.out U.out;have g4:=zab F4.out U.out
 go_wp2
 go_ret;exact⟨rfl,U.out⟩
theorem ztn(n n4:Nat)(a0 a1 a2 a3 a4:Option Addr)(c0 c1 c2 c3 c4:Nat)(w:World)(DT:D (∀ V:World,Calls Tryz.prog 9 #[] V fun e w' => e=.returned (.bool true)/\Below V.heap.size V w'))
  (DK:D (∀ V,Below w.heap.size w V->Calls Tryz.prog 10 #[.agg #[.slice a0 n c0,.slice a1 n c1,.slice a2 n c2,.slice a3 n c3,.slice a4 n4 c4]] V fun e w' => e=.returned (.int .i64 0)/\Below V.heap.size V w')) (k:Int) (E:Nat) (AT:D (∀ w:World,Calls Tryz.prog 11 #[.int .i64 k,.int .i64 n] w fun e w' => e=.returned (.int .i64 (E:Int))/\w' = w)) (la:Option Addr) (lm lc m q1 m4:Nat) (W Z:Wl) (L:List (Int × Bool)) (S:List Int) (j8:0<n) (b4:E<n) (k0:n<=8) (i1:m<=30) (i2:min (lm:Int) 30=(m:Int))
  (k1:∀ W,(Instr.slice 71 (.slice la lm lc) none (some (.int .i64 (m:Int))) none).run Tryz.prog W=.ok (.slice la m q1) W)
  (d5:W.fs.length=n) (d7:W.rs.length=n) (d6:Z.fs.length=n) (d8:Z.rs.length=n) (c8:L.length=m) (c9:S.length=m) (hW:D (zic w ⟨a0,a1,a2,a3,a4,c0,c1,c2,c3,c4⟩ W)) (hP:D (zdG w la L))
  (D2:D (∀ (X:Nat->Prop) V,(∀ b,X b->b<V.heap.size)->Below w.heap.size w V->(∀ b,X b->w.heap.size<=b)->Calls Tryz.prog 20 #[.agg #[.slice a0 n c0,.slice a1 n c1,.slice a2 n c2,.slice a3 n c3,.slice a4 n4 c4],.slice la m q1] V fun e w' => ∃ (f0 f1 f2 f3 f4 U:Option Addr) (O g1 g2 g3 M a5:Nat),e=.returned (.tuple #[.agg #[.slice f0 n O,.slice f1 n g1,.slice f2 n g2,.slice f3 n g3,.slice f4 m4 M],.slice U m a5,.int .i64 0])/\Below V.heap.size V w' /\ WlC ⟨f0,f1,f2,f3,f4,O,g1,g2,g3,M⟩ Z/\ziA X w' ⟨f0,f1,f2,f3,f4,O,g1,g2,g3,M⟩ Z/\St X (fun w=>zaj w U S) w'))
  (DQ:D (∀ A B V,zcp V A (rl Z.rs E)->zcp V B (rl W.rs E)->rl Z.rs E=rl W.rs E->Calls Tryz.prog 17 #[rlV A (rl Z.rs E),rlV B (rl W.rs E)] V fun e w' => e=.returned (.bool true)/\Below V.heap.size V w'))
  (hI:(fr W.fs E).g=true\/(fr W.fs E).g=false/\bits .and .i64 (fr W.fs E).m 1=0)
  (h9:D (∀ i,i<m->(pk L i).1=E->S.getD i 0≠0)) (b6:D ((fr Z.fs E).t=(fr W.fs E).t->rl Z.rs E=rl W.rs E)) :
  Calls Tryz.prog 7 #[.agg #[.slice a0 n c0,.slice a1 n c1,.slice a2 n c2,.slice a3 n c3,.slice a4 n4 c4],.int .i64 k,.slice la lm lc] w fun e w' => e=.returned (.bool true)/\Below w.heap.size w w' := by
 obtain⟨fb,fo,ea,f0,f1,f2,f3,f4⟩:=hW.out.fs E (by omega);dsimp only at ea;subst ea;have F2:D _:=f2;have F3:D _:=f3;have F4:D _:=f4;have g5:D (Z.fs.length=n):=d6;have g8:D (Z.rs.length=n):=d8;have i3:D (W.fs.length=n):=d5;have g7:D (W.rs.length=n):=d7;have g6:D (L.length=m):=c8;have g9:D (S.length=m):=c9;have j9:¬ ((n:Int)=0):=by omega
 have j7:(E:Int)<n:=by omega
 clear f0 f1 f2 f3 f4 d5 d7 d6 d8 c8 c9
 go_enter Tryz.func7,Tryz.ntmps7
 go_wp2_with F
 refine ye (DT.out _) ?_;rintro e w1 ⟨rfl,hb⟩;have K1:D (w1.heap[w.heap.size]?=some (.cells #[.slice (some ⟨fb,fo,none⟩) n c0,.slice a1 n c1,.slice a2 n c2,.slice a3 n c3,.slice a4 n4 c4] 28 (0,0))):=zaD (heap_alloc_new w _) hb;have B1:D (Below w.heap.size w w1):=(zaa w _).trans (hb.mono (by simp));clear hb;obtain⟨p0,p1,p2,p3,p4,pf,pl⟩:=zaV K1.out
 go_wp2_with F
 refine ye (DK.out _ B1.out) ?_;rintro e J ⟨rfl,hb⟩;have B2:D (Below w.heap.size w J):=B1.out.trans (hb.mono B1.out.size);have K2:D _:=zaD K1.out hb;clear p0 p1 p2 p3 p4 pf pl hb K1 B1 DT DK;obtain⟨p0,p1,p2,p3,p4,pf,pl⟩:=zaV K2.out
 go_wp2_with F
 refine ye (AT.out _) ?_;rintro e w3 ⟨rfl,d9⟩;have e5:=d9.symm;clear d9;subst e5;have g2:=zab F2.out B2.out;have M:=zab F4.out B2.out
 go_upto_region 4 with F
 go_cut [47] (fun s47 wx=>s47=.bool false/\wx=J)
 case first =>
  rcases hI with h |⟨h,h2⟩
  ·rw[h] at M
   go_wp2_with F
   go_meet
   case rel=>exact⟨rfl,rfl⟩
  ·rw[h] at M
   go_wp2_with F
   go_meet
   case rel=>exact⟨rfl,rfl⟩
 case rest =>
 obtain⟨rfl,e6⟩:=hcut;have e7:=e6.symm;clear e6;subst e7;clear hI g2 M;have X3:D (∀ V,Below J.heap.size J V->Below w.heap.size w V):=fun V hV=>B2.out.trans (hV.mono B2.out.size);have sw:¬ J.heap.size=w.heap.size:=by omega
 have i0:¬ w.heap.size=J.heap.size:=by omega
 go_upto_region 6 with F
 go_cut [7,8,9] (fun s7 s8 s9 wx=>∃ (bb:Nat) (f0 f1 f2 f3 f4 U:Option Addr) (O g1 g2 g3 M a5:Nat),s7=.pointer (some ⟨bb,0,none⟩)/\s9=.int .i64 0/\s8=.slice U m a5/\D (Below J.heap.size J wx/\J.heap.size<=bb/\wx.heap[bb]?=some (.cells #[.slice f0 n O,.slice f1 n g1,.slice f2 n g2,.slice f3 n g3,.slice f4 m4 M] 28 (0,0))/\WlC ⟨f0,f1,f2,f3,f4,O,g1,g2,g3,M⟩ Z/\zic wx ⟨f0,f1,f2,f3,f4,O,g1,g2,g3,M⟩ Z/\zaj wx U S))
 case first =>
  go_region_held3 (fun I=>I.cell? ⟨w.heap.size,0,none⟩=some (.slice (some ⟨fb,fo,none⟩) n c0)/\I.cell? ⟨w.heap.size,1,none⟩=some (.slice a1 n c1)/\I.cell? ⟨w.heap.size,2,none⟩=some (.slice a2 n c2)/\I.cell? ⟨w.heap.size,3,none⟩=some (.slice a3 n c3)/\I.cell? ⟨w.heap.size,4,none⟩=some (.slice a4 n4 c4)) (go_keep) (first|(go_at_call 20;refine ye (D2.out (fun _=>False) J.drew (fun _ h=>h.elim) (X3.out _ (yk _ _).drew) (fun _ h=>h.elim)) ?_;rintro e w3 ⟨f0,f1,f2,f3,f4,U,O,g1,g2,g3,M,a5,rfl,a7,a8,b0,a9⟩;have B3:D (Below J.heap.size J w3):=(yk J.heap.size J).drew.trans (a7.mono (by simp));have N3:D (St (fun c=>c=w3.heap.size) (fun w=>zic w ⟨f0,f1,f2,f3,f4,O,g1,g2,g3,M⟩ Z) w3):=St.new b0 (fun c e=>Nat.le_of_eq e.symm);have M3:D (St (fun c=>c=w3.heap.size) (fun w=>zaj w U S) w3):=St.new a9 (fun c e=>Nat.le_of_eq e.symm);have C3:D (WlC ⟨f0,f1,f2,f3,f4,O,g1,g2,g3,M⟩ Z):=a8;have b9:=zab p0 B3.out;have c7:=zab p1 B3.out;have h3:=zab p2 B3.out;have h4:=zab p3 B3.out;have h6:=zab p4 B3.out;clear a7 b0 a8 a9)|(go_at_call 20;refine ye (D2.out (fun c=>c=J.heap.size) (J.alloc (.cells #[.slice none 0 0,.slice none 0 0,.slice none 0 0,.slice none 0 0,.slice none 0 0] 28)).drew (fun c e=>by rw[e];simp) (X3.out _ (zaa _ _).drew) (fun c e=>by rw[e];exact B2.out.size)) ?_;rintro e w3 ⟨f0,f1,f2,f3,f4,U,O,g1,g2,g3,M,a5,rfl,a7,a8,b0,a9⟩;have B3:D (Below J.heap.size J w3):=(zaa J _).drew.trans (a7.mono (by simp));have N3:D (St (fun c=>c=J.heap.size) (fun w=>zic w ⟨f0,f1,f2,f3,f4,O,g1,g2,g3,M⟩ Z) w3):=b0;have M3:D (St (fun c=>c=J.heap.size) (fun w=>zaj w U S) w3):=a9;have C3:D (WlC ⟨f0,f1,f2,f3,f4,O,g1,g2,g3,M⟩ Z):=a8;have XA:D (w3.heap[J.heap.size]?=some (.cells #[.slice none 0 0,.slice none 0 0,.slice none 0 0,.slice none 0 0,.slice none 0 0] 28 (0,0))):=(a7.block _ (by simp)).trans (heap_alloc_new J _);have b9:=zab p0 B3.out;have c7:=zab p1 B3.out;have h3:=zab p2 B3.out;have h4:=zab p3 B3.out;have h6:=zab p4 B3.out;clear a7 b0 a8 a9;obtain⟨x0,x1,x2,x3,x4,xf,xl⟩:=zaV XA.out))
  all_goals first
   |(have HQ:D (Below J.heap.size J (set5 w3 J.heap.size (.slice f0 n O) (.slice f1 n g1) (.slice f2 n g2) (.slice f3 n g3) (.slice f4 m4 M))/\J.heap.size<=J.heap.size/\(set5 w3 J.heap.size (.slice f0 n O) (.slice f1 n g1) (.slice f2 n g2) (.slice f3 n g3) (.slice f4 m4 M)).heap[J.heap.size]?=some (.cells #[.slice f0 n O,.slice f1 n g1,.slice f2 n g2,.slice f3 n g3,.slice f4 m4 M] 28 (0,0))/\WlC ⟨f0,f1,f2,f3,f4,O,g1,g2,g3,M⟩ Z/\zic (set5 w3 J.heap.size (.slice f0 n O) (.slice f1 n g1) (.slice f2 n g2) (.slice f3 n g3) (.slice f4 m4 M)) ⟨f0,f1,f2,f3,f4,O,g1,g2,g3,M⟩ Z/\zaj (set5 w3 J.heap.size (.slice f0 n O) (.slice f1 n g1) (.slice f2 n g2) (.slice f3 n g3) (.slice f4 m4 M)) U S):=⟨zhy B3.out (yj _) _ _ _ _ _,yj _,zmf XA.out,C3.out,N3.out _ (zlT (X:=fun c=>c=J.heap.size) rfl),M3.out _ (zlT (X:=fun c=>c=J.heap.size) rfl)⟩
     go_wp2_with F
     go_meet
     case rel=>exact⟨J.heap.size,f0,f1,f2,f3,f4,U,O,g1,g2,g3,M,a5,rfl,rfl,rfl,HQ⟩)
   |(have HQ:D (Below J.heap.size J (w3.alloc (.cells #[.slice f0 n O,.slice f1 n g1,.slice f2 n g2,.slice f3 n g3,.slice f4 m4 M] 28))/\J.heap.size<=w3.heap.size/\(w3.alloc (.cells #[.slice f0 n O,.slice f1 n g1,.slice f2 n g2,.slice f3 n g3,.slice f4 m4 M] 28)).heap[w3.heap.size]?=some (.cells #[.slice f0 n O,.slice f1 n g1,.slice f2 n g2,.slice f3 n g3,.slice f4 m4 M] 28 (0,0))/\WlC ⟨f0,f1,f2,f3,f4,O,g1,g2,g3,M⟩ Z/\zic (w3.alloc (.cells #[.slice f0 n O,.slice f1 n g1,.slice f2 n g2,.slice f3 n g3,.slice f4 m4 M] 28)) ⟨f0,f1,f2,f3,f4,O,g1,g2,g3,M⟩ Z/\zaj (w3.alloc (.cells #[.slice f0 n O,.slice f1 n g1,.slice f2 n g2,.slice f3 n g3,.slice f4 m4 M] 28)) U S):=⟨B3.out.alloc B3.out.size _,B3.out.size,heap_alloc_new w3 _,C3.out,N3.out _ (zaq.of_below (zaa w3 _)),M3.out _ (zaq.of_below (zaa w3 _))⟩
     go_wp2_with F
     go_meet
     case rel=>exact⟨w3.heap.size,f0,f1,f2,f3,f4,U,O,g1,g2,g3,M,a5,rfl,rfl,rfl,HQ⟩)
 case rest =>
 obtain⟨b7,f0,f1,f2,f3,f4,U,O,g1,g2,g3,M,a5,rfl,rfl,rfl,b8⟩:=hcut;obtain⟨B6,l6,x6,c6,y6,i6⟩:=b8.out;have a6:D (Below w.heap.size w wc):=X3.out _ B6;have X6:D _:=x6;have Y6:D (zic wc ⟨f0,f1,f2,f3,f4,O,g1,g2,g3,M⟩ Z):=y6;have I6:D (zaj wc U S):=i6;have K6:D _:=zaD K2.out B6;have W6:D (zic wc ⟨some ⟨fb,fo,none⟩,a1,a2,a3,a4,c0,c1,c2,c3,c4⟩ W):=hW.out.below a6.out;have P6:D (zdG wc la L):=hP.out.below a6.out;have e9:D _:=zab F3.out a6.out;clear B6 x6 c6 y6 i6 b8 K2 hW hP F2 F3 F4 X3 sw i0 p0 p1 p2 p3 p4 pf pl D2 l6 B2
 go_wp2_with F
 go_loopg [67] m (fun g s67 wr=>∃ i:Nat,i<=m/\m-i<=g/\s67=.int .i64 i/\D (Below wc.heap.size wc wr))
 case atStart=>exact⟨0,Nat.zero_le _,by omega,rfl,yk _ _⟩
 case round =>
  obtain⟨i,hi,hg,rfl,T⟩:=hrel;by_cases b5:i<m
  ·obtain⟨lb,lo,el,x0,x1⟩:=(P6.out.below T.out) i (by rw[g6.out];exact b5);obtain⟨sb,so,es,y0⟩:=(I6.out.below T.out) i (by rw[g9.out];exact b5);subst el es;have NO:D _:=h9.out i b5;have h7:(i:Int)<m:=by omega
   generalize (pk L i).1=xf at x0 NO;generalize (pk L i).2=xs at x1;generalize S.getD i 0=xe at y0 NO;have k2:lb<wr.heap.size:=yd _ _ x0;have k3:sb<wr.heap.size:=yd _ _ y0;by_cases hp:xf=E
   ·have he:¬ xe=0:=NO.out hp;subst hp
    go_wp2_with F
    go_roundg (m-(i+1))
    case measure=>omega
    case rel=>exact⟨i+1,by omega,by omega,by go_num,T.out.trans ((zaa wr _).mono T.out.size)⟩
   ·go_wp2_with F
    go_roundg (m-(i+1))
    case measure=>omega
    case rel=>exact⟨i+1,by omega,by omega,by go_num,T.out.trans ((zaa wr _).mono T.out.size)⟩
  ·have h8:i=m:=by omega
   have h7:¬ ((i:Int)<m):=by omega
   clear h8;obtain⟨p0,p1,p2,p3,p4,pf,pl⟩:=zaV (zaD K6.out T.out);obtain⟨z0,z1,z2,z3,z4,zf,zl⟩:=zaV (zaD X6.out T.out);obtain⟨zb,zo,ez,e0,e1,e2,e3,e4⟩:=(Y6.out.below T.out).fs E (by rw[g5.out];exact b4);obtain⟨rb,ro,A,er,r0,r1,r2,r3,hr⟩:=(Y6.out.below T.out).rs E (by rw[g8.out];exact b4);obtain⟨vb,vo,B,ev,v0,v1,v2,v3,hv⟩:=(W6.out.below T.out).rs E (by rw[g7.out];exact b4);have g3:=zab e9.out T.out;dsimp only at ez er ev;subst ez er ev;have HR:D (zcp wr A (rl Z.rs E)):=hr;have HV:D (zcp wr B (rl W.rs E)):=hv;clear hr hv e0 e1 e2 e4;obtain⟨A0,A1,A2,A3,C0,C1,C2,C3⟩:=A;obtain⟨E0,E1,E2,E3,G0,G1,G2,G3⟩:=B;dsimp only at r0 r1 r2 r3 v0 v1 v2 v3;by_cases ht:(fr Z.fs E).t=(fr W.fs E).t
   ·have SM:D _:=b6.out ht;have e8:D (∀ V,Below wr.heap.size wr V->Calls Tryz.prog 17 #[.agg #[.slice A0 (rl Z.rs E).s.length C0,.slice A1 (rl Z.rs E).hs.length C1,.slice A2 (rl Z.rs E).i.length C2,.slice A3 (rl Z.rs E).t.length C3],.agg #[.slice E0 (rl W.rs E).s.length G0,.slice E1 (rl W.rs E).hs.length G1,.slice E2 (rl W.rs E).i.length G2,.slice E3 (rl W.rs E).t.length G3]] V fun e w' => e=.returned (.bool true)/\Below V.heap.size V w'):=fun V hV=>DQ.out ⟨A0,A1,A2,A3,C0,C1,C2,C3⟩ ⟨E0,E1,E2,E3,G0,G1,G2,G3⟩ V (HR.out.below hV) (HV.out.below hV) SM.out;rw[ht] at e3;generalize (fr W.fs E).t=tt at e3 g3;clear ht DQ SM HR HV
    go_upto_region 15 with F
    go_region_held3 (fun I=>I.cell? ⟨w.heap.size,0,none⟩=some (.slice (some ⟨fb,fo,none⟩) n c0)/\I.cell? ⟨w.heap.size,1,none⟩=some (.slice (some ⟨vb,vo,none⟩) n c1)/\I.cell? ⟨b7,0,none⟩=some (.slice (some ⟨zb,zo,none⟩) n O)/\I.cell? ⟨b7,1,none⟩=some (.slice (some ⟨rb,ro,none⟩) n g1)/\I.cell? ⟨zb,zo+E*5+3,none⟩=some (.int .i64 tt)/\I.cell? ⟨fb,fo+E*5+3,none⟩=some (.int .i64 tt)/\I.cell? ⟨rb,ro+E*4,none⟩=some (.slice A0 (rl Z.rs E).s.length C0)/\I.cell? ⟨rb,ro+E*4+1,none⟩=some (.slice A1 (rl Z.rs E).hs.length C1)/\I.cell? ⟨rb,ro+E*4+2,none⟩=some (.slice A2 (rl Z.rs E).i.length C2)/\I.cell? ⟨rb,ro+E*4+3,none⟩=some (.slice A3 (rl Z.rs E).t.length C3)/\I.cell? ⟨vb,vo+E*4,none⟩=some (.slice E0 (rl W.rs E).s.length G0)/\I.cell? ⟨vb,vo+E*4+1,none⟩=some (.slice E1 (rl W.rs E).hs.length G1)/\I.cell? ⟨vb,vo+E*4+2,none⟩=some (.slice E2 (rl W.rs E).i.length G2)/\I.cell? ⟨vb,vo+E*4+3,none⟩=some (.slice E3 (rl W.rs E).t.length G3)) (go_keep) (first|(go_at_call 17;refine ye (e8.out _ (yk _ _).drew) ?_;rintro e w8 ⟨rfl,d4⟩;have B8:D (Below wr.heap.size wr w8):=(yk wr.heap.size wr).drew.trans (d4.mono (by simp));have b9:=zab p0 B8.out;have c7:=zab p1 B8.out;have j5:=zab z0 B8.out;have j6:=zab z1 B8.out;have i4:=zab e3 B8.out;have i5:=zab g3 B8.out;have i7:=zab r0 B8.out;have i8:=zab r1 B8.out;have i9:=zab r2 B8.out;have j0:=zab r3 B8.out;have j1:=zab v0 B8.out;have j2:=zab v1 B8.out;have j3:=zab v2 B8.out;have j4:=zab v3 B8.out;  clear d4))
    all_goals
     go_wp2
     go_ret;exact⟨rfl,a6.out.trans ((T.out.trans (B8.out.mono T.out.size)).mono a6.out.size)⟩
   ·generalize (fr Z.fs E).t=tz at e3 ht;generalize (fr W.fs E).t=tt at g3 ht;have b1:decide (tz=tt)=false:=decide_eq_false ht;have b2:(tz != tt)=true:=by simpa using ht
    have b3:(tz == tt)=false:=by simpa using ht
    clear DQ HR HV
    go_upto_region 15 with F
    go_big_quiet (F)
    go_wp2
    go_ret;exact⟨rfl,a6.out.trans ((zdR T.out _).mono a6.out.size)⟩
theorem znh(hN:zpo)(hK:zgN)(hR:zhw)(hQ:zxo)(A:WA)(W:Wl)(k:Int)(J:Option Addr)(O:Nat)(L:List (Int × Bool))(w:World)(hB:zsc W)(hC:WlC A W)(T:zic w A W)(hL:SlA J L.length O)(hP:zdG w J L) :
  Calls Tryz.prog 7 #[wlV A W,.int .i64 k,.slice J L.length O] w fun e w' => e=.returned (.bool true)/\Below w.heap.size w w' := by
 obtain⟨a0,a1,a2,a3,a4,c0,c1,c2,c3,c4⟩:=A;have DT:Hid (∀ V:World,Calls Tryz.prog 9 #[] V fun e w' => e=.returned (.bool true)/\Below V.heap.size V w'):=fun V=>zuZ hN hR V;by_cases hE:zbp W=0
 ·have H:=zck.1 hE;by_cases h0:W.fs.length=0
  ·exact zgh _ _ _ _ _ (zbp W) k J _ O a0 a1 a2 a3 a4 c0 c1 c2 c3 c4 w (Or.inr ⟨hE,h0⟩) DT (fun V F=>zlA hK hB rfl hC (T.below F))
  ·show Calls Tryz.prog _ #[.agg #[.slice a0 W.fs.length c0,.slice a1 W.rs.length c1,.slice a2 W.ps.length c2,.slice a3 W.qs.length c3,.slice a4 W.pt.length c4],_,_] w _;rw[H.lr,H.lp,H.lq];obtain⟨E,D,U⟩:=zzx k W.fs.length (by omega) (by have:=H.fs.few;omega);have DK:Hid (∀ V,Below w.heap.size w V->Calls _ _ _ _ _):=fun V F=>checkN hK H rfl rfl hC (T.below F);by_cases hI:Idle W E
   ·have hm:min L.length 30<=L.length:=Nat.min_le_left _ _;have Z:min L.length 30<=30:=Nat.min_le_right _ _;have I:min (L.length:Int) 30=((min L.length 30:Nat):Int):=by omega
    generalize min L.length 30=m at hm Z I;obtain⟨q1,a9,a8⟩:=zAV J L.length m O hm hL;have M:(L.take m).length=m:=by rw[List.length_take];omega
    obtain⟨⟨_,hs⟩,a7⟩:=zmX (L.take m) H D hI;obtain⟨HZ,a5⟩:=zfX (L.take m) H;refine ztn W.fs.length W.pt.length a0 a1 a2 a3 a4 c0 c1 c2 c3 c4 w DT DK k E U J L.length O m q1 ((L.take m).foldl zdC W).pt.length W ((L.take m).foldl zdC W) (L.take m) (znv W (L.take m)) (by omega) D H.fs.few Z I a9 rfl H.lr a5 (HZ.lr.trans a5) M (by rw[ziT,M]) T (hP.take m) (fun X V hX F a6=>runN hR X H (by omega) rfl rfl rfl rfl rfl M hX hC (zAG T F a6) a8 ((hP.take m).below F)) ?_ ?_ (fun i hi=>a7 i (by omega)) (fun h=>hs h)
    ·exact fun A B V h1 h2 h3=>(hQ A B _ _ V (zdo (HZ.rs E (by omega))) h1 h2).mono fun e w' ⟨r,he,hb,hr⟩=>⟨by rw[he,hr.2 h3],hb⟩
    ·rcases hI with h|h
     ·exact Or.inl h
     ·cases hg:(fr W.fs E).g with
      | true=>exact Or.inl rfl
      | false=>exact Or.inr ⟨rfl,h⟩
   ·obtain⟨fb,fo,ea,f0,f1,f2,f3,f4⟩:=T.fs E D
    have hg:(fr W.fs E).g=false:=by
     cases hg:(fr W.fs E).g with
     | true=>exact absurd (Or.inl hg) hI
     | false=>rfl
    rw[hg] at f4;exact zvS W.fs.length W.pt.length a0 a1 a2 a3 a4 c0 c1 c2 c3 c4 w DT DK k E U J L.length O fb fo (fr W.fs E).m (by omega) D H.fs.few ea f2 f4 (fun h=>hI (Or.inr h))
 ·exact zgh _ _ _ _ _ (zbp W) k J _ O a0 a1 a2 a3 a4 c0 c1 c2 c3 c4 w (Or.inl hE) DT (fun V F=>zlA hK hB rfl hC (T.below F))
theorem zlG(S:List Nd)(h:Int × Int)(x:Ac)(wf:WF S)(a:Option Addr)(c:Nat)(W:World)(O:zah W a S):Calls Tryz.prog 175 #[.agg #[.slice a S.length c],hdV h,acV x] W fun e w' => ∃ F I n,e=.returned (.tuple #[.slice F n I,.int .i64 (zaH S h.1 h.2)])/\Below W.heap.size W w' /\(zaH S h.1 h.2=0->n=(zjg S h.1.toNat).length):=by
 have D:Hid (∀ Z o2 o3:Obj,_):=fun Z o2 o3=>zvJ S h wf a c (((W.alloc Z).alloc o2).alloc o3) (O.below (zar _ _ _ _));clear O;obtain⟨P,U⟩:=h;dsimp only[hdV,acV] at D |-;obtain⟨E,J⟩:∃ E,zaH S P U=E:=⟨_,rfl⟩;rw[J] at D |-;obtain⟨N,M⟩:∃ N,(zjg S P.toNat).length=N:=⟨_,rfl⟩;rw[M] at D |-;generalize S.length=ns at *;clear J M
 go_enter Tryz.func175,Tryz.ntmps175
 go_wp2_with fail
 refine ye (D.out _ _ _) ?_;rintro e V ⟨F,I,n,rfl,T,hn⟩;have HB:Hid (Below W.heap.size W V):=(zar W _ _ _).trans (T.mono (by simp;omega));have HN:Hid (E=0->n=N):=fun h=>by rw[hn,yb h]
 clear T hn D
 go_wp2
 exact yv (v:=.tuple #[.slice F n I,.int .i64 E]) (by simp[results,Tryz.results175,go_sem]) rfl ⟨F,I,n,rfl,HB.out,HN.out⟩
theorem zkq(S:List Nd)(h:Int × Int)(x:Ac)(wf:WF S)(a:Option Addr)(c:Nat)(W:World)(Z:zah W a S):Calls Tryz.prog 174 #[.agg #[.slice a S.length c],hdV h,acV x] W fun e w' => ∃ F I n,e=.returned (.tuple #[.slice F n I,.int .i64 (zyd S h.1 h.2 [⟨x.b,x.n,false⟩])])/\Below W.heap.size W w' /\(zyd S h.1 h.2 [⟨x.b,x.n,false⟩]=0->n=(zgY S h.1.toNat [⟨x.b,x.n,false⟩]).length):=by
 have D:Hid (∀ J M o3:Obj,_):=fun J M o3=>zsQ S h x.b x.n (some ⟨W.heap.size+1+1+1,0,none⟩) 1 wf a c ((((W.alloc J).alloc M).alloc o3).alloc (.cells #[.int .i64 x.b,.int .i64 x.n,.bool false] 231)) ((Z.below (zar _ _ _ _)).below (zaa _ _)) (fun i hi=>by
  obtain rfl:i=0:=by simpa using hi
  have e:(((W.alloc J).alloc M).alloc o3).heap.size=W.heap.size+1+1+1:=by simp
  refine⟨W.heap.size+1+1+1,0,rfl,?_,?_,?_⟩
  all_goals rw[<- e]
  ·exact zac _ _ _ 0 rfl
  ·exact zac _ _ _ 1 rfl
  ·exact zac _ _ _ 2 rfl)
 clear Z;obtain⟨P,U⟩:=h;obtain⟨xk,xa,xb,xc,xn⟩:=x;dsimp only[hdV,acV] at D |-;obtain⟨E,O⟩:∃ E,zyd S P U [⟨xb,xn,false⟩]=E:=⟨_,rfl⟩;rw[O] at D |-;obtain⟨N,T⟩:∃ N,(zgY S P.toNat [⟨xb,xn,false⟩]).length=N:=⟨_,rfl⟩;rw[T] at D |-;generalize S.length=ns at *;clear O T
 go_enter Tryz.func174,Tryz.ntmps174
 go_wp2_with fail
 refine ye (D.out _ _ _) ?_;rintro e V ⟨F,I,n,rfl,hb,hn⟩;have HB:Hid (Below W.heap.size W V):=(zar W _ _ _).trans (((zaa _ _).trans (hb.mono (by simp))).mono (by simp;omega));have HN:Hid (E=0->n=N):=fun h=>by rw[hn,yb h]
 clear hb hn D
 go_wp2
 exact yv (v:=.tuple #[.slice F n I,.int .i64 E]) (by simp[results,Tryz.results174,go_sem]) rfl ⟨F,I,n,rfl,HB.out,HN.out⟩
theorem zvv(W:World):Calls Tryz.prog 162 #[.int .i64 2] W fun e w' => ∃ E,e=.returned (.func (.func 183) #[] #[.pointer (some ⟨E,0,none⟩)])/\Below W.heap.size W w' /\ w'.cell? ⟨E,0,none⟩=some (.func (.func 167) #[] #[]):=by
 have D:Hid (∀ W,Calls _ _ _ _ _):=fun W=>zid 167 W
 go_enter Tryz.func162,Tryz.ntmps162
 go_wp2_with fail
 refine ye (D.out _) ?_;rintro e V ⟨rfl,F,hc⟩;have I:Hid _:=F;have J:Hid _:=hc;clear F hc D
 go_wp2
 go_ret;exact⟨_,rfl,I.out,J.out⟩
theorem zvw(W:World):Calls Tryz.prog 162 #[.int .i64 4] W fun e w' => ∃ E,e=.returned (.func (.func 183) #[] #[.pointer (some ⟨E,0,none⟩)])/\Below W.heap.size W w' /\ w'.cell? ⟨E,0,none⟩=some (.func (.func 168) #[] #[]):=by
 have D:Hid (∀ W,Calls _ _ _ _ _):=fun W=>zid 168 W
 go_enter Tryz.func162,Tryz.ntmps162
 go_wp2_with fail
 refine ye (D.out _) ?_;rintro e V ⟨rfl,F,hc⟩;have I:Hid _:=F;have J:Hid _:=hc;clear F hc D
 go_wp2
 go_ret;exact⟨_,rfl,I.out,J.out⟩
theorem zvx(W:World):Calls Tryz.prog 162 #[.int .i64 5] W fun e w' => ∃ E,e=.returned (.func (.func 187) #[] #[.pointer (some ⟨E,0,none⟩)])/\Below W.heap.size W w' /\ w'.cell? ⟨E,0,none⟩=some (.func (.func 171) #[] #[]):=by
 have D:Hid (∀ W,Calls _ _ _ _ _):=fun W=>zkV 171 W
 go_enter Tryz.func162,Tryz.ntmps162
 go_wp2_with fail
 refine ye (D.out _) ?_;rintro e V ⟨rfl,F,hc⟩;have I:Hid _:=F;have J:Hid _:=hc;clear F hc D
 go_wp2
 go_ret;exact⟨_,rfl,I.out,J.out⟩
theorem zmI(W:World):Calls Tryz.prog 162 #[.int .i64 11] W fun e w' => ∃ E,e=.returned (.func (.func 187) #[] #[.pointer (some ⟨E,0,none⟩)])/\Below W.heap.size W w' /\ w'.cell? ⟨E,0,none⟩=some (.func (.func 172) #[] #[]):=by
 have D:Hid (∀ W,Calls _ _ _ _ _):=fun W=>zkV 172 W
 go_enter Tryz.func162,Tryz.ntmps162
 go_wp2_with fail
 refine ye (D.out _) ?_;rintro e V ⟨rfl,F,hc⟩;have I:Hid _:=F;have J:Hid _:=hc;clear F hc D
 go_wp2
 go_ret;exact⟨_,rfl,I.out,J.out⟩
theorem zsS(W:World):Calls Tryz.prog 162 #[.int .i64 14] W fun e w' => ∃ E,e=.returned (.func (.func 188) #[] #[.pointer (some ⟨E,0,none⟩)])/\Below W.heap.size W w' /\ w'.cell? ⟨E,0,none⟩=some (.func (.func 174) #[] #[]):=by
 have D:Hid (∀ W,Calls _ _ _ _ _):=fun W=>zeo 174 W
 go_enter Tryz.func162,Tryz.ntmps162
 go_wp2_with fail
 refine ye (D.out _) ?_;rintro e V ⟨rfl,F,hc⟩;have I:Hid _:=F;have J:Hid _:=hc;clear F hc D
 go_wp2
 go_ret;exact⟨_,rfl,I.out,J.out⟩
theorem zsU(W:World):Calls Tryz.prog 162 #[.int .i64 15] W fun e w' => ∃ E,e=.returned (.func (.func 188) #[] #[.pointer (some ⟨E,0,none⟩)])/\Below W.heap.size W w' /\ w'.cell? ⟨E,0,none⟩=some (.func (.func 175) #[] #[]):=by
 have D:Hid (∀ W,Calls _ _ _ _ _):=fun W=>zeo 175 W
 go_enter Tryz.func162,Tryz.ntmps162
 go_wp2_with fail
 refine ye (D.out _) ?_;rintro e V ⟨rfl,F,hc⟩;have I:Hid _:=F;have J:Hid _:=hc;clear F hc D
 go_wp2
 go_ret;exact⟨_,rfl,I.out,J.out⟩
theorem zpv(W:World):Calls Tryz.prog 162 #[.int .i64 3] W fun e w' => ∃ E,e=.returned (.func (.func 191) #[] #[.pointer (some ⟨E,0,none⟩)])/\Below W.heap.size W w' /\ w'.cell? ⟨E,0,none⟩=some (.func (.func 177) #[] #[]):=by
 have D:Hid (∀ W,Calls _ _ _ _ _):=fun W=>zdx 177 W
 go_enter Tryz.func162,Tryz.ntmps162
 go_wp2_with fail
 refine ye (D.out _) ?_;rintro e V ⟨rfl,F,hc⟩;have I:Hid _:=F;have J:Hid _:=hc;clear F hc D
 go_wp2
 go_ret;exact⟨_,rfl,I.out,J.out⟩
theorem zpw(W:World):Calls Tryz.prog 162 #[.int .i64 7] W fun e w' => ∃ E,e=.returned (.func (.func 191) #[] #[.pointer (some ⟨E,0,none⟩)])/\Below W.heap.size W w' /\ w'.cell? ⟨E,0,none⟩=some (.func (.func 178) #[] #[]):=by
 have D:Hid (∀ W,Calls _ _ _ _ _):=fun W=>zdx 178 W
 go_enter Tryz.func162,Tryz.ntmps162
 go_wp2_with fail
 refine ye (D.out _) ?_;rintro e V ⟨rfl,F,hc⟩;have I:Hid _:=F;have J:Hid _:=hc;clear F hc D
 go_wp2
 go_ret;exact⟨_,rfl,I.out,J.out⟩
theorem zpx(W:World):Calls Tryz.prog 162 #[.int .i64 8] W fun e w' => ∃ E,e=.returned (.func (.func 191) #[] #[.pointer (some ⟨E,0,none⟩)])/\Below W.heap.size W w' /\ w'.cell? ⟨E,0,none⟩=some (.func (.func 179) #[] #[]):=by
 have D:Hid (∀ W,Calls _ _ _ _ _):=fun W=>zdx 179 W
 go_enter Tryz.func162,Tryz.ntmps162
 go_wp2_with fail
 refine ye (D.out _) ?_;rintro e V ⟨rfl,F,hc⟩;have I:Hid _:=F;have J:Hid _:=hc;clear F hc D
 go_wp2
 go_ret;exact⟨_,rfl,I.out,J.out⟩
theorem zvu(W:World):Calls Tryz.prog 162 #[.int .i64 1] W fun e w' => e=.returned (.func (.func 165) #[] #[])/\w' = W:=by
 go_enter Tryz.func162,Tryz.ntmps162
 go_wp2
 go_ret;exact⟨rfl,rfl⟩
theorem zvy(W:World):Calls Tryz.prog 162 #[.int .i64 6] W fun e w' => e=.returned (.func (.func 169) #[] #[])/\w' = W:=by
 go_enter Tryz.func162,Tryz.ntmps162
 go_wp2
 go_ret;exact⟨rfl,rfl⟩
theorem zsV(k:Int)(W:World)(h:k≠1/\k≠2/\k≠4/\k≠6/\k≠5/\k≠11/\k≠14/\k≠15/\k≠3/\k≠7/\k≠8):Calls Tryz.prog 162 #[.int .i64 k] W fun e w' => e=.returned .nilFunc/\w' = W:=by
 obtain⟨h1,I,M,O,h5,D,E,F,J,T,U⟩:=h;have b1:(k == 1)=false:=by simp[h1]
 have b2:(k == 2)=false:=by simp[I]
 have b4:(k == 4)=false:=by simp[M]
 have b6:(k == 6)=false:=by simp[O]
 have b5:(k == 5)=false:=by simp[h5]
 have Z:(k == 11)=false:=by simp[D]
 have a5:(k == 14)=false:=by simp[E]
 have a6:(k == 15)=false:=by simp[F]
 have b3:(k == 3)=false:=by simp[J]
 have b7:(k == 7)=false:=by simp[T]
 have b8:(k == 8)=false:=by simp[U]
 clear h1 I M O h5 D E F J T U
 go_enter Tryz.func162,Tryz.ntmps162
 go_wp2
 go_ret;exact⟨rfl,rfl⟩
theorem zqo(w:World):(zeroValue 199).run Tryz.prog w=.ok (.agg #[.bool false,.int .i64 0,.bool false]) w:=by kernel_rfl
theorem zyH(a:Option Addr)(c:Nat)(L:List Fr)(f t x:Int)(w:World)(hN:L.length<=9223372036854775807)(hL:zaS w a L)(hE:zfq L [f,t]≠0) :
  Calls Tryz.prog 137 #[.slice a L.length c,.int .i64 f,.int .i64 t,.int .i64 x] w fun e w' => e=.returned (.int .i64 (zdK L f t x))/\Below w.heap.size w w' := by
 have a7:∀ w:World,(Instr.index 197 (.agg #[.int .i64 f,.int .i64 t]) (.int .i64 0)).run Tryz.prog w=.ok (.int .i64 f) w:=fun _=>by kernel_rfl
 have a8:∀ w:World,(Instr.index 197 (.agg #[.int .i64 f,.int .i64 t]) (.int .i64 1)).run Tryz.prog w=.ok (.int .i64 t) w:=fun _=>by kernel_rfl
 have D:Hid _:=zdW a c L w hN hL;have D1:Hid (∀ W,zaS W a L->_):=fun W hW=>zcB a c L f W hN hW;have D2:Hid (∀ W,zaS W a L->_):=fun W hW=>zcB a c L t W hN hW;have HL:Hid (zaS w a L):=hL;clear hL;by_cases h1:zaM L=0
 ·by_cases T:zaA L f=0
  ·have Z:zaA L t≠0:=fun Z=>hE (zii h1 T Z);rw[ztR h1 T Z];rw[h1] at D;rw[T] at D1;clear h1 T hE;generalize zaA L t=F at *;have a5:(F == 0)=false:=by simp[Z]
   have a6:decide (F=0)=false:=decide_eq_false Z;generalize L.length=n at *
   go_enter Tryz.func137,Tryz.ntmps137
   go_wp2_with fail
   refine ye D.out ?_;rintro e U ⟨rfl,I⟩;have E:Hid (Below w.heap.size w U):=I;clear I
   go_wp2_with fail
   go_loopg [23] 2 (fun g s23 wr=>∃ k:Nat,k<=1/\2-k<=g/\s23=.int .i64 k/\wr=U)
   case atStart=>exact⟨0,by omega,by omega,rfl,rfl⟩
   case round =>
    obtain⟨k,hk,hg,rfl,M⟩:=hrel;have O:=M.symm;clear M;subst O;obtain rfl|rfl:k=0\/k=1:=by omega
    ·go_wp2_with fail
     refine ye (D1.out _ (HL.out.below E.out)) ?_;rintro e w2 ⟨rfl,J⟩;subst J
     go_wp2_with fail
     go_roundg 1
     case measure=>omega
     case rel=>exact⟨1,by omega,by omega,by go_num,rfl⟩
    ·go_wp2_with fail
     refine ye (D2.out _ (HL.out.below E.out)) ?_;rintro e w2 ⟨rfl,J⟩;subst J
     go_wp2_with fail
     go_ret;exact⟨rfl,E.out⟩
  ·rw[zyJ h1 T];rw[h1] at D;clear h1 hE;generalize zaA L f=F at *;have a5:(F == 0)=false:=by simp[T]
   have a6:decide (F=0)=false:=decide_eq_false T;generalize L.length=n at *
   go_enter Tryz.func137,Tryz.ntmps137
   go_wp2_with fail
   refine ye D.out ?_;rintro e U ⟨rfl,I⟩;have E:Hid (Below w.heap.size w U):=I;clear I
   go_wp2_with fail
   go_loopg [23] 2 (fun g s23 wr=>∃ k:Nat,k<=0/\2-k<=g/\s23=.int .i64 k/\wr=U)
   case atStart=>exact⟨0,by omega,by omega,rfl,rfl⟩
   case round =>
    obtain⟨k,hk,hg,rfl,M⟩:=hrel;have O:=M.symm;clear M;subst O;obtain rfl:k=0:=by omega
    go_wp2_with fail
    refine ye (D1.out _ (HL.out.below E.out)) ?_;rintro e w2 ⟨rfl,J⟩;subst J
    go_wp2_with fail
    go_ret;exact⟨rfl,E.out⟩
 ·rw[zyI h1];clear hE;generalize zaM L=F at *;have a5:(F == 0)=false:=by simp[h1]
  have a6:decide (F=0)=false:=decide_eq_false h1;generalize L.length=n at *
  go_enter Tryz.func137,Tryz.ntmps137
  go_wp2_with fail
  refine ye D.out ?_;rintro e U ⟨rfl,I⟩;have E:Hid (Below w.heap.size w U):=I;clear I
  go_wp2_with fail
  go_ret;exact⟨rfl,E.out⟩
theorem zAj(a:Option Addr)(c:Nat)(L:List Fr)(f t x:Int)(w:World)(hx:(Lit.int .i64 x).wf=true)(hN:L.length<=9223372036854775807)(hL:zaS w a L)(hE:zfq L [f,t]=0) :
  Calls Tryz.prog 137 #[.slice a L.length c,.int .i64 f,.int .i64 t,.int .i64 x] w fun e w' => e=.returned (.int .i64 (zdK L f t x))/\Below w.heap.size w w' := by
 obtain⟨h1,h2,h3⟩:=zgf hE;have R:=zdq.1 h1;rw[zwA h1 h2 h3];obtain⟨p,rfl,hp,_⟩:=zfJ h2;obtain⟨q,rfl,hq,_⟩:=zfJ h3;have b1:∀ w:World,(Instr.index 197 (.agg #[.int .i64 (p:Int),.int .i64 (q:Int)]) (.int .i64 0)).run Tryz.prog w=.ok (.int .i64 (p:Int)) w:=fun _=>by kernel_rfl
 have b2:∀ w:World,(Instr.index 197 (.agg #[.int .i64 (p:Int),.int .i64 (q:Int)]) (.int .i64 1)).run Tryz.prog w=.ok (.int .i64 (q:Int)) w:=fun _=>by kernel_rfl
 have D:Hid _:=zdW a c L w hN hL;have D1:Hid (∀ W,zaS W a L->_):=fun W hW=>zcB a c L p W hN hW;have D2:Hid (∀ W,zaS W a L->_):=fun W hW=>zcB a c L q W hN hW;have D4:Hid (∀ M nd O W,zaS W a L->_):=fun M nd O W hW=>zwp a c L p q M nd O W (by have:=R.few;omega) hW hp hq;have HL:Hid (zaS w a L):=hL;rw[h1] at D;rw[h2] at D1;rw[h3] at D2;have LA:Hid (∀ M nd O,zhm x=some (M,nd,O)->ztI L p q M nd O=zsu L p q x):=fun M nd O h=>zwq R hp h;clear hL h1 h2 h3 hE;have a9:=R.few;generalize zsu L p q x=A at *;obtain⟨n,hn⟩:∃ n,L.length=n:=⟨_,rfl⟩;rw[hn] at D D1 D2 D4 hp hq hN a9 |-;clear hn;by_cases hr:1<=x/\x<=5
 ·rw[ya (not_not_intro hr)]
  obtain⟨⟨M,nd,O⟩,a7⟩:∃ r,zhm x=some r:=by
   cases h:zhm x with
   | none=>exact absurd hr (zjP.1 h)
   | some r=>exact⟨r,rfl⟩
  have D5:Hid (∀ W,zaS W a L->_):=fun W hW=>D4.out M nd O W hW;rw[LA.out M nd O a7] at D5;have HR:Hid (zfg 5 (.int .i64 x)=some (rv (M,nd,O))):=(by rw[znt,yb hr.2,a7];rfl:zfg 5 (.int .i64 x)=some (rv (M,nd,O)));clear D4 LA a7 hr;cases A
  all_goals
   simp only[if_true,if_false,Bool.false_eq_true]
   go_enter Tryz.func137,Tryz.ntmps137
   go_wp2_with fail
   refine ye D.out ?_;rintro e w1 ⟨rfl,T⟩;have F:Hid (Below w.heap.size w w1):=T;clear T
   go_wp2_with fail
   go_loopg [23] 2 (fun g s23 wr=>∃ k:Nat,k<=2/\2-k<=g/\s23=.int .i64 k/\wr=w1)
   case atStart=>exact⟨0,by omega,by omega,rfl,rfl⟩
   case round =>
    obtain⟨k,hk,hg,rfl,Z⟩:=hrel;have a5:=Z.symm;clear Z;subst a5;obtain rfl|rfl|rfl:k=0\/k=1\/k=2:=by omega
    ·go_wp2_with fail
     refine ye (D1.out _ (HL.out.below F.out)) ?_;rintro e w2 ⟨rfl,I⟩;subst I
     go_wp2_with fail
     go_roundg 1
     case measure=>omega
     case rel=>exact⟨1,by omega,by omega,by go_num,rfl⟩
    ·go_wp2_with fail
     refine ye (D2.out _ (HL.out.below F.out)) ?_;rintro e w2 ⟨rfl,I⟩;subst I
     go_wp2_with fail
     go_roundg 0
     case measure=>omega
     case rel=>exact⟨2,by omega,by omega,by go_num,rfl⟩
    ·go_wp2_with fail
     refine ye (znu _) ?_;rintro e w2 ⟨b,rfl,hm,U⟩;have E:=hm.look_ok (Maps.int_keyed Tryz.underlying3) (t:=201) Tryz.underlying201 (zqo w2) (zgw hx) trivial;rw[HR.out] at E;dsimp only[Option.getD,Option.isSome,rv] at E;have J:Hid (Below w.heap.size w w2):=F.out.trans (U.mono F.out.size);clear hm U
     go_wp2_with fail
     have a6:∀ o:Obj,Below w.heap.size w (w2.alloc o):=fun o=>J.out.alloc J.out.size o;refine ye (D5.out _ (HL.out.below (a6 _))) ?_;rintro e w3 ⟨rfl,a8⟩;have b0:Hid (Below w.heap.size w w3):=(a6 _).trans (a8.mono (a6 _).size);clear a6 a8
     go_wp2_with fail
     go_ret;exact⟨rfl,b0.out⟩
 ·rw[yb hr];have HR:Hid (zfg 5 (.int .i64 x)=none):=(by rw[znt,zjP.2 hr];split <;> rfl:zfg 5 (.int .i64 x)=none);clear D4 LA hr
  go_enter Tryz.func137,Tryz.ntmps137
  go_wp2_with fail
  refine ye D.out ?_;rintro e w1 ⟨rfl,T⟩;have F:Hid (Below w.heap.size w w1):=T;clear T
  go_wp2_with fail
  go_loopg [23] 2 (fun g s23 wr=>∃ k:Nat,k<=2/\2-k<=g/\s23=.int .i64 k/\wr=w1)
  case atStart=>exact⟨0,by omega,by omega,rfl,rfl⟩
  case round =>
   obtain⟨k,hk,hg,rfl,Z⟩:=hrel;have a5:=Z.symm;clear Z;subst a5;obtain rfl|rfl|rfl:k=0\/k=1\/k=2:=by omega
   ·go_wp2_with fail
    refine ye (D1.out _ (HL.out.below F.out)) ?_;rintro e w2 ⟨rfl,I⟩;subst I
    go_wp2_with fail
    go_roundg 1
    case measure=>omega
    case rel=>exact⟨1,by omega,by omega,by go_num,rfl⟩
   ·go_wp2_with fail
    refine ye (D2.out _ (HL.out.below F.out)) ?_;rintro e w2 ⟨rfl,I⟩;subst I
    go_wp2_with fail
    go_roundg 0
    case measure=>omega
    case rel=>exact⟨2,by omega,by omega,by go_num,rfl⟩
   ·go_wp2_with fail
    refine ye (znu _) ?_;rintro e w2 ⟨b,rfl,hm,U⟩;have E:=hm.look_ok (Maps.int_keyed Tryz.underlying3) (t:=201) Tryz.underlying201 (zqo w2) (zgw hx) trivial;rw[HR.out] at E;dsimp only[Option.getD,Option.isSome] at E;have J:Hid (Below w.heap.size w w2):=F.out.trans (U.mono F.out.size);clear hm U
    go_wp2_with fail
    go_ret;exact⟨rfl,J.out.alloc J.out.size _⟩
theorem zyG(a:Option Addr)(c:Nat)(L:List Fr)(f t x:Int)(w:World)(F:(Lit.int .i64 x).wf=true)(E:L.length<=9223372036854775807)(D:zaS w a L) :
  Calls Tryz.prog 137 #[.slice a L.length c,.int .i64 f,.int .i64 t,.int .i64 x] w fun e w' => e=.returned (.int .i64 (zdK L f t x))/\Below w.heap.size w w' := by
 by_cases h:zfq L [f,t]=0
 ·exact zAj a c L f t x w F E D h
 ·exact zyH a c L f t x w E D h
end Go.Proofs.YtcbcpomacdngmaaGreat
