/-
  x
-/
import Derived.Test.YtcbcpomacdngmaaGreatQ28
namespace Go.Proofs.YtcbcpomacdngmaaGreat
set_option maxRecDepth 100000
set_option maxHeartbeats 4000000
set_option linter.unusedVariables false
open Go.RowKit Go.ChangeShapes Go.WideShapes
theorem zgh(n0 n1 n2 n3 n4:Nat)(E:Int)(k:Int)(la:Option Addr)(lm lc:Nat)(a0 a1 a2 a3 a4:Option Addr)(c0 c1 c2 c3 c4:Nat)(w:World)(hE:E≠0\/E=0/\n0=0)(DT:Hid (∀ V:World,Calls Tryz.prog 9 #[] V fun e w' => e=.returned (.bool true)/\Below V.heap.size V w'))
  (DK:Hid (∀ V,Below w.heap.size w V->Calls Tryz.prog 10 #[.agg #[.slice a0 n0 c0,.slice a1 n1 c1,.slice a2 n2 c2,.slice a3 n3 c3,.slice a4 n4 c4]] V fun e w' => e=.returned (.int .i64 E)/\Below V.heap.size V w')) :
  Calls Tryz.prog 7 #[.agg #[.slice a0 n0 c0,.slice a1 n1 c1,.slice a2 n2 c2,.slice a3 n3 c3,.slice a4 n4 c4],.int .i64 k,.slice la lm lc] w fun e w' => e=.returned (.bool true)/\Below w.heap.size w w' := by
 rcases hE with hE |⟨rfl,rfl⟩
 ·
  go_enter Tryz.func7,Tryz.ntmps7
  go_wp2_with fail
  refine ye (DT.out _) ?_;rintro e w1 ⟨rfl,D⟩;have I:Hid (w1.heap[w.heap.size]?=some (.cells #[.slice a0 n0 c0,.slice a1 n1 c1,.slice a2 n2 c2,.slice a3 n3 c3,.slice a4 n4 c4] 28 (0,0))):=zaD (heap_alloc_new w _) D;have F:Hid (Below w.heap.size w w1):=(zaa w _).trans (D.mono (by simp));clear D;obtain⟨J,M,O,T,U,Z,pl⟩:=zaV I.out
  go_wp2_with fail
  refine ye (DK.out _ F.out) ?_;rintro e w2 ⟨rfl,D⟩;have B2:Hid (Below w.heap.size w w2):=F.out.trans (D.mono F.out.size);have K2:Hid _:=zaD I.out D;clear J M O T U Z pl D I;obtain⟨J,M,O,T,U,Z,pl⟩:=zaV K2.out
  go_wp2_with fail
  refine ye (DT.out _) ?_;rintro e w3 ⟨rfl,D⟩;have B3:Hid (Below w.heap.size w w3):=B2.out.trans (D.mono B2.out.size);clear D J M O T U Z pl
  go_wp2
  go_ret;exact⟨rfl,B3.out⟩
 ·
  go_enter Tryz.func7,Tryz.ntmps7
  go_wp2_with fail
  refine ye (DT.out _) ?_;rintro e w1 ⟨rfl,D⟩;have I:Hid (w1.heap[w.heap.size]?=some (.cells #[.slice a0 0 c0,.slice a1 n1 c1,.slice a2 n2 c2,.slice a3 n3 c3,.slice a4 n4 c4] 28 (0,0))):=zaD (heap_alloc_new w _) D;have F:Hid (Below w.heap.size w w1):=(zaa w _).trans (D.mono (by simp));clear D;obtain⟨J,M,O,T,U,Z,pl⟩:=zaV I.out
  go_wp2_with fail
  refine ye (DK.out _ F.out) ?_;rintro e w2 ⟨rfl,D⟩;have B2:Hid (Below w.heap.size w w2):=F.out.trans (D.mono F.out.size);have K2:Hid _:=zaD I.out D;clear J M O T U Z pl D I;obtain⟨J,M,O,T,U,Z,pl⟩:=zaV K2.out
  go_wp2_with fail
  refine ye (DT.out _) ?_;rintro e w3 ⟨rfl,D⟩;have B3:Hid (Below w.heap.size w w3):=B2.out.trans (D.mono B2.out.size);clear D J M O T U Z pl
  go_wp2
  go_ret;exact⟨rfl,B3.out⟩
theorem zvS(n n4:Nat)(a0 a1 a2 a3 a4:Option Addr)(c0 c1 c2 c3 c4:Nat)(w:World)(DT:Hid (∀ V:World,Calls Tryz.prog 9 #[] V fun e w' => e=.returned (.bool true)/\Below V.heap.size V w'))
  (DK:Hid (∀ V,Below w.heap.size w V->Calls Tryz.prog 10 #[.agg #[.slice a0 n c0,.slice a1 n c1,.slice a2 n c2,.slice a3 n c3,.slice a4 n4 c4]] V fun e w' => e=.returned (.int .i64 0)/\Below V.heap.size V w')) (k:Int) (I:Nat) (AT:Hid (∀ w:World,Calls Tryz.prog 11 #[.int .i64 k,.int .i64 n] w fun e w' => e=.returned (.int .i64 (I:Int))/\w' = w)) (la:Option Addr) (lm lc O T:Nat) (M:Int) (a7:0<n) (a6:I<n) (a9:n<=8) (ea:a0=some ⟨O,T,none⟩) (f2:w.cell? ⟨O,T+I*5+2,none⟩=some (.int .i64 M)) (f4:w.cell? ⟨O,T+I*5+4,none⟩=some (.bool false)) (hM:bits .and .i64 M 1≠0) :
  Calls Tryz.prog 7 #[.agg #[.slice a0 n c0,.slice a1 n c1,.slice a2 n c2,.slice a3 n c3,.slice a4 n4 c4],.int .i64 k,.slice la lm lc] w fun e w' => e=.returned (.bool true)/\Below w.heap.size w w' := by
 subst ea;have F2:Hid _:=f2;have F4:Hid _:=f4;have a8:¬ ((n:Int)=0):=by omega
 have a5:(I:Int)<n:=by omega
 clear f2 f4
 go_enter Tryz.func7,Tryz.ntmps7
 go_wp2_with fail
 refine ye (DT.out _) ?_;rintro e w1 ⟨rfl,D⟩;have Z:Hid (w1.heap[w.heap.size]?=some (.cells #[.slice (some ⟨O,T,none⟩) n c0,.slice a1 n c1,.slice a2 n c2,.slice a3 n c3,.slice a4 n4 c4] 28 (0,0))):=zaD (heap_alloc_new w _) D;have J:Hid (Below w.heap.size w w1):=(zaa w _).trans (D.mono (by simp));clear D;obtain⟨p0,p1,p2,p3,p4,pf,pl⟩:=zaV Z.out
 go_wp2_with fail
 refine ye (DK.out _ J.out) ?_;rintro e w2 ⟨rfl,D⟩;have U:Hid (Below w.heap.size w w2):=J.out.trans (D.mono J.out.size);have K2:Hid _:=zaD Z.out D;clear p0 p1 p2 p3 p4 pf pl D Z J DT DK;obtain⟨p0,p1,p2,p3,p4,pf,pl⟩:=zaV K2.out
 go_wp2_with fail
 refine ye (AT.out _) ?_;rintro e w3 ⟨rfl,E⟩;have F:=E.symm;clear E;subst F;have g2:=zab F2.out U.out;have g4:=zab F4.out U.out
 go_wp2
 go_ret;exact⟨rfl,U.out⟩
theorem ztn(n n4:Nat)(a0 a1 a2 a3 a4:Option Addr)(c0 c1 c2 c3 c4:Nat)(w:World)(DT:Hid (∀ V:World,Calls Tryz.prog 9 #[] V fun e w' => e=.returned (.bool true)/\Below V.heap.size V w'))
  (DK:Hid (∀ V,Below w.heap.size w V->Calls Tryz.prog 10 #[.agg #[.slice a0 n c0,.slice a1 n c1,.slice a2 n c2,.slice a3 n c3,.slice a4 n4 c4]] V fun e w' => e=.returned (.int .i64 0)/\Below V.heap.size V w')) (k:Int) (D:Nat) (AT:Hid (∀ w:World,Calls Tryz.prog 11 #[.int .i64 k,.int .i64 n] w fun e w' => e=.returned (.int .i64 (D:Int))/\w' = w)) (la:Option Addr) (lm lc m q1 m4:Nat) (W Z:Wl) (L:List (Int × Bool)) (S:List Int) (j6:0<n) (a9:D<n) (j8:n<=8) (h9:m<=30) (i0:min (lm:Int) 30=(m:Int))
  (j9:∀ W,(Instr.slice 71 (.slice la lm lc) none (some (.int .i64 (m:Int))) none).run Tryz.prog W=.ok (.slice la m q1) W)
  (c9:W.fs.length=n) (d5:W.rs.length=n) (d4:Z.fs.length=n) (d6:Z.rs.length=n) (b9:L.length=m) (c7:S.length=m) (hW:Hid (zic w ⟨a0,a1,a2,a3,a4,c0,c1,c2,c3,c4⟩ W)) (hP:Hid (zdG w la L))
  (D2:Hid (∀ (X:Nat->Prop) V,(∀ b,X b->b<V.heap.size)->Below w.heap.size w V->(∀ b,X b->w.heap.size<=b)->Calls Tryz.prog 20 #[.agg #[.slice a0 n c0,.slice a1 n c1,.slice a2 n c2,.slice a3 n c3,.slice a4 n4 c4],.slice la m q1] V fun e w' => ∃ (f0 f1 f2 f3 f4 O:Option Addr) (J g1 g2 g3 I T:Nat),e=.returned (.tuple #[.agg #[.slice f0 n J,.slice f1 n g1,.slice f2 n g2,.slice f3 n g3,.slice f4 m4 I],.slice O m T,.int .i64 0])/\Below V.heap.size V w' /\ WlC ⟨f0,f1,f2,f3,f4,J,g1,g2,g3,I⟩ Z/\ziA X w' ⟨f0,f1,f2,f3,f4,J,g1,g2,g3,I⟩ Z/\St X (fun w=>zaj w O S) w'))
  (DQ:Hid (∀ A B V,zcp V A (rl Z.rs D)->zcp V B (rl W.rs D)->rl Z.rs D=rl W.rs D->Calls Tryz.prog 17 #[rlV A (rl Z.rs D),rlV B (rl W.rs D)] V fun e w' => e=.returned (.bool true)/\Below V.heap.size V w'))
  (hI:(fr W.fs D).g=true\/(fr W.fs D).g=false/\bits .and .i64 (fr W.fs D).m 1=0)
  (h7:Hid (∀ i,i<m->(pk L i).1=D->S.getD i 0≠0)) (b4:Hid ((fr Z.fs D).t=(fr W.fs D).t->rl Z.rs D=rl W.rs D)) :
  Calls Tryz.prog 7 #[.agg #[.slice a0 n c0,.slice a1 n c1,.slice a2 n c2,.slice a3 n c3,.slice a4 n4 c4],.int .i64 k,.slice la lm lc] w fun e w' => e=.returned (.bool true)/\Below w.heap.size w w' := by
 obtain⟨fb,fo,ea,f0,f1,f2,f3,f4⟩:=hW.out.fs D (by omega);dsimp only at ea;subst ea;have F2:Hid _:=f2;have F3:Hid _:=f3;have F4:Hid _:=f4;have e8:Hid (Z.fs.length=n):=d4;have g6:Hid (Z.rs.length=n):=d6;have i1:Hid (W.fs.length=n):=c9;have g5:Hid (W.rs.length=n):=d5;have e9:Hid (L.length=m):=b9;have g7:Hid (S.length=m):=c7;have j7:¬ ((n:Int)=0):=by omega
 have j5:(D:Int)<n:=by omega
 clear f0 f1 f2 f3 f4 c9 d5 d4 d6 b9 c7
 go_enter Tryz.func7,Tryz.ntmps7
 go_wp2_with fail
 refine ye (DT.out _) ?_;rintro e w1 ⟨rfl,hb⟩;have K1:Hid (w1.heap[w.heap.size]?=some (.cells #[.slice (some ⟨fb,fo,none⟩) n c0,.slice a1 n c1,.slice a2 n c2,.slice a3 n c3,.slice a4 n4 c4] 28 (0,0))):=zaD (heap_alloc_new w _) hb;have B1:Hid (Below w.heap.size w w1):=(zaa w _).trans (hb.mono (by simp));clear hb;obtain⟨p0,p1,p2,p3,p4,pf,pl⟩:=zaV K1.out
 go_wp2_with fail
 refine ye (DK.out _ B1.out) ?_;rintro e F ⟨rfl,hb⟩;have B2:Hid (Below w.heap.size w F):=B1.out.trans (hb.mono B1.out.size);have K2:Hid _:=zaD K1.out hb;clear p0 p1 p2 p3 p4 pf pl hb K1 B1 DT DK;obtain⟨p0,p1,p2,p3,p4,pf,pl⟩:=zaV K2.out
 go_wp2_with fail
 refine ye (AT.out _) ?_;rintro e w3 ⟨rfl,d7⟩;have d8:=d7.symm;clear d7;subst d8;have g2:=zab F2.out B2.out;have I:=zab F4.out B2.out
 go_upto_region 4 with fail
 go_cut [47] (fun s47 wx=>s47=.bool false/\wx=F)
 case first =>
  rcases hI with h |⟨h,h2⟩
  ·rw[h] at I
   go_wp2_with fail
   go_meet
   case rel=>exact⟨rfl,rfl⟩
  ·rw[h] at I
   go_wp2_with fail
   go_meet
   case rel=>exact⟨rfl,rfl⟩
 case rest =>
 obtain⟨rfl,d9⟩:=hcut;have e5:=d9.symm;clear d9;subst e5;clear hI g2 I;have X3:Hid (∀ V,Below F.heap.size F V->Below w.heap.size w V):=fun V hV=>B2.out.trans (hV.mono B2.out.size);have sw:¬ F.heap.size=w.heap.size:=by omega
 have h8:¬ w.heap.size=F.heap.size:=by omega
 go_upto_region 6 with fail
 go_cut [7,8,9] (fun s7 s8 s9 wx=>∃ (bb:Nat) (f0 f1 f2 f3 f4 O:Option Addr) (J g1 g2 g3 I T:Nat),s7=.pointer (some ⟨bb,0,none⟩)/\s9=.int .i64 0/\s8=.slice O m T/\Hid (Below F.heap.size F wx/\F.heap.size<=bb/\wx.heap[bb]?=some (.cells #[.slice f0 n J,.slice f1 n g1,.slice f2 n g2,.slice f3 n g3,.slice f4 m4 I] 28 (0,0))/\WlC ⟨f0,f1,f2,f3,f4,J,g1,g2,g3,I⟩ Z/\zic wx ⟨f0,f1,f2,f3,f4,J,g1,g2,g3,I⟩ Z/\zaj wx O S))
 case first =>
  go_region_held3 (fun E=>E.cell? ⟨w.heap.size,0,none⟩=some (.slice (some ⟨fb,fo,none⟩) n c0)/\E.cell? ⟨w.heap.size,1,none⟩=some (.slice a1 n c1)/\E.cell? ⟨w.heap.size,2,none⟩=some (.slice a2 n c2)/\E.cell? ⟨w.heap.size,3,none⟩=some (.slice a3 n c3)/\E.cell? ⟨w.heap.size,4,none⟩=some (.slice a4 n4 c4)) (go_keep) (first|(go_at_call 20;refine ye (D2.out (fun _=>False) F.drew (fun _ h=>h.elim) (X3.out _ (yk _ _).drew) (fun _ h=>h.elim)) ?_;rintro e w3 ⟨f0,f1,f2,f3,f4,O,J,g1,g2,g3,I,T,rfl,a5,a6,a8,a7⟩;have B3:Hid (Below F.heap.size F w3):=(yk F.heap.size F).drew.trans (a5.mono (by simp));have N3:Hid (St (fun c=>c=w3.heap.size) (fun w=>zic w ⟨f0,f1,f2,f3,f4,J,g1,g2,g3,I⟩ Z) w3):=St.new a8 (fun c e=>Nat.le_of_eq e.symm);have M3:Hid (St (fun c=>c=w3.heap.size) (fun w=>zaj w O S) w3):=St.new a7 (fun c e=>Nat.le_of_eq e.symm);have C3:Hid (WlC ⟨f0,f1,f2,f3,f4,J,g1,g2,g3,I⟩ Z):=a6;have b6:=zab p0 B3.out;have b8:=zab p1 B3.out;have g8:=zab p2 B3.out;have g9:=zab p3 B3.out;have h3:=zab p4 B3.out;clear a5 a8 a6 a7)|(go_at_call 20;refine ye (D2.out (fun c=>c=F.heap.size) (F.alloc (.cells #[.slice none 0 0,.slice none 0 0,.slice none 0 0,.slice none 0 0,.slice none 0 0] 28)).drew (fun c e=>by rw[e];simp) (X3.out _ (zaa _ _).drew) (fun c e=>by rw[e];exact B2.out.size)) ?_;rintro e w3 ⟨f0,f1,f2,f3,f4,O,J,g1,g2,g3,I,T,rfl,a5,a6,a8,a7⟩;have B3:Hid (Below F.heap.size F w3):=(zaa F _).drew.trans (a5.mono (by simp));have N3:Hid (St (fun c=>c=F.heap.size) (fun w=>zic w ⟨f0,f1,f2,f3,f4,J,g1,g2,g3,I⟩ Z) w3):=a8;have M3:Hid (St (fun c=>c=F.heap.size) (fun w=>zaj w O S) w3):=a7;have C3:Hid (WlC ⟨f0,f1,f2,f3,f4,J,g1,g2,g3,I⟩ Z):=a6;have XA:Hid (w3.heap[F.heap.size]?=some (.cells #[.slice none 0 0,.slice none 0 0,.slice none 0 0,.slice none 0 0,.slice none 0 0] 28 (0,0))):=(a5.block _ (by simp)).trans (heap_alloc_new F _);have b6:=zab p0 B3.out;have b8:=zab p1 B3.out;have g8:=zab p2 B3.out;have g9:=zab p3 B3.out;have h3:=zab p4 B3.out;clear a5 a8 a6 a7;obtain⟨x0,x1,x2,x3,x4,xf,xl⟩:=zaV XA.out))
  all_goals first
   |(have HQ:Hid (Below F.heap.size F (set5 w3 F.heap.size (.slice f0 n J) (.slice f1 n g1) (.slice f2 n g2) (.slice f3 n g3) (.slice f4 m4 I))/\F.heap.size<=F.heap.size/\(set5 w3 F.heap.size (.slice f0 n J) (.slice f1 n g1) (.slice f2 n g2) (.slice f3 n g3) (.slice f4 m4 I)).heap[F.heap.size]?=some (.cells #[.slice f0 n J,.slice f1 n g1,.slice f2 n g2,.slice f3 n g3,.slice f4 m4 I] 28 (0,0))/\WlC ⟨f0,f1,f2,f3,f4,J,g1,g2,g3,I⟩ Z/\zic (set5 w3 F.heap.size (.slice f0 n J) (.slice f1 n g1) (.slice f2 n g2) (.slice f3 n g3) (.slice f4 m4 I)) ⟨f0,f1,f2,f3,f4,J,g1,g2,g3,I⟩ Z/\zaj (set5 w3 F.heap.size (.slice f0 n J) (.slice f1 n g1) (.slice f2 n g2) (.slice f3 n g3) (.slice f4 m4 I)) O S):=⟨zhy B3.out (yj _) _ _ _ _ _,yj _,zmf XA.out,C3.out,N3.out _ (zlT (X:=fun c=>c=F.heap.size) rfl),M3.out _ (zlT (X:=fun c=>c=F.heap.size) rfl)⟩
     go_wp2_with fail
     go_meet
     case rel=>exact⟨F.heap.size,f0,f1,f2,f3,f4,O,J,g1,g2,g3,I,T,rfl,rfl,rfl,HQ⟩)
   |(have HQ:Hid (Below F.heap.size F (w3.alloc (.cells #[.slice f0 n J,.slice f1 n g1,.slice f2 n g2,.slice f3 n g3,.slice f4 m4 I] 28))/\F.heap.size<=w3.heap.size/\(w3.alloc (.cells #[.slice f0 n J,.slice f1 n g1,.slice f2 n g2,.slice f3 n g3,.slice f4 m4 I] 28)).heap[w3.heap.size]?=some (.cells #[.slice f0 n J,.slice f1 n g1,.slice f2 n g2,.slice f3 n g3,.slice f4 m4 I] 28 (0,0))/\WlC ⟨f0,f1,f2,f3,f4,J,g1,g2,g3,I⟩ Z/\zic (w3.alloc (.cells #[.slice f0 n J,.slice f1 n g1,.slice f2 n g2,.slice f3 n g3,.slice f4 m4 I] 28)) ⟨f0,f1,f2,f3,f4,J,g1,g2,g3,I⟩ Z/\zaj (w3.alloc (.cells #[.slice f0 n J,.slice f1 n g1,.slice f2 n g2,.slice f3 n g3,.slice f4 m4 I] 28)) O S):=⟨B3.out.alloc B3.out.size _,B3.out.size,heap_alloc_new w3 _,C3.out,N3.out _ (zaq.of_below (zaa w3 _)),M3.out _ (zaq.of_below (zaa w3 _))⟩
     go_wp2_with fail
     go_meet
     case rel=>exact⟨w3.heap.size,f0,f1,f2,f3,f4,O,J,g1,g2,g3,I,T,rfl,rfl,rfl,HQ⟩)
 case rest =>
 obtain⟨b7,f0,f1,f2,f3,f4,O,J,g1,g2,g3,I,T,rfl,rfl,rfl,b5⟩:=hcut;obtain⟨B6,l6,x6,c6,y6,i6⟩:=b5.out;have U:Hid (Below w.heap.size w wc):=X3.out _ B6;have X6:Hid _:=x6;have Y6:Hid (zic wc ⟨f0,f1,f2,f3,f4,J,g1,g2,g3,I⟩ Z):=y6;have I6:Hid (zaj wc O S):=i6;have K6:Hid _:=zaD K2.out B6;have W6:Hid (zic wc ⟨some ⟨fb,fo,none⟩,a1,a2,a3,a4,c0,c1,c2,c3,c4⟩ W):=hW.out.below U.out;have P6:Hid (zdG wc la L):=hP.out.below U.out;have e7:Hid _:=zab F3.out U.out;clear B6 x6 c6 y6 i6 b5 K2 hW hP F2 F3 F4 X3 sw h8 p0 p1 p2 p3 p4 pf pl D2 l6 B2
 go_wp2_with fail
 go_loopg [67] m (fun g s67 wr=>∃ i:Nat,i<=m/\m-i<=g/\s67=.int .i64 i/\Hid (Below wc.heap.size wc wr))
 case atStart=>exact⟨0,Nat.zero_le _,by omega,rfl,yk _ _⟩
 case round =>
  obtain⟨i,hi,hg,rfl,M⟩:=hrel;by_cases b0:i<m
  ·obtain⟨lb,lo,el,x0,x1⟩:=(P6.out.below M.out) i (by rw[e9.out];exact b0);obtain⟨sb,so,es,y0⟩:=(I6.out.below M.out) i (by rw[g7.out];exact b0);subst el es;have NO:Hid _:=h7.out i b0;have h4:(i:Int)<m:=by omega
   generalize (pk L i).1=xf at x0 NO;generalize (pk L i).2=xs at x1;generalize S.getD i 0=xe at y0 NO;have k0:lb<wr.heap.size:=yd _ _ x0;have k1:sb<wr.heap.size:=yd _ _ y0;by_cases hp:xf=D
   ·have he:¬ xe=0:=NO.out hp;subst hp
    go_wp2_with fail
    go_roundg (m-(i+1))
    case measure=>omega
    case rel=>exact⟨i+1,by omega,by omega,by go_num,M.out.trans ((zaa wr _).mono M.out.size)⟩
   ·go_wp2_with fail
    go_roundg (m-(i+1))
    case measure=>omega
    case rel=>exact⟨i+1,by omega,by omega,by go_num,M.out.trans ((zaa wr _).mono M.out.size)⟩
  ·have h6:i=m:=by omega
   have h4:¬ ((i:Int)<m):=by omega
   clear h6;obtain⟨p0,p1,p2,p3,p4,pf,pl⟩:=zaV (zaD K6.out M.out);obtain⟨z0,z1,z2,z3,z4,zf,zl⟩:=zaV (zaD X6.out M.out);obtain⟨zb,zo,ez,e0,e1,e2,e3,e4⟩:=(Y6.out.below M.out).fs D (by rw[e8.out];exact a9);obtain⟨rb,ro,A,er,r0,r1,r2,r3,hr⟩:=(Y6.out.below M.out).rs D (by rw[g6.out];exact a9);obtain⟨vb,vo,B,ev,v0,v1,v2,v3,hv⟩:=(W6.out.below M.out).rs D (by rw[g5.out];exact a9);have g3:=zab e7.out M.out;dsimp only at ez er ev;subst ez er ev;have HR:Hid (zcp wr A (rl Z.rs D)):=hr;have HV:Hid (zcp wr B (rl W.rs D)):=hv;clear hr hv e0 e1 e2 e4;obtain⟨A0,A1,A2,A3,C0,C1,C2,C3⟩:=A;obtain⟨E0,E1,E2,E3,G0,G1,G2,G3⟩:=B;dsimp only at r0 r1 r2 r3 v0 v1 v2 v3;by_cases ht:(fr Z.fs D).t=(fr W.fs D).t
   ·have SM:Hid _:=b4.out ht;have e6:Hid (∀ V,Below wr.heap.size wr V->Calls Tryz.prog 17 #[.agg #[.slice A0 (rl Z.rs D).s.length C0,.slice A1 (rl Z.rs D).hs.length C1,.slice A2 (rl Z.rs D).i.length C2,.slice A3 (rl Z.rs D).t.length C3],.agg #[.slice E0 (rl W.rs D).s.length G0,.slice E1 (rl W.rs D).hs.length G1,.slice E2 (rl W.rs D).i.length G2,.slice E3 (rl W.rs D).t.length G3]] V fun e w' => e=.returned (.bool true)/\Below V.heap.size V w'):=fun V hV=>DQ.out ⟨A0,A1,A2,A3,C0,C1,C2,C3⟩ ⟨E0,E1,E2,E3,G0,G1,G2,G3⟩ V (HR.out.below hV) (HV.out.below hV) SM.out;rw[ht] at e3;generalize (fr W.fs D).t=tt at e3 g3;clear ht DQ SM HR HV
    go_upto_region 15 with fail
    go_region_held3 (fun E=>E.cell? ⟨w.heap.size,0,none⟩=some (.slice (some ⟨fb,fo,none⟩) n c0)/\E.cell? ⟨w.heap.size,1,none⟩=some (.slice (some ⟨vb,vo,none⟩) n c1)/\E.cell? ⟨b7,0,none⟩=some (.slice (some ⟨zb,zo,none⟩) n J)/\E.cell? ⟨b7,1,none⟩=some (.slice (some ⟨rb,ro,none⟩) n g1)/\E.cell? ⟨zb,zo+D*5+3,none⟩=some (.int .i64 tt)/\E.cell? ⟨fb,fo+D*5+3,none⟩=some (.int .i64 tt)/\E.cell? ⟨rb,ro+D*4,none⟩=some (.slice A0 (rl Z.rs D).s.length C0)/\E.cell? ⟨rb,ro+D*4+1,none⟩=some (.slice A1 (rl Z.rs D).hs.length C1)/\E.cell? ⟨rb,ro+D*4+2,none⟩=some (.slice A2 (rl Z.rs D).i.length C2)/\E.cell? ⟨rb,ro+D*4+3,none⟩=some (.slice A3 (rl Z.rs D).t.length C3)/\E.cell? ⟨vb,vo+D*4,none⟩=some (.slice E0 (rl W.rs D).s.length G0)/\E.cell? ⟨vb,vo+D*4+1,none⟩=some (.slice E1 (rl W.rs D).hs.length G1)/\E.cell? ⟨vb,vo+D*4+2,none⟩=some (.slice E2 (rl W.rs D).i.length G2)/\E.cell? ⟨vb,vo+D*4+3,none⟩=some (.slice E3 (rl W.rs D).t.length G3)) (go_keep) (first|(go_at_call 17;refine ye (e6.out _ (yk _ _).drew) ?_;rintro e w8 ⟨rfl,c8⟩;have B8:Hid (Below wr.heap.size wr w8):=(yk wr.heap.size wr).drew.trans (c8.mono (by simp));have b6:=zab p0 B8.out;have b8:=zab p1 B8.out;have j3:=zab z0 B8.out;have j4:=zab z1 B8.out;have i2:=zab e3 B8.out;have i3:=zab g3 B8.out;have i4:=zab r0 B8.out;have i5:=zab r1 B8.out;have i7:=zab r2 B8.out;have i8:=zab r3 B8.out;have i9:=zab v0 B8.out;have j0:=zab v1 B8.out;have j1:=zab v2 B8.out;have j2:=zab v3 B8.out;  clear c8))
    all_goals
     go_wp2
     go_ret;exact⟨rfl,U.out.trans ((M.out.trans (B8.out.mono M.out.size)).mono U.out.size)⟩
   ·generalize (fr Z.fs D).t=tz at e3 ht;generalize (fr W.fs D).t=tt at g3 ht;have b1:decide (tz=tt)=false:=decide_eq_false ht;have b2:(tz != tt)=true:=by simpa using ht
    have b3:(tz == tt)=false:=by simpa using ht
    clear DQ HR HV
    go_upto_region 15 with fail
    go_big_quiet (fail)
    go_wp2
    go_ret;exact⟨rfl,U.out.trans ((zdR M.out _).mono U.out.size)⟩
theorem znh(hN:zpo)(hK:zgN)(hR:zhw)(hQ:zxo)(A:WA)(W:Wl)(k:Int)(J:Option Addr)(O:Nat)(L:List (Int × Bool))(w:World)(hB:zsc W)(hC:WlC A W)(T:zic w A W)(hL:SlA J L.length O)(hP:zdG w J L) :
  Calls Tryz.prog 7 #[wlV A W,.int .i64 k,.slice J L.length O] w fun e w' => e=.returned (.bool true)/\Below w.heap.size w w' := by
 obtain⟨a0,a1,a2,a3,a4,c0,c1,c2,c3,c4⟩:=A;have DT:Hid (∀ V:World,Calls Tryz.prog 9 #[] V fun e w' => e=.returned (.bool true)/\Below V.heap.size V w'):=fun V=>zuZ hN hR V;by_cases hE:zbp W=0
 ·have H:=zck.1 hE;by_cases h0:W.fs.length=0
  ·exact zgh _ _ _ _ _ (zbp W) k J _ O a0 a1 a2 a3 a4 c0 c1 c2 c3 c4 w (Or.inr ⟨hE,h0⟩) DT (fun V F=>zlA hK hB rfl hC (T.below F))
  ·show Calls Tryz.prog _ #[.agg #[.slice a0 W.fs.length c0,.slice a1 W.rs.length c1,.slice a2 W.ps.length c2,.slice a3 W.qs.length c3,.slice a4 W.pt.length c4],_,_] w _;rw[H.lr,H.lp,H.lq];obtain⟨E,D,U⟩:=zzx k W.fs.length (by omega) (by have:=H.fs.few;omega);have DK:Hid (∀ V,Below w.heap.size w V->Calls _ _ _ _ _):=fun V F=>checkN hK H rfl rfl hC (T.below F);by_cases hI:Idle W E
   ·have hm:min L.length 30<=L.length:=Nat.min_le_left _ _;have Z:min L.length 30<=30:=Nat.min_le_right _ _;have I:min (L.length:Int) 30=((min L.length 30:Nat):Int):=by omega
    generalize min L.length 30=m at hm Z I;obtain⟨q1,a9,a8⟩:=zAV J L.length m O hm hL;have M:(L.take m).length=m:=by rw[List.length_take];omega
    obtain⟨⟨_,hs⟩,a7⟩:=zmX (L.take m) H D hI;obtain⟨HZ,a5⟩:=zfX (L.take m) H;refine ztn W.fs.length W.pt.length a0 a1 a2 a3 a4 c0 c1 c2 c3 c4 w DT DK k E U J L.length O m q1 ((L.take m).foldl zdC W).pt.length W ((L.take m).foldl zdC W) (L.take m) (znv W (L.take m)) (by omega) D H.fs.few Z I a9 rfl H.lr a5 (HZ.lr.trans a5) M (by rw[ziT,M]) T (hP.take m) (fun X V hX F a6=>runN hR X H (by omega) rfl rfl rfl rfl rfl M hX hC (zAG T F a6) a8 ((hP.take m).below F)) ?_ ?_ (fun i hi=>a7 i (by omega)) (fun h=>hs h)
    ·exact fun A B V h1 h2 h3=>(hQ A B _ _ V (zdo (HZ.rs E (by omega))) h1 h2).mono fun e w' ⟨r,he,hb,hr⟩=>⟨by rw[he,hr.2 h3],hb⟩
    ·rcases hI with h|h
     ·exact Or.inl h
     ·cases hg:(fr W.fs E).g with
      | true=>exact Or.inl rfl
      | false=>exact Or.inr ⟨rfl,h⟩
   ·obtain⟨fb,fo,ea,f0,f1,f2,f3,f4⟩:=T.fs E D
    have hg:(fr W.fs E).g=false:=by
     cases hg:(fr W.fs E).g with
     | true=>exact absurd (Or.inl hg) hI
     | false=>rfl
    rw[hg] at f4;exact zvS W.fs.length W.pt.length a0 a1 a2 a3 a4 c0 c1 c2 c3 c4 w DT DK k E U J L.length O fb fo (fr W.fs E).m (by omega) D H.fs.few ea f2 f4 (fun h=>hI (Or.inr h))
 ·exact zgh _ _ _ _ _ (zbp W) k J _ O a0 a1 a2 a3 a4 c0 c1 c2 c3 c4 w (Or.inl hE) DT (fun V F=>zlA hK hB rfl hC (T.below F))
structure EGr where
 ga:Option Addr
 gl:Nat
 gc:Nat
def zxr(x:EGr):Nat->Value
 | _=>.slice x.ga x.gl x.gc
theorem zAb(n:Nat)(hn:n<=100000)(w:World):(Instr.makeSlice 119 (.int .i64 (n:Int)) (.int .i64 (n:Int))).run Tryz.prog w=.ok (.slice (some ⟨w.heap.size,0,none⟩) n n) (w.alloc (.cells (madeCells #[.slice none 0 0] (n*1)) 47)):=by
 have I:(Tryz.prog.info? 47).map (fun i=>(i.zero,i.size,i.bytes))=some (some (.agg #[.slice none 0 0]),1,24):=by kernel_rfl
 obtain⟨i,hi,D,E,F⟩:=info_parts I;have h:=run_make (P:=Tryz.prog) w 119 47 i _ Tryz.underlying119 hi D .i64 .i64 n n (by omega) (by omega) (by rw[F];omega) (by omega);rw[E] at h;simp only[yi] at h;exact h
theorem zaC.putGr{w:World}{g n k:Nat}{F:Nat->Value}(h:w.rowIs g 47 (n*1) F)(x:EGr):∃ D,(w.setCell ⟨g,k,none⟩ (.slice x.ga x.gl x.gc)).rowIs g 47 (n*1) D/\(∀ j,j<1->D (k*1+j)=zxr x j)/\∀ i,i<k->∀ j,j<1->D (i*1+j)=F (i*1+j):=by
 refine⟨_,h.set _ _,fun j E=>?_,fun i hi j E=>?_⟩
 ·obtain rfl:j=0:=by omega
  exact yb (by omega)
 ·exact ya (by omega)
theorem zzE(K:Nat)(eg:∀ args w,(callFunc K args).run Tryz.prog w=.ok (.enter K args) w)(a:Option Addr)(c n:Nat)(S:Nat->EGr)(R:Nat->EGr->Nat->Nat->World->Prop)(w:World)(hn:n<=100000)
  (hs:∀ i,i<n->∃ b o,a=some ⟨b,o,none⟩/\w.cell? ⟨b,o+i,none⟩=some (.slice (S i).ga (S i).gl (S i).gc))
  (hK:∀ i,i<n->∀ W,Below w.heap.size w W->Calls Tryz.prog K #[.agg #[.slice (S i).ga (S i).gl (S i).gc]] W fun e U=>∃ y:EGr,e=.returned (.agg #[.slice y.ga y.gl y.gc])/\Below W.heap.size W U/\St (fun b=>b<W.heap.size\/U.heap.size<=b) (R i y W.heap.size U.heap.size) U) :
  Calls Tryz.prog 109 #[.slice a n c,.func (.func K) #[] #[]] w fun e w' => e=.returned (.slice (some ⟨w.heap.size,0,none⟩) n n)/\Below w.heap.size w w' /\ zaC zxr 47 1 n R w.heap.size n w' := by
 have HS:Hid _:=hs;have HK:Hid _:=hK;clear hs hK;have b3:=zAb n hn
 go_enter Tryz.func109,Tryz.ntmps109
 go_wp2
 go_loopg [13] n (fun m s13 wr=>∃ k:Nat,k<=n/\n-k<=m/\s13=.int .i64 k/\Below w.heap.size w wr/\Hid (zaC zxr 47 1 n R w.heap.size k wr))
 case atStart=>exact⟨0,by omega,by omega,rfl,zaa _ _,(by have h:=zaC.zero (cv:=zxr) w #[.slice none 0 0] 47 1 n R (S 0);rw[Nat.mul_one] at h;exact h)⟩
 case round =>
  obtain⟨k,hk,hg,rfl,M,O⟩:=hrel;by_cases J:k<n
  ·have b0:(k:Int)<(n:Int):=by omega
   obtain⟨b,o,rfl,c0⟩:=HS.out k J;replace c0:=zab c0 M;have b1:b<wr.heap.size:=yd _ _ c0;obtain⟨I,a5,F,Z⟩:=O.out.facts;have D:Hid (∀ W,Below wr.heap.size wr W->Calls _ _ _ _ _):=fun W hW=>HK.out k J W (M.trans (hW.mono M.size));generalize S k=x at *;obtain⟨b4,b6,b5⟩:=x;dsimp only at c0 D
   go_wp2_with (go_at_fn K;refine(D.out _ ?nd).mono ?_;(case nd=>exact zaa _ _);rintro e w3 ⟨⟨a6,a8,a7⟩,rfl,E,h3⟩;have HR:Hid _:=h3;clear h3;have T:Hid (Below wr.heap.size wr w3):=(zaa _ _).trans (E.mono (by simp));have s3:Hid (wr.heap.size<=w3.heap.size):=T.out.size;have SZ:Hid _:=E.size;clear E;have q0:=(T.out.cell (by exact I)).trans (Z (k) (by omega));have a9:=fun o=>(T.out.frozen (by exact I)).trans (a5 o);have b2:w.heap.size<w3.heap.size:=yx I s3.out)
   go_roundg (n-(k+1))
   case measure=>omega
   case rel =>
    refine⟨k+1,by omega,by omega,by go_num,((M.trans (T.out.mono M.size)).setCell (by simp) _),zaC.step O.out J T.out (by simp) ?_ HR.out rfl ((zaq.refl (fun b=>b=w.heap.size) _).trans (zaq.set (X:=fun b=>b=w.heap.size) _ _ rfl)) (fun F Z=>zaC.putGr Z ⟨a6,a8,a7⟩)⟩;have:=SZ.out;simpa using this
  ·have:k=n:=by omega
   subst this
   go_wp2
   go_ret;exact⟨rfl,M,O.out⟩
structure EPt where
 o:Int
 t:Int
 m:Int
 ga:Option Addr
 gl:Nat
 gc:Nat
 h:Bool
def zvt(x:EPt):Nat->Value
 | 0=>.int .i64 x.o
 | 1=>.int .i64 x.t
 | 2=>.int .i64 x.m
 | 3=>.slice x.ga x.gl x.gc
 | _=>.bool x.h
theorem zAf(n:Nat)(hn:n<=100000)(w:World):(Instr.makeSlice 26 (.int .i64 (n:Int)) (.int .i64 (n:Int))).run Tryz.prog w=.ok (.slice (some ⟨w.heap.size,0,none⟩) n n) (w.alloc (.cells (madeCells #[.int .i64 0,.int .i64 0,.int .i64 0,.slice none 0 0,.bool false] (n*5)) 121)):=by
 have I:(Tryz.prog.info? 121).map (fun i=>(i.zero,i.size,i.bytes))=some (some (.agg #[.int .i64 0,.int .i64 0,.int .i64 0,.slice none 0 0,.bool false]),5,56):=by kernel_rfl
 obtain⟨i,hi,D,E,F⟩:=info_parts I;have h:=run_make (P:=Tryz.prog) w 26 121 i _ Tryz.underlying26 hi D .i64 .i64 n n (by omega) (by omega) (by rw[F];omega) (by omega);rw[E] at h;simp only[yi] at h;exact h
theorem zaC.putPt{w:World}{g n k:Nat}{F:Nat->Value}(h:w.rowIs g 121 (n*5) F)(x:EPt):∃ D,(((((w.setCell ⟨g,k*5,none⟩ (.int .i64 x.o)).setCell ⟨g,k*5+1,none⟩ (.int .i64 x.t)).setCell ⟨g,k*5+2,none⟩ (.int .i64 x.m)).setCell ⟨g,k*5+3,none⟩ (.slice x.ga x.gl x.gc)).setCell ⟨g,k*5+4,none⟩ (.bool x.h)).rowIs g 121 (n*5) D/\(∀ j,j<5->D (k*5+j)=zvt x j)/\∀ i,i<k->∀ j,j<5->D (i*5+j)=F (i*5+j):=by
 refine⟨_,((((h.set _ _).set _ _).set _ _).set _ _).set _ _,fun j E=>?_,fun i hi j E=>?_⟩
 ·rcases(by omega:j=0\/j=1\/j=2\/j=3\/j=4) with rfl|rfl|rfl|rfl|rfl
  ·rw[ya (by omega),ya (by omega),ya (by omega),ya (by omega),yb (by omega)];rfl
  ·rw[ya (by omega),ya (by omega),ya (by omega),yb rfl];rfl
  ·rw[ya (by omega),ya (by omega),yb rfl];rfl
  ·rw[ya (by omega),yb rfl];rfl
  ·rw[yb rfl];rfl
 ·rw[ya (by omega),ya (by omega),ya (by omega),ya (by omega),ya (by omega)]
theorem zzI(K:Nat)(eg:∀ args w,(callFunc K args).run Tryz.prog w=.ok (.enter K args) w)(a:Option Addr)(c n:Nat)(S:Nat->EPt)(R:Nat->EPt->Nat->Nat->World->Prop)(w:World)(hn:n<=100000)
  (hs:∀ i,i<n->∃ b o,a=some ⟨b,o,none⟩/\w.cell? ⟨b,o+i*5,none⟩=some (.int .i64 (S i).o)/\w.cell? ⟨b,o+i*5+1,none⟩=some (.int .i64 (S i).t)/\w.cell? ⟨b,o+i*5+2,none⟩=some (.int .i64 (S i).m)/\w.cell? ⟨b,o+i*5+3,none⟩=some (.slice (S i).ga (S i).gl (S i).gc)/\w.cell? ⟨b,o+i*5+4,none⟩=some (.bool (S i).h))
  (hK:∀ i,i<n->∀ W,Below w.heap.size w W->Calls Tryz.prog K #[.agg #[.int .i64 (S i).o,.int .i64 (S i).t,.int .i64 (S i).m,.slice (S i).ga (S i).gl (S i).gc,.bool (S i).h]] W fun e Z=>∃ y:EPt,e=.returned (.agg #[.int .i64 y.o,.int .i64 y.t,.int .i64 y.m,.slice y.ga y.gl y.gc,.bool y.h])/\Below W.heap.size W Z/\St (fun b=>b<W.heap.size\/Z.heap.size<=b) (R i y W.heap.size Z.heap.size) Z) :
  Calls Tryz.prog 107 #[.slice a n c,.func (.func K) #[] #[]] w fun e w' => e=.returned (.slice (some ⟨w.heap.size,0,none⟩) n n)/\Below w.heap.size w w' /\ zaC zvt 121 5 n R w.heap.size n w' := by
 have HS:Hid _:=hs;have HK:Hid _:=hK;clear hs hK;have b3:=zAf n hn
 go_enter Tryz.func107,Tryz.ntmps107
 go_wp2
 go_loopg [13] n (fun m s13 wr=>∃ k:Nat,k<=n/\n-k<=m/\s13=.int .i64 k/\Below w.heap.size w wr/\Hid (zaC zvt 121 5 n R w.heap.size k wr))
 case atStart=>exact⟨0,by omega,by omega,rfl,zaa _ _,zaC.zero w _ 121 5 n R (S 0)⟩
 case round =>
  obtain⟨k,hk,hg,rfl,I,O⟩:=hrel;by_cases U:k<n
  ·have b0:(k:Int)<(n:Int):=by omega
   obtain⟨b,o,rfl,c0,c1,c2,c3,c4⟩:=HS.out k U;replace c0:=zab c0 I;replace c1:=zab c1 I;replace c2:=zab c2 I;replace c3:=zab c3 I;replace c4:=zab c4 I;have b1:b<wr.heap.size:=yd _ _ c0;obtain⟨E,a5,F,M⟩:=O.out.facts;have D:Hid (∀ W,Below wr.heap.size wr W->Calls _ _ _ _ _):=fun W hW=>HK.out k U W (I.trans (hW.mono I.size));generalize S k=x at *;obtain⟨xo,xt,xm,b4,b6,b5,xh⟩:=x;dsimp only at c0 c1 c2 c3 c4 D
   go_wp2_with (go_at_fn K;refine(D.out _ ?nd).mono ?_;(case nd=>exact zaa _ _);rintro e w3 ⟨⟨yo,yt,ym,a6,a8,a7,yh⟩,rfl,T,h3⟩;have HR:Hid _:=h3;clear h3;have J:Hid (Below wr.heap.size wr w3):=(zaa _ _).trans (T.mono (by simp));have s3:Hid (wr.heap.size<=w3.heap.size):=J.out.size;have SZ:Hid _:=T.size;clear T;have q0:=(J.out.cell (by exact E)).trans (M (k*5) (by omega));have q1:=(J.out.cell (by exact E)).trans (M (k*5+1) (by omega));have q2:=(J.out.cell (by exact E)).trans (M (k*5+2) (by omega));have q3:=(J.out.cell (by exact E)).trans (M (k*5+3) (by omega));have q4:=(J.out.cell (by exact E)).trans (M (k*5+4) (by omega));have a9:=fun o=>(J.out.frozen (by exact E)).trans (a5 o);have b2:w.heap.size<w3.heap.size:=yx E s3.out)
   go_roundg (n-(k+1))
   case measure=>omega
   case rel =>
    refine⟨k+1,by omega,by omega,by go_num,((((((I.trans (J.out.mono I.size)).setCell (by simp) _).setCell (by simp) _).setCell (by simp) _).setCell (by simp) _).setCell (by simp) _),zaC.step O.out U J.out (by simp) ?_ HR.out rfl ((((((zaq.refl (fun b=>b=w.heap.size) _).trans (zaq.set (X:=fun b=>b=w.heap.size) _ _ rfl)).trans (zaq.set (X:=fun b=>b=w.heap.size) _ _ rfl)).trans (zaq.set (X:=fun b=>b=w.heap.size) _ _ rfl)).trans (zaq.set (X:=fun b=>b=w.heap.size) _ _ rfl)).trans (zaq.set (X:=fun b=>b=w.heap.size) _ _ rfl)) (fun F M=>zaC.putPt M ⟨yo,yt,ym,a6,a8,a7,yh⟩)⟩;have:=SZ.out;simpa using this
  ·have:k=n:=by omega
   subst this
   go_wp2
   go_ret;exact⟨rfl,I,O.out⟩
def RGr(C:List (List Cl))(i:Nat)(y:EGr)(lo hi:Nat)(V:World):Prop:=y.gl=(gr C i).length/\zaG V y.ga (gr C i)
theorem zog(a:Option Addr)(c:Nat)(C:List (List Cl))(w:World)(T:C.length<=1000)(hK:∀ i,i<C.length->(gr C i).length<=1000/\∀ j,j<(gr C i).length->(cl (gr C i) j).ks.length<=1000)(E:zkf w a C) :
  Calls Tryz.prog 109 #[.slice a C.length c,.func (.func 104) #[] #[]] w fun e w' => e=.returned (.slice (some ⟨w.heap.size,0,none⟩) C.length C.length)/\Below w.heap.size w w' /\ zaC zxr 47 1 C.length (RGr C) w.heap.size C.length w' := by
 obtain⟨f,D⟩:=Classical.skolem.1 (fun i=>show ∃ x:Option Addr × Nat,i<C.length->(∃ b o,a=some ⟨b,o,none⟩/\w.cell? ⟨b,o+i,none⟩=some (.slice x.1 (gr C i).length x.2))/\zaG w x.1 (gr C i) by
  by_cases hi:i<C.length
  ·obtain⟨b,o,ga,gc,e,c0,hc⟩:=E i hi;exact⟨(ga,gc),fun _=>⟨⟨b,o,e,c0⟩,hc⟩⟩
  ·exact⟨(none,0),fun h=>absurd h hi⟩)
 refine zzE 104 (enters_of Tryz.func104 (by kernel_rfl) rfl) a c C.length (fun i=>⟨(f i).1,(gr C i).length,(f i).2⟩) (RGr C) w (by omega) (fun i hi=>(D i hi).1) (fun i hi W F=>?_);refine(zhD (f i).1 (f i).2 (gr C i) W (hK i hi).1 (hK i hi).2 ((D i hi).2.below F)).mono ?_;rintro e w' ⟨g,rfl,I,hg,M⟩;exact⟨⟨some ⟨g,0,none⟩,(gr C i).length,(gr C i).length⟩,rfl,I,fun O J=>⟨rfl,M O J⟩⟩
def zvf(lo hi:Nat)(w:World)(v:Value)(C:List (List Cl)):Prop:=∃ b J,lo<=b/\b<hi/\v=.slice (some ⟨b,0,none⟩) C.length C.length/\w.rowIs b 47 C.length J/\∀ i,i<C.length->∃ ga gc,J i=.slice ga (gr C i).length gc/\St (fun x=>x<=b\/hi<=x) (fun w=>zaG w ga (gr C i)) w
theorem zvf.off{lo hi:Nat}{w w' : World}{v:Value}{C:List (List Cl)}{Y:Nat->Prop}(h:zvf lo hi w v C)(F:zaq Y w w')(E:∀ b,Y b->b<lo\/hi<=b):zvf lo hi w' v C:=by
 obtain⟨b,J,h1,I,M,D,h5⟩:=h;refine⟨b,J,h1,I,M,D.of_block (F.block b D.lt (fun T=>by have:=E b T;omega)),fun i hi=>?_⟩;obtain⟨ga,gc,e,hs⟩:=h5 i hi;exact⟨ga,gc,e,hs.off (F.mono (fun x O=>by have:=E x O;show x<=b\/_<=x;omega))⟩
theorem zvf.grs{lo hi:Nat}{w:World}{v:Value}{C:List (List Cl)}(h:zvf lo hi w v C)(I:C.length<=1000):znO w v C:=by
 obtain⟨b,J,h1,F,D,E,h5⟩:=h;refine⟨some ⟨b,0,none⟩,C.length,D,⟨(fun e=>by cases e),yj _,by omega⟩,fun i hi=>?_⟩;obtain⟨ga,gc,e,hs⟩:=h5 i hi;exact⟨b,0,ga,gc,rfl,by rw[yz,E.cell hi,e],hs.at⟩
theorem zvf.made{lo hi g:Nat}{C:List (List Cl)}{w:World}(h:zaC zxr 47 1 C.length (RGr C) g C.length w)(E:lo<=g)(O:w.heap.size<=hi):zvf lo hi w (.slice (some ⟨g,0,none⟩) C.length C.length) C:=by
 obtain⟨v,l,u,F,D,T⟩:=h;have hg:=D.lt;rw[Nat.mul_one] at D;refine⟨g,F,E,by omega,rfl,D,fun i hi=>?_⟩;obtain⟨h1,U,Z,h4,_,I⟩:=T i hi;obtain⟨J,_⟩:=I.at;refine⟨(v i).ga,(v i).gc,?_,(I.imp (fun V h=>h.2)).less (fun b M=>by show b<l i\/u i<=b;have:b<=g\/_<=b:=M;omega)⟩;have:=h1 0 (by omega);rw[Nat.mul_one,Nat.add_zero] at this;rw[this,<- J];rfl
structure CpI (B:Nat) (L:List Pt) (K:Nat->Value) (lo hi:Nat->Nat) (k:Nat) (w:World):Prop where
 row:w.ownsRow B 121 5 (.slice (some ⟨B,0,none⟩) L.length L.length) L.length (zcb L K)
 gs:∀ i,i<k->zvf (lo i) (hi i) w (K i) (pt L i).cm
 at' : ∀ i,i<k->B<lo i/\hi i<=w.heap.size
 ap:∀ i j,i<k->j<k->i≠j->hi i<=lo j\/hi j<=lo i
def zxm(L:List Pt):Prop:=∀ i,i<L.length->(pt L i).cm.length<=1000/\∀ j,j<(pt L i).cm.length->(gr (pt L i).cm j).length<=1000/\∀ m,m<(gr (pt L i).cm j).length->(cl (gr (pt L i).cm j) m).ks.length<=1000
def RPt(L:List Pt)(i:Nat)(y:EPt)(lo hi:Nat)(V:World):Prop:=y.o=(pt L i).o/\y.t=(pt L i).t/\y.m=(pt L i).m/\y.h=(pt L i).s/\zvf lo hi V (.slice y.ga y.gl y.gc) (pt L i).cm
theorem zpu{w:World}{g:Nat}{L:List Pt}(hN:L.length<=1000)(h:zaC zvt 121 5 L.length (RPt L) g L.length w):∃ K lo hi,CpI g L K lo hi L.length w:=by
 obtain⟨v,lo,hi,F,⟨c,T,I,J⟩,E⟩:=h;have hg:g<w.heap.size:=zaw T;refine⟨fun i=>.slice (v i).ga (v i).gl (v i).gc,lo,hi,?_,fun i D=>(E i D).2.2.2.2.2.at.2.2.2.2,fun i D=>⟨(E i D).2.1,(E i D).2.2.2.1⟩,fun i j D M O=>?_⟩
 ·have e:c.toList=zcb L (fun i=>.slice (v i).ga (v i).gl (v i).gc):=zhR (by simpa using I) (fun i j D M=>by
   obtain⟨U,Z,e2,e3,_⟩:=(E i D).2.2.2.2.2.at;rw[Array.getElem?_toList,J (i*5+j) (by omega),(E i D).1 j M];unfold zcQ;rw[<- U,<- Z,<- e2,<- e3];rcases(by omega:j=0\/j=1\/j=2\/j=3\/j=4) with rfl|rfl|rfl|rfl|rfl <;> rfl)
  refine⟨zbL _ _,Or.inr ⟨g,L.length,c,rfl,yj _,T,yj _,by unfold maxLen;omega,I,?_⟩⟩;rw[e];exact List.take_of_length_le (by rw[zbL];exact yj _)
 ·rcases Nat.lt_or_gt_of_ne O with h|h
  ·exact Or.inl ((E j M).2.2.2.2.1 i h)
  ·exact Or.inr ((E i D).2.2.2.2.1 j h)
theorem zsR(x:Pt)(I:Option Addr)(O:Nat)(w:World)(h1:x.cm.length<=1000)(h2:∀ i,i<x.cm.length->(gr x.cm i).length<=1000/\∀ j,j<(gr x.cm i).length->(cl (gr x.cm i) j).ks.length<=1000)(hG:zkf w I x.cm) :
  Calls Tryz.prog 108 #[.agg #[.int .i64 x.o,.int .i64 x.t,.int .i64 x.m,.slice I x.cm.length O,.bool x.s]] w fun e w' => ∃ g,e=.returned (.agg #[.int .i64 x.o,.int .i64 x.t,.int .i64 x.m,.slice (some ⟨g,0,none⟩) x.cm.length x.cm.length,.bool x.s])/\Below w.heap.size w w' /\ w.heap.size<=g/\zaC zxr 47 1 x.cm.length (RGr x.cm) g x.cm.length w' := by
 have D:Hid (∀ W,Below w.heap.size w W->Calls _ _ _ _ _):=fun W hW=>zog I O x.cm W h1 h2 (hG.below hW);clear hG h1 h2;obtain⟨xo,xt,Z,xc,xs⟩:=x;dsimp only at D |-;generalize xc.length=l at *
 go_enter Tryz.func108,Tryz.ntmps108
 go_wp2_with fail
 obtain⟨V,F⟩:∃ V,(w.alloc (.cells #[.int .i64 xo,.int .i64 xt,.int .i64 Z,.slice I l O,.bool xs] 121)).alloc (.cells #[.int .i64 0,.int .i64 0,.int .i64 0,.slice none 0 0,.bool false] 121)=V:=⟨_,rfl⟩;have T:V.cell? ⟨w.heap.size,0,none⟩=some (.int .i64 xo):=by rw[<- F];exact zay _ _ _ 0 _ rfl
 have v1:V.cell? ⟨w.heap.size,1,none⟩=some (.int .i64 xt):=by rw[<- F];exact zay _ _ _ 1 _ rfl
 have v2:V.cell? ⟨w.heap.size,2,none⟩=some (.int .i64 Z):=by rw[<- F];exact zay _ _ _ 2 _ rfl
 have v3:V.cell? ⟨w.heap.size,3,none⟩=some (.slice I l O):=by rw[<- F];exact zay _ _ _ 3 _ rfl
 have v4:V.cell? ⟨w.heap.size,4,none⟩=some (.bool xs):=by rw[<- F];exact zay _ _ _ 4 _ rfl
 have J:V.cell? ⟨w.heap.size+1,0,none⟩=some (.int .i64 0):=by rw[<- F];exact zaz _ _ _ 0 _ rfl
 have z1:V.cell? ⟨w.heap.size+1,1,none⟩=some (.int .i64 0):=by rw[<- F];exact zaz _ _ _ 1 _ rfl
 have z2:V.cell? ⟨w.heap.size+1,2,none⟩=some (.int .i64 0):=by rw[<- F];exact zaz _ _ _ 2 _ rfl
 have z3:V.cell? ⟨w.heap.size+1,3,none⟩=some (.slice none 0 0):=by rw[<- F];exact zaz _ _ _ 3 _ rfl
 have z4:V.cell? ⟨w.heap.size+1,4,none⟩=some (.bool false):=by rw[<- F];exact zaz _ _ _ 4 _ rfl
 have zf:∀ o,V.frozen? ⟨w.heap.size+1,o,none⟩=false:=fun o=>by rw[<- F];exact ziW _ _ _ _ _
 have vf:∀ o,V.frozen? ⟨w.heap.size,o,none⟩=false:=fun o=>by rw[<- F];exact zss _ _ _ _ _
 have M:Hid (Below w.heap.size w V):=by rw[<- F];exact zam _ _ _
 have sV:w.heap.size+1<V.heap.size:=yd _ _ J;have U:w.heap.size<V.heap.size:=yd _ _ T;rw[F];clear F;refine ye (D.out _ M.out) ?_;rintro e w3 ⟨rfl,E,h3⟩;have H3:Hid (zaC zxr 47 1 l (RGr xc) V.heap.size l w3):=h3;have B3:Hid (Below w.heap.size w w3):=M.out.trans (E.mono M.out.size);replace T:=zab T E;replace v1:=zab v1 E;replace v2:=zab v2 E;replace v3:=zab v3 E;replace v4:=zab v4 E;replace J:=zab J E;replace z1:=zab z1 E;replace z2:=zab z2 E;replace z3:=zab z3 E;replace z4:=zab z4 E;have fz:=fun o=>(E.frozen (show (⟨w.heap.size+1,o,none⟩:Addr).block<V.heap.size from sV)).trans (zf o);have fv:=fun o=>(E.frozen (show (⟨w.heap.size,o,none⟩:Addr).block<V.heap.size from U)).trans (vf o);have s3:w.heap.size+1<w3.heap.size:=yd _ _ J;have s30:w.heap.size<w3.heap.size:=yd _ _ T;clear E h3 zf vf
 go_wp2
 refine yv (v:=.agg #[.int .i64 xo,.int .i64 xt,.int .i64 Z,.slice (some ⟨V.heap.size,0,none⟩) l l,.bool xs]) (by simp[results,Tryz.results108,go_sem,J,z1,z2,z3,z4]) rfl ⟨V.heap.size,rfl,?_,M.out.size,?_⟩
 ·exact(((((B3.out.setCell (by simp) _).setCell (by simp) _).setCell (by simp) _).setCell (by simp) _).setCell (by simp) _).setCell (by simp) _
 ·exact(((((H3.out.set (by omega) _).set (by omega) _).set (by omega) _).set (by omega) _).set (by omega) _).set (by omega) _
theorem zqE(a:Option Addr)(c:Nat)(L:List Pt)(w:World)(Z:L.length<=12)(E:zxm L)(M:zbR w a L) :
  Calls Tryz.prog 107 #[.slice a L.length c,.func (.func 108) #[] #[]] w fun e w' => e=.returned (.slice (some ⟨w.heap.size,0,none⟩) L.length L.length)/\Below w.heap.size w w' /\ zaC zvt 121 5 L.length (RPt L) w.heap.size L.length w' := by
 obtain⟨f,F⟩:=Classical.skolem.1 (fun i=>show ∃ x:Option Addr × Nat,i<L.length->(∃ b o,a=some ⟨b,o,none⟩/\w.cell? ⟨b,o+i*5,none⟩=some (.int .i64 (pt L i).o)/\w.cell? ⟨b,o+i*5+1,none⟩=some (.int .i64 (pt L i).t)/\w.cell? ⟨b,o+i*5+2,none⟩=some (.int .i64 (pt L i).m)/\w.cell? ⟨b,o+i*5+3,none⟩=some (.slice x.1 (pt L i).cm.length x.2)/\w.cell? ⟨b,o+i*5+4,none⟩=some (.bool (pt L i).s))/\zkf w x.1 (pt L i).cm by
  by_cases hi:i<L.length
  ·obtain⟨b,o,e,c0,c1,c2,I,J,c3,hg,c4⟩:=M i hi;exact⟨(I,J),fun _=>⟨⟨b,o,e,c0,c1,c2,c3,c4⟩,hg.2⟩⟩
  ·exact⟨(none,0),fun h=>absurd h hi⟩)
 refine zzI 108 (enters_of Tryz.func108 (by kernel_rfl) rfl) a c L.length (fun i=>⟨(pt L i).o,(pt L i).t,(pt L i).m,(f i).1,(pt L i).cm.length,(f i).2,(pt L i).s⟩) (RPt L) w (by omega) (fun i hi=>(F i hi).1) (fun i hi W O=>?_);refine(zsR (pt L i) (f i).1 (f i).2 W (E i hi).1 (E i hi).2 ((F i hi).2.below O)).mono ?_;rintro e w' ⟨g,rfl,D,hg,U⟩;exact⟨⟨(pt L i).o,(pt L i).t,(pt L i).m,some ⟨g,0,none⟩,(pt L i).cm.length,(pt L i).cm.length,(pt L i).s⟩,rfl,D,fun w2 T=>⟨rfl,rfl,rfl,rfl,(zvf.made U hg (yj _)).off T (fun b D=>D)⟩⟩
theorem zje(a:Option Addr)(c:Nat)(L:List Pt)(w:World)(O:L.length<=12)(I:zxm L)(J:zbR w a L) :
  Calls Tryz.prog 78 #[.slice a L.length c] w fun e w' => e=.returned (.slice (some ⟨w.heap.size,0,none⟩) L.length L.length)/\Below w.heap.size w w' /\ zaC zvt 121 5 L.length (RPt L) w.heap.size L.length w' := by
 have D:Hid (Calls _ _ _ _ _):=zqE a c L w O I J;clear I J;generalize L.length=n at *
 go_enter Tryz.func78,Tryz.ntmps78
 go_wp2_with (go_at_call 107;refine D.out.mono ?_;rintro e w3 ⟨rfl,E,F⟩;have M:Hid _:=F;clear F)
 go_ret;exact⟨rfl,E,M.out⟩
theorem zdU(a:Option Addr)(c:Nat)(L:List Pt)(w:World)(I:L.length<=12)(E:zxm L)(F:zbR w a L) :
  Calls Tryz.prog 78 #[.slice a L.length c] w fun e w' => ∃ K lo hi,e=.returned (.slice (some ⟨w.heap.size,0,none⟩) L.length L.length)/\Below w.heap.size w w' /\ CpI w.heap.size L K lo hi L.length w' := by
 refine(zje a c L w I E F).mono ?_;rintro e w' ⟨rfl,J,h⟩;obtain⟨K,lo,hi,D⟩:=zpu (by omega) h;exact⟨K,lo,hi,rfl,J,D⟩
end Go.Proofs.YtcbcpomacdngmaaGreat
