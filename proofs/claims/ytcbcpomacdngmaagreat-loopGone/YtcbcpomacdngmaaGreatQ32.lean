/-
  x
-/
import Derived.Test.YtcbcpomacdngmaaGreatQ31
namespace Go.Proofs.YtcbcpomacdngmaaGreat
set_option maxRecDepth 100000
set_option maxHeartbeats 4000000
set_option linter.unusedVariables false
open Go.RowKit
theorem zgm(n0 n1 n2 n3 n4:Nat)(E:Int)(k:Int)(la:Option Addr)(lm lc:Nat)(a0 a1 a2 a3 a4:Option Addr)(c0 c1 c2 c3 c4:Nat)(w:World)(hE:E≠0\/E=0/\n0=0)(DT:Hid (∀ V:World,Calls Tryz.prog 9 #[] V fun e w' => e=.returned (.bool true)/\Below V.heap.size V w'))
  (DK:Hid (∀ V,Below w.heap.size w V->Calls Tryz.prog 10 #[.agg #[.slice a0 n0 c0,.slice a1 n1 c1,.slice a2 n2 c2,.slice a3 n3 c3,.slice a4 n4 c4]] V fun e w' => e=.returned (.int .i64 E)/\Below V.heap.size V w')) :
  Calls Tryz.prog 7 #[.agg #[.slice a0 n0 c0,.slice a1 n1 c1,.slice a2 n2 c2,.slice a3 n3 c3,.slice a4 n4 c4],.int .i64 k,.slice la lm lc] w fun e w' => e=.returned (.bool true)/\Below w.heap.size w w' := by
 rcases hE with hE |⟨rfl,rfl⟩
 ·
  go_enter Tryz.func7,Tryz.ntmps7
  go_wp2_with fail
  refine yi (DT.out _) ?_;rintro e w1 ⟨rfl,D⟩;have I:Hid (w1.heap[w.heap.size]?=some (.cells #[.slice a0 n0 c0,.slice a1 n1 c1,.slice a2 n2 c2,.slice a3 n3 c3,.slice a4 n4 c4] 28 (0,0))):=zat (yL w _) D;have F:Hid (Below w.heap.size w w1):=(zaa w _).trans (D.mono (by simp));clear D;obtain⟨J,M,O,T,U,Z,pl⟩:=zao I.out
  go_wp2_with fail
  refine yi (DK.out _ F.out) ?_;rintro e w2 ⟨rfl,D⟩;have B2:Hid (Below w.heap.size w w2):=F.out.trans (D.mono F.out.size);have K2:Hid _:=zat I.out D;clear J M O T U Z pl D I;obtain⟨J,M,O,T,U,Z,pl⟩:=zao K2.out
  go_wp2_with fail
  refine yi (DT.out _) ?_;rintro e w3 ⟨rfl,D⟩;have B3:Hid (Below w.heap.size w w3):=B2.out.trans (D.mono B2.out.size);clear D J M O T U Z pl
  go_wp2
  go_ret;exact⟨rfl,B3.out⟩
 ·
  go_enter Tryz.func7,Tryz.ntmps7
  go_wp2_with fail
  refine yi (DT.out _) ?_;rintro e w1 ⟨rfl,D⟩;have I:Hid (w1.heap[w.heap.size]?=some (.cells #[.slice a0 0 c0,.slice a1 n1 c1,.slice a2 n2 c2,.slice a3 n3 c3,.slice a4 n4 c4] 28 (0,0))):=zat (yL w _) D;have F:Hid (Below w.heap.size w w1):=(zaa w _).trans (D.mono (by simp));clear D;obtain⟨J,M,O,T,U,Z,pl⟩:=zao I.out
  go_wp2_with fail
  refine yi (DK.out _ F.out) ?_;rintro e w2 ⟨rfl,D⟩;have B2:Hid (Below w.heap.size w w2):=F.out.trans (D.mono F.out.size);have K2:Hid _:=zat I.out D;clear J M O T U Z pl D I;obtain⟨J,M,O,T,U,Z,pl⟩:=zao K2.out
  go_wp2_with fail
  refine yi (DT.out _) ?_;rintro e w3 ⟨rfl,D⟩;have B3:Hid (Below w.heap.size w w3):=B2.out.trans (D.mono B2.out.size);clear D J M O T U Z pl
  go_wp2
  go_ret;exact⟨rfl,B3.out⟩
theorem zwm(n n4:Nat)(a0 a1 a2 a3 a4:Option Addr)(c0 c1 c2 c3 c4:Nat)(w:World)(DT:Hid (∀ V:World,Calls Tryz.prog 9 #[] V fun e w' => e=.returned (.bool true)/\Below V.heap.size V w'))
  (DK:Hid (∀ V,Below w.heap.size w V->Calls Tryz.prog 10 #[.agg #[.slice a0 n c0,.slice a1 n c1,.slice a2 n c2,.slice a3 n c3,.slice a4 n4 c4]] V fun e w' => e=.returned (.int .i64 0)/\Below V.heap.size V w')) (k:Int) (I:Nat) (AT:Hid (∀ w:World,Calls Tryz.prog 11 #[.int .i64 k,.int .i64 n] w fun e w' => e=.returned (.int .i64 (I:Int))/\w' = w)) (la:Option Addr) (lm lc O T:Nat) (M:Int) (a7:0<n) (a6:I<n) (a9:n<=8) (ea:a0=some ⟨O,T,none⟩) (f2:w.cell? ⟨O,T+I*5+2,none⟩=some (.int .i64 M)) (f4:w.cell? ⟨O,T+I*5+4,none⟩=some (.bool false)) (hM:bits .and .i64 M 1≠0) :
  Calls Tryz.prog 7 #[.agg #[.slice a0 n c0,.slice a1 n c1,.slice a2 n c2,.slice a3 n c3,.slice a4 n4 c4],.int .i64 k,.slice la lm lc] w fun e w' => e=.returned (.bool true)/\Below w.heap.size w w' := by
 subst ea;have F2:Hid _:=f2;have F4:Hid _:=f4;have a8:¬ ((n:Int)=0):=by omega
 have a5:(I:Int)<n:=by omega
 clear f2 f4
 go_enter Tryz.func7,Tryz.ntmps7
 go_wp2_with fail
 refine yi (DT.out _) ?_;rintro e w1 ⟨rfl,D⟩;have Z:Hid (w1.heap[w.heap.size]?=some (.cells #[.slice (some ⟨O,T,none⟩) n c0,.slice a1 n c1,.slice a2 n c2,.slice a3 n c3,.slice a4 n4 c4] 28 (0,0))):=zat (yL w _) D;have J:Hid (Below w.heap.size w w1):=(zaa w _).trans (D.mono (by simp));clear D;obtain⟨p0,p1,p2,p3,p4,pf,pl⟩:=zao Z.out
 go_wp2_with fail
 refine yi (DK.out _ J.out) ?_;rintro e w2 ⟨rfl,D⟩;have U:Hid (Below w.heap.size w w2):=J.out.trans (D.mono J.out.size);have K2:Hid _:=zat Z.out D;clear p0 p1 p2 p3 p4 pf pl D Z J DT DK;obtain⟨p0,p1,p2,p3,p4,pf,pl⟩:=zao K2.out
 go_wp2_with fail
 refine yi (AT.out _) ?_;rintro e w3 ⟨rfl,E⟩;have F:=E.symm;clear E;subst F;have g2:=zab F2.out U.out;have g4:=zab F4.out U.out
 go_wp2
 go_ret;exact⟨rfl,U.out⟩
theorem ztB(n n4:Nat)(a0 a1 a2 a3 a4:Option Addr)(c0 c1 c2 c3 c4:Nat)(w:World)(DT:Hid (∀ V:World,Calls Tryz.prog 9 #[] V fun e w' => e=.returned (.bool true)/\Below V.heap.size V w'))
  (DK:Hid (∀ V,Below w.heap.size w V->Calls Tryz.prog 10 #[.agg #[.slice a0 n c0,.slice a1 n c1,.slice a2 n c2,.slice a3 n c3,.slice a4 n4 c4]] V fun e w' => e=.returned (.int .i64 0)/\Below V.heap.size V w')) (k:Int) (D:Nat) (AT:Hid (∀ w:World,Calls Tryz.prog 11 #[.int .i64 k,.int .i64 n] w fun e w' => e=.returned (.int .i64 (D:Int))/\w' = w)) (la:Option Addr) (lm lc m q1 m4:Nat) (W Z:Wl) (L:List (Int × Bool)) (S:List Int) (j6:0<n) (a9:D<n) (j8:n<=8) (h9:m<=30) (i0:min (lm:Int) 30=(m:Int))
  (j9:∀ W,(Instr.slice 71 (.slice la lm lc) none (some (.int .i64 (m:Int))) none).run Tryz.prog W=.ok (.slice la m q1) W)
  (c9:W.fs.length=n) (d5:W.rs.length=n) (d4:Z.fs.length=n) (d6:Z.rs.length=n) (b9:L.length=m) (c7:S.length=m) (hW:Hid (zdF w ⟨a0,a1,a2,a3,a4,c0,c1,c2,c3,c4⟩ W)) (hP:Hid (zfh w la L))
  (D2:Hid (∀ (X:Nat->Prop) V,(∀ b,X b->b<V.heap.size)->Below w.heap.size w V->(∀ b,X b->w.heap.size<=b)->Calls Tryz.prog 20 #[.agg #[.slice a0 n c0,.slice a1 n c1,.slice a2 n c2,.slice a3 n c3,.slice a4 n4 c4],.slice la m q1] V fun e w' => ∃ (f0 f1 f2 f3 f4 O:Option Addr) (J g1 g2 g3 I T:Nat),e=.returned (.tuple #[.agg #[.slice f0 n J,.slice f1 n g1,.slice f2 n g2,.slice f3 n g3,.slice f4 m4 I],.slice O m T,.int .i64 0])/\Below V.heap.size V w' /\ WlC ⟨f0,f1,f2,f3,f4,J,g1,g2,g3,I⟩ Z/\zgr X w' ⟨f0,f1,f2,f3,f4,J,g1,g2,g3,I⟩ Z/\St X (fun w=>zak w O S) w'))
  (DQ:Hid (∀ A B V,zct V A (rl Z.rs D)->zct V B (rl W.rs D)->rl Z.rs D=rl W.rs D->Calls Tryz.prog 17 #[rlV A (rl Z.rs D),rlV B (rl W.rs D)] V fun e w' => e=.returned (.bool true)/\Below V.heap.size V w'))
  (hI:(fr W.fs D).g=true\/(fr W.fs D).g=false/\bits .and .i64 (fr W.fs D).m 1=0)
  (h7:Hid (∀ i,i<m->(pk L i).1=D->S.getD i 0≠0)) (b4:Hid ((fr Z.fs D).t=(fr W.fs D).t->rl Z.rs D=rl W.rs D)) :
  Calls Tryz.prog 7 #[.agg #[.slice a0 n c0,.slice a1 n c1,.slice a2 n c2,.slice a3 n c3,.slice a4 n4 c4],.int .i64 k,.slice la lm lc] w fun e w' => e=.returned (.bool true)/\Below w.heap.size w w' := by
 obtain⟨fb,fo,ea,f0,f1,f2,f3,f4⟩:=hW.out.fs D (by omega);dsimp only at ea;subst ea;have F2:Hid _:=f2;have F3:Hid _:=f3;have F4:Hid _:=f4;have e8:Hid (Z.fs.length=n):=d4;have g6:Hid (Z.rs.length=n):=d6;have i1:Hid (W.fs.length=n):=c9;have g5:Hid (W.rs.length=n):=d5;have e9:Hid (L.length=m):=b9;have g7:Hid (S.length=m):=c7;have j7:¬ ((n:Int)=0):=by omega
 have j5:(D:Int)<n:=by omega
 clear f0 f1 f2 f3 f4 c9 d5 d4 d6 b9 c7
 go_enter Tryz.func7,Tryz.ntmps7
 go_wp2_with fail
 refine yi (DT.out _) ?_;rintro e w1 ⟨rfl,hb⟩;have K1:Hid (w1.heap[w.heap.size]?=some (.cells #[.slice (some ⟨fb,fo,none⟩) n c0,.slice a1 n c1,.slice a2 n c2,.slice a3 n c3,.slice a4 n4 c4] 28 (0,0))):=zat (yL w _) hb;have B1:Hid (Below w.heap.size w w1):=(zaa w _).trans (hb.mono (by simp));clear hb;obtain⟨p0,p1,p2,p3,p4,pf,pl⟩:=zao K1.out
 go_wp2_with fail
 refine yi (DK.out _ B1.out) ?_;rintro e F ⟨rfl,hb⟩;have B2:Hid (Below w.heap.size w F):=B1.out.trans (hb.mono B1.out.size);have K2:Hid _:=zat K1.out hb;clear p0 p1 p2 p3 p4 pf pl hb K1 B1 DT DK;obtain⟨p0,p1,p2,p3,p4,pf,pl⟩:=zao K2.out
 go_wp2_with fail
 refine yi (AT.out _) ?_;rintro e w3 ⟨rfl,d7⟩;have d8:=d7.symm;clear d7;subst d8;have g2:=zab F2.out B2.out;have I:=zab F4.out B2.out
 go_upto_region 4 with fail
 go_cut [47] (fun s47 wx=>s47=.bool false/\wx=F)
 case first =>
  rcases hI with h |⟨h,h2⟩
  ·rw[h] at I
   go_wp2_with fail
   go_meet
   case rel=>exact⟨rfl,rfl⟩
  ·rw[h] at I
   go_wp2_with fail
   go_meet
   case rel=>exact⟨rfl,rfl⟩
 case rest =>
 obtain⟨rfl,d9⟩:=hcut;have e5:=d9.symm;clear d9;subst e5;clear hI g2 I;have X3:Hid (∀ V,Below F.heap.size F V->Below w.heap.size w V):=fun V hV=>B2.out.trans (hV.mono B2.out.size);have sw:¬ F.heap.size=w.heap.size:=by omega
 have h8:¬ w.heap.size=F.heap.size:=by omega
 go_upto_region 6 with fail
 go_cut [7,8,9] (fun s7 s8 s9 wx=>∃ (bb:Nat) (f0 f1 f2 f3 f4 O:Option Addr) (J g1 g2 g3 I T:Nat),s7=.pointer (some ⟨bb,0,none⟩)/\s9=.int .i64 0/\s8=.slice O m T/\Hid (Below F.heap.size F wx/\F.heap.size<=bb/\wx.heap[bb]?=some (.cells #[.slice f0 n J,.slice f1 n g1,.slice f2 n g2,.slice f3 n g3,.slice f4 m4 I] 28 (0,0))/\WlC ⟨f0,f1,f2,f3,f4,J,g1,g2,g3,I⟩ Z/\zdF wx ⟨f0,f1,f2,f3,f4,J,g1,g2,g3,I⟩ Z/\zak wx O S))
 case first =>
  go_region_held3 (fun E=>E.cell? ⟨w.heap.size,0,none⟩=some (.slice (some ⟨fb,fo,none⟩) n c0)/\E.cell? ⟨w.heap.size,1,none⟩=some (.slice a1 n c1)/\E.cell? ⟨w.heap.size,2,none⟩=some (.slice a2 n c2)/\E.cell? ⟨w.heap.size,3,none⟩=some (.slice a3 n c3)/\E.cell? ⟨w.heap.size,4,none⟩=some (.slice a4 n4 c4)) (go_keep) (first|(go_at_call 20;refine yi (D2.out (fun _=>False) F.drew (fun _ h=>h.elim) (X3.out _ (yr _ _).drew) (fun _ h=>h.elim)) ?_;rintro e w3 ⟨f0,f1,f2,f3,f4,O,J,g1,g2,g3,I,T,rfl,a5,a6,a8,a7⟩;have B3:Hid (Below F.heap.size F w3):=(yr F.heap.size F).drew.trans (a5.mono (by simp));have N3:Hid (St (fun c=>c=w3.heap.size) (fun w=>zdF w ⟨f0,f1,f2,f3,f4,J,g1,g2,g3,I⟩ Z) w3):=St.new a8 (fun c e=>Nat.le_of_eq e.symm);have M3:Hid (St (fun c=>c=w3.heap.size) (fun w=>zak w O S) w3):=St.new a7 (fun c e=>Nat.le_of_eq e.symm);have C3:Hid (WlC ⟨f0,f1,f2,f3,f4,J,g1,g2,g3,I⟩ Z):=a6;have b6:=zab p0 B3.out;have b8:=zab p1 B3.out;have g8:=zab p2 B3.out;have g9:=zab p3 B3.out;have h3:=zab p4 B3.out;clear a5 a8 a6 a7)|(go_at_call 20;refine yi (D2.out (fun c=>c=F.heap.size) (F.alloc (.cells #[.slice none 0 0,.slice none 0 0,.slice none 0 0,.slice none 0 0,.slice none 0 0] 28)).drew (fun c e=>by rw[e];simp) (X3.out _ (zaa _ _).drew) (fun c e=>by rw[e];exact B2.out.size)) ?_;rintro e w3 ⟨f0,f1,f2,f3,f4,O,J,g1,g2,g3,I,T,rfl,a5,a6,a8,a7⟩;have B3:Hid (Below F.heap.size F w3):=(zaa F _).drew.trans (a5.mono (by simp));have N3:Hid (St (fun c=>c=F.heap.size) (fun w=>zdF w ⟨f0,f1,f2,f3,f4,J,g1,g2,g3,I⟩ Z) w3):=a8;have M3:Hid (St (fun c=>c=F.heap.size) (fun w=>zak w O S) w3):=a7;have C3:Hid (WlC ⟨f0,f1,f2,f3,f4,J,g1,g2,g3,I⟩ Z):=a6;have XA:Hid (w3.heap[F.heap.size]?=some (.cells #[.slice none 0 0,.slice none 0 0,.slice none 0 0,.slice none 0 0,.slice none 0 0] 28 (0,0))):=(a5.block _ (by simp)).trans (yL F _);have b6:=zab p0 B3.out;have b8:=zab p1 B3.out;have g8:=zab p2 B3.out;have g9:=zab p3 B3.out;have h3:=zab p4 B3.out;clear a5 a8 a6 a7;obtain⟨x0,x1,x2,x3,x4,xf,xl⟩:=zao XA.out))
  all_goals first
   |(have HQ:Hid (Below F.heap.size F (set5 w3 F.heap.size (.slice f0 n J) (.slice f1 n g1) (.slice f2 n g2) (.slice f3 n g3) (.slice f4 m4 I))/\F.heap.size<=F.heap.size/\(set5 w3 F.heap.size (.slice f0 n J) (.slice f1 n g1) (.slice f2 n g2) (.slice f3 n g3) (.slice f4 m4 I)).heap[F.heap.size]?=some (.cells #[.slice f0 n J,.slice f1 n g1,.slice f2 n g2,.slice f3 n g3,.slice f4 m4 I] 28 (0,0))/\WlC ⟨f0,f1,f2,f3,f4,J,g1,g2,g3,I⟩ Z/\zdF (set5 w3 F.heap.size (.slice f0 n J) (.slice f1 n g1) (.slice f2 n g2) (.slice f3 n g3) (.slice f4 m4 I)) ⟨f0,f1,f2,f3,f4,J,g1,g2,g3,I⟩ Z/\zak (set5 w3 F.heap.size (.slice f0 n J) (.slice f1 n g1) (.slice f2 n g2) (.slice f3 n g3) (.slice f4 m4 I)) O S):=⟨zhC B3.out (yk _) _ _ _ _ _,yk _,zmh XA.out,C3.out,N3.out _ (zlW (X:=fun c=>c=F.heap.size) rfl),M3.out _ (zlW (X:=fun c=>c=F.heap.size) rfl)⟩
     go_wp2_with fail
     go_meet
     case rel=>exact⟨F.heap.size,f0,f1,f2,f3,f4,O,J,g1,g2,g3,I,T,rfl,rfl,rfl,HQ⟩)
   |(have HQ:Hid (Below F.heap.size F (w3.alloc (.cells #[.slice f0 n J,.slice f1 n g1,.slice f2 n g2,.slice f3 n g3,.slice f4 m4 I] 28))/\F.heap.size<=w3.heap.size/\(w3.alloc (.cells #[.slice f0 n J,.slice f1 n g1,.slice f2 n g2,.slice f3 n g3,.slice f4 m4 I] 28)).heap[w3.heap.size]?=some (.cells #[.slice f0 n J,.slice f1 n g1,.slice f2 n g2,.slice f3 n g3,.slice f4 m4 I] 28 (0,0))/\WlC ⟨f0,f1,f2,f3,f4,J,g1,g2,g3,I⟩ Z/\zdF (w3.alloc (.cells #[.slice f0 n J,.slice f1 n g1,.slice f2 n g2,.slice f3 n g3,.slice f4 m4 I] 28)) ⟨f0,f1,f2,f3,f4,J,g1,g2,g3,I⟩ Z/\zak (w3.alloc (.cells #[.slice f0 n J,.slice f1 n g1,.slice f2 n g2,.slice f3 n g3,.slice f4 m4 I] 28)) O S):=⟨B3.out.alloc B3.out.size _,B3.out.size,yL w3 _,C3.out,N3.out _ (zar.of_below (zaa w3 _)),M3.out _ (zar.of_below (zaa w3 _))⟩
     go_wp2_with fail
     go_meet
     case rel=>exact⟨w3.heap.size,f0,f1,f2,f3,f4,O,J,g1,g2,g3,I,T,rfl,rfl,rfl,HQ⟩)
 case rest =>
 obtain⟨b7,f0,f1,f2,f3,f4,O,J,g1,g2,g3,I,T,rfl,rfl,rfl,b5⟩:=hcut;obtain⟨B6,l6,x6,c6,y6,i6⟩:=b5.out;have U:Hid (Below w.heap.size w wc):=X3.out _ B6;have X6:Hid _:=x6;have Y6:Hid (zdF wc ⟨f0,f1,f2,f3,f4,J,g1,g2,g3,I⟩ Z):=y6;have I6:Hid (zak wc O S):=i6;have K6:Hid _:=zat K2.out B6;have W6:Hid (zdF wc ⟨some ⟨fb,fo,none⟩,a1,a2,a3,a4,c0,c1,c2,c3,c4⟩ W):=hW.out.below U.out;have P6:Hid (zfh wc la L):=hP.out.below U.out;have e7:Hid _:=zab F3.out U.out;clear B6 x6 c6 y6 i6 b5 K2 hW hP F2 F3 F4 X3 sw h8 p0 p1 p2 p3 p4 pf pl D2 l6 B2
 go_wp2_with fail
 go_loopg [67] m (fun g s67 wr=>∃ i:Nat,i<=m/\m-i<=g/\s67=.int .i64 i/\Hid (Below wc.heap.size wc wr))
 case atStart=>exact⟨0,Nat.zero_le _,by omega,rfl,yr _ _⟩
 case round =>
  obtain⟨i,hi,hg,rfl,M⟩:=hrel;by_cases b0:i<m
  ·obtain⟨lb,lo,el,x0,x1⟩:=(P6.out.below M.out) i (by rw[e9.out];exact b0);obtain⟨sb,so,es,y0⟩:=(I6.out.below M.out) i (by rw[g7.out];exact b0);subst el es;have NO:Hid _:=h7.out i b0;have h4:(i:Int)<m:=by omega
   generalize (pk L i).1=xf at x0 NO;generalize (pk L i).2=xs at x1;generalize S.getD i 0=xe at y0 NO;have k0:lb<wr.heap.size:=ye _ _ x0;have k1:sb<wr.heap.size:=ye _ _ y0;by_cases hp:xf=D
   ·have he:¬ xe=0:=NO.out hp;subst hp
    go_wp2_with fail
    go_roundg (m-(i+1))
    case measure=>omega
    case rel=>exact⟨i+1,by omega,by omega,by go_num,M.out.trans ((zaa wr _).mono M.out.size)⟩
   ·go_wp2_with fail
    go_roundg (m-(i+1))
    case measure=>omega
    case rel=>exact⟨i+1,by omega,by omega,by go_num,M.out.trans ((zaa wr _).mono M.out.size)⟩
  ·have h6:i=m:=by omega
   have h4:¬ ((i:Int)<m):=by omega
   clear h6;obtain⟨p0,p1,p2,p3,p4,pf,pl⟩:=zao (zat K6.out M.out);obtain⟨z0,z1,z2,z3,z4,zf,zl⟩:=zao (zat X6.out M.out);obtain⟨zb,zo,ez,e0,e1,e2,e3,e4⟩:=(Y6.out.below M.out).fs D (by rw[e8.out];exact a9);obtain⟨rb,ro,A,er,r0,r1,r2,r3,hr⟩:=(Y6.out.below M.out).rs D (by rw[g6.out];exact a9);obtain⟨vb,vo,B,ev,v0,v1,v2,v3,hv⟩:=(W6.out.below M.out).rs D (by rw[g5.out];exact a9);have g3:=zab e7.out M.out;dsimp only at ez er ev;subst ez er ev;have HR:Hid (zct wr A (rl Z.rs D)):=hr;have HV:Hid (zct wr B (rl W.rs D)):=hv;clear hr hv e0 e1 e2 e4;obtain⟨A0,A1,A2,A3,C0,C1,C2,C3⟩:=A;obtain⟨E0,E1,E2,E3,G0,G1,G2,G3⟩:=B;dsimp only at r0 r1 r2 r3 v0 v1 v2 v3;by_cases ht:(fr Z.fs D).t=(fr W.fs D).t
   ·have SM:Hid _:=b4.out ht;have e6:Hid (∀ V,Below wr.heap.size wr V->Calls Tryz.prog 17 #[.agg #[.slice A0 (rl Z.rs D).s.length C0,.slice A1 (rl Z.rs D).hs.length C1,.slice A2 (rl Z.rs D).i.length C2,.slice A3 (rl Z.rs D).t.length C3],.agg #[.slice E0 (rl W.rs D).s.length G0,.slice E1 (rl W.rs D).hs.length G1,.slice E2 (rl W.rs D).i.length G2,.slice E3 (rl W.rs D).t.length G3]] V fun e w' => e=.returned (.bool true)/\Below V.heap.size V w'):=fun V hV=>DQ.out ⟨A0,A1,A2,A3,C0,C1,C2,C3⟩ ⟨E0,E1,E2,E3,G0,G1,G2,G3⟩ V (HR.out.below hV) (HV.out.below hV) SM.out;rw[ht] at e3;generalize (fr W.fs D).t=tt at e3 g3;clear ht DQ SM HR HV
    go_upto_region 15 with fail
    go_region_held3 (fun E=>E.cell? ⟨w.heap.size,0,none⟩=some (.slice (some ⟨fb,fo,none⟩) n c0)/\E.cell? ⟨w.heap.size,1,none⟩=some (.slice (some ⟨vb,vo,none⟩) n c1)/\E.cell? ⟨b7,0,none⟩=some (.slice (some ⟨zb,zo,none⟩) n J)/\E.cell? ⟨b7,1,none⟩=some (.slice (some ⟨rb,ro,none⟩) n g1)/\E.cell? ⟨zb,zo+D*5+3,none⟩=some (.int .i64 tt)/\E.cell? ⟨fb,fo+D*5+3,none⟩=some (.int .i64 tt)/\E.cell? ⟨rb,ro+D*4,none⟩=some (.slice A0 (rl Z.rs D).s.length C0)/\E.cell? ⟨rb,ro+D*4+1,none⟩=some (.slice A1 (rl Z.rs D).hs.length C1)/\E.cell? ⟨rb,ro+D*4+2,none⟩=some (.slice A2 (rl Z.rs D).i.length C2)/\E.cell? ⟨rb,ro+D*4+3,none⟩=some (.slice A3 (rl Z.rs D).t.length C3)/\E.cell? ⟨vb,vo+D*4,none⟩=some (.slice E0 (rl W.rs D).s.length G0)/\E.cell? ⟨vb,vo+D*4+1,none⟩=some (.slice E1 (rl W.rs D).hs.length G1)/\E.cell? ⟨vb,vo+D*4+2,none⟩=some (.slice E2 (rl W.rs D).i.length G2)/\E.cell? ⟨vb,vo+D*4+3,none⟩=some (.slice E3 (rl W.rs D).t.length G3)) (go_keep) (first|(go_at_call 17;refine yi (e6.out _ (yr _ _).drew) ?_;rintro e w8 ⟨rfl,c8⟩;have B8:Hid (Below wr.heap.size wr w8):=(yr wr.heap.size wr).drew.trans (c8.mono (by simp));have b6:=zab p0 B8.out;have b8:=zab p1 B8.out;have j3:=zab z0 B8.out;have j4:=zab z1 B8.out;have i2:=zab e3 B8.out;have i3:=zab g3 B8.out;have i4:=zab r0 B8.out;have i5:=zab r1 B8.out;have i7:=zab r2 B8.out;have i8:=zab r3 B8.out;have i9:=zab v0 B8.out;have j0:=zab v1 B8.out;have j1:=zab v2 B8.out;have j2:=zab v3 B8.out;  clear c8))
    all_goals
     go_wp2
     go_ret;exact⟨rfl,U.out.trans ((M.out.trans (B8.out.mono M.out.size)).mono U.out.size)⟩
   ·generalize (fr Z.fs D).t=tz at e3 ht;generalize (fr W.fs D).t=tt at g3 ht;have b1:decide (tz=tt)=false:=yF ht;have b2:(tz != tt)=true:=by simpa using ht
    have b3:(tz == tt)=false:=by simpa using ht
    clear DQ HR HV
    go_upto_region 15 with fail
    go_big_quiet (fail)
    go_wp2
    go_ret;exact⟨rfl,U.out.trans ((zbB M.out _).mono U.out.size)⟩
theorem znk(hN:zkD)(hK:zdY)(hR:zfn)(hQ:zsv)(A:WA)(W:Wl)(k:Int)(J:Option Addr)(O:Nat)(L:List (Int × Bool))(w:World)(hB:znQ W)(hC:WlC A W)(T:zdF w A W)(hL:SlA J L.length O)(hP:zfh w J L) :
  Calls Tryz.prog 7 #[wlV A W,.int .i64 k,.slice J L.length O] w fun e w' => e=.returned (.bool true)/\Below w.heap.size w w' := by
 obtain⟨a0,a1,a2,a3,a4,c0,c1,c2,c3,c4⟩:=A;have DT:Hid (∀ V:World,Calls Tryz.prog 9 #[] V fun e w' => e=.returned (.bool true)/\Below V.heap.size V w'):=fun V=>zjW hN hR V;by_cases hE:zbg W=0
 ·have H:=zbU.1 hE;by_cases h0:W.fs.length=0
  ·exact zgm _ _ _ _ _ (zbg W) k J _ O a0 a1 a2 a3 a4 c0 c1 c2 c3 c4 w (Or.inr ⟨hE,h0⟩) DT (fun V F=>zgU hK hB rfl hC (T.below F))
  ·show Calls Tryz.prog _ #[.agg #[.slice a0 W.fs.length c0,.slice a1 W.rs.length c1,.slice a2 W.ps.length c2,.slice a3 W.qs.length c3,.slice a4 W.pt.length c4],_,_] w _;rw[H.lr,H.lp,H.lq];obtain⟨E,D,U⟩:=zsJ k W.fs.length (by omega) (by have:=H.fs.few;omega);have DK:Hid (∀ V,Below w.heap.size w V->Calls _ _ _ _ _):=fun V F=>checkN hK H rfl rfl hC (T.below F);by_cases hI:Idle W E
   ·have hm:min L.length 30<=L.length:=Nat.min_le_left _ _;have Z:min L.length 30<=30:=Nat.min_le_right _ _;have I:min (L.length:Int) 30=((min L.length 30:Nat):Int):=by omega
    generalize min L.length 30=m at hm Z I;obtain⟨q1,a9,a8⟩:=zBl J L.length m O hm hL;have M:(L.take m).length=m:=by rw[List.length_take];omega
    obtain⟨⟨_,hs⟩,a7⟩:=zna (L.take m) H D hI;obtain⟨HZ,a5⟩:=zgc (L.take m) H;refine ztB W.fs.length W.pt.length a0 a1 a2 a3 a4 c0 c1 c2 c3 c4 w DT DK k E U J L.length O m q1 ((L.take m).foldl zdG W).pt.length W ((L.take m).foldl zdG W) (L.take m) (zny W (L.take m)) (by omega) D H.fs.few Z I a9 rfl H.lr a5 (HZ.lr.trans a5) M (by rw[ziU,M]) T (hP.take m) (fun X V hX F a6=>runN hR X H (by omega) rfl rfl rfl rfl rfl M hX hC (zvq T F a6) a8 ((hP.take m).below F)) ?_ ?_ (fun i hi=>a7 i (by omega)) (fun h=>hs h)
    ·exact fun A B V h1 h2 h3=>(hQ A B _ _ V (zcU (HZ.rs E (by omega))) h1 h2).mono fun e w' ⟨r,he,hb,hr⟩=>⟨by rw[he,hr.2 h3],hb⟩
    ·rcases hI with h|h
     ·exact Or.inl h
     ·cases hg:(fr W.fs E).g with
      | true=>exact Or.inl rfl
      | false=>exact Or.inr ⟨rfl,h⟩
   ·obtain⟨fb,fo,ea,f0,f1,f2,f3,f4⟩:=T.fs E D
    have hg:(fr W.fs E).g=false:=by
     cases hg:(fr W.fs E).g with
     | true=>exact absurd (Or.inl hg) hI
     | false=>rfl
    rw[hg] at f4;exact zwm W.fs.length W.pt.length a0 a1 a2 a3 a4 c0 c1 c2 c3 c4 w DT DK k E U J L.length O fb fo (fr W.fs E).m (by omega) D H.fs.few ea f2 f4 (fun h=>hI (Or.inr h))
 ·exact zgm _ _ _ _ _ (zbg W) k J _ O a0 a1 a2 a3 a4 c0 c1 c2 c3 c4 w (Or.inl hE) DT (fun V F=>zgU hK hB rfl hC (T.below F))
end Go.Proofs.YtcbcpomacdngmaaGreat
