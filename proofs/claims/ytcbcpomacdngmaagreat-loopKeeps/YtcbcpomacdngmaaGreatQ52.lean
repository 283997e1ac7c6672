/-
  x
-/
import Derived.Test.YtcbcpomacdngmaaGreatQ48
namespace Go.Proofs.YtcbcpomacdngmaaGreat
set_option maxRecDepth 100000
set_option maxHeartbeats 4000000
set_option linter.unusedVariables false
open Go.RowKit
variable {M:Nat->Prop} {T:Nat->Int} {O:Int} {W V:Wl}
variable {M:Nat->Prop} {T:Nat->Int} {O:Int} {W V:Wl}
variable {M:Nat->Prop} {T:Nat->Int} {O:Int} {W V:Wl}
theorem ztP{W:Wl}{k:Nat}{s:Bool}(h:zcp W k s=0){j:Nat}(M:j<W.fs.length) :
  ((fr W.fs j).g=true->(fr (zbz W k s).fs j).g=true) /\
  ((fr (zbz W k s).fs j).t≠(fr W.fs j).t->j≠k/\inF W.fs j k=true/\prg (zbz W k s) j=[]/\(rlm (zbz W k s) j).t=[]) /\
  ((fr (zbz W k s).fs j).t=(fr W.fs j).t->(j≠k->rlm (zbz W k s) j=rlm W j)/\prg (zbz W k s) j=prg W j/\∃ I,que (zbz W k s) j=(if j=k/\s=false then (que W k).drop 1 else que W j)++I/\∀ m ∈ I,m.f=k/\bits .and .i64 (fr W.fs k).m 2≠0):=by
 obtain⟨H,F,e,O,_⟩:=zbW h;have:F=k:=by omega
 subst this;obtain⟨_,A,_,_⟩:=zho h;have f1:=zdZ W F s;have T:F<W.rs.length:=by rw[H.lr];exact O
 have J:F<W.qs.length:=by rw[H.lq];exact O
 have D:j<(zbc W F s).fs.length:=by rw[f1];exact M
 have bp:prg (zbc W F s) j=prg W j:=by show (zbc W F s).ps.getD j []=_;rw[zgQ];rfl
 have g:=A.gone j D;have Z:=A.moved j D;have rl:=A.realm j D;have pr:=A.prog j D;have qu:=A.que j D;rw[f1] at g Z rl pr qu;refine⟨g,fun E=>?_,fun e=>⟨fun E=>(rl e E).trans (zeE T s E),(pr e).trans bp,?_⟩⟩
 ·obtain⟨U,m2,m3,m4⟩:=Z E;refine⟨U,m2,m3,?_⟩;rw[m4,zeE T s U,(zpZ (zav (H.rs j M)).1.small).2]
 ·obtain⟨I,e1,e2⟩:=qu e;exact⟨I,by rw[e1,zsL J],e2⟩
theorem zbM.take{w:World}{a:Option Addr}{L:List Ml}(h:zbM w a L)(k:Nat):zbM w a (L.take k):=fun i hi=>by
 have D:i<k/\i<L.length:=by rw[List.length_take] at hi;omega
 have e:ml (L.take k) i=ml L i:=by
  unfold ml;rw[zae _ _ hi,zae _ _ D.2,List.getElem_take]
 rw[e];exact h i D.2
theorem zbM.drop{w:World}{b o:Nat}{L:List Ml}(h:zbM w (some ⟨b,o,none⟩) L)(k:Nat):zbM w (some ⟨b,o+k*2,none⟩) (L.drop k):=fun i hi=>by
 have D:k+i<L.length:=by rw[List.length_drop] at hi;omega
 obtain⟨E,F,ga,gc,e,c0,c1,hc⟩:=h (k+i) D;cases e
 have e:ml (L.drop k) i=ml L (k+i):=by
  unfold ml;rw[zae _ _ hi,zae _ _ D,List.getElem_drop]
 rw[e];refine⟨_,_,ga,gc,rfl,?_,?_,hc⟩
 ·rw[show o+k*2+i*2=o+(k+i)*2 by omega];exact c0
 ·rw[show o+k*2+i*2+1=o+(k+i)*2+1 by omega];exact c1
theorem zBk(E:Option Addr)(n D cap:Nat)(h1:D<=n)(h:SlA E n cap):∃ F,(∀ W,(Instr.slice 51 (.slice E n cap) none (some (.int .i64 (D:Int))) none).run Tryz.prog W=.ok (.slice E D F) W)/\SlA E D F:=by
 obtain⟨T,U,O⟩:=h
 cases E with
 | none =>
  have e:=T rfl;subst e;have J:n=0:=by omega
  have M:D=0:=by omega
  subst J;subst M;exact⟨0,fun W=>by go_simp,zcd⟩
 | some I =>
  obtain⟨b,o,s⟩:=I;have g1:(D:Int)<=(cap:Int):=by omega
  have g2:(0:Int)<=(D:Int):=by omega
  exact⟨cap,fun W=>by go_simp,(fun e=>by cases e),by omega,O⟩
theorem zAO(E:Option Addr)(L:List Ml)(n k cap:Nat)(hn:L.length=n)(hk:k<=n)(h:SlA E n cap):∃ D I,(∀ W,(Instr.slice 51 (.slice E n cap) (some (.int .i64 (k:Int))) none none).run Tryz.prog W=.ok (.slice D (n-k) I) W)/\SlA D (n-k) I/\∀ W,zbM W E L->zbM W D (L.drop k):=by
 subst hn;obtain⟨T,h2,h3⟩:=h;have nil:L.length-k=0->∀ W a,zbM W a (L.drop k):=fun h W a i hi=>by rw[List.length_drop] at hi;omega
 cases E with
 | none =>
  have e:=T rfl;subst e;have F:L.length=0:=by omega
  have O:k=0:=by omega
  subst O;rw[F];exact⟨none,0,fun W=>by go_simp,zcd,fun W _=>nil (by omega) W _⟩
 | some M =>
  obtain⟨b,o,s⟩:=M;have Z:(0:Int)<=(k:Int):=by omega
  have g1:(k:Int)<=(L.length:Int):=by omega
  have g2:(L.length:Int)<=(cap:Int):=by omega
  by_cases e:cap=k
  ·have F:L.length-k=0:=by omega
   have g3:(cap:Int)=(k:Int):=by omega
   refine⟨some ⟨b,o,s⟩,0,fun W=>?_,⟨(fun e=>by cases e),by omega,by decide⟩,fun W _=>nil F W _⟩;subst e;go_simp
  ·have g3:¬ ((cap:Int)=(k:Int)):=by omega
   refine⟨some ((⟨b,o,s⟩:Addr).add (k*2)),cap-k,fun W=>?_,⟨(fun e=>by cases e),by omega,by omega⟩,fun W J=>?_⟩
   ·go_simp
   ·cases L with
    | nil=>exact fun i hi=>by simp at hi
    | cons x l =>
     obtain⟨U,o', _,_,e,_⟩:=J 0 (by simp);cases e;rw[Addr.add_lit];exact J.drop k
theorem zgZ(a E:Option Addr)(c c' n:Nat)(A:List Ac)(w:World)(hn:A.length=n)(hN:n<=1000)(h1:zbs w a A)(Z:zbs w E A) :
  Calls Tryz.prog 18 #[.slice a n c,.slice E n c'] w fun e w' => e=.returned (.bool true)/\∃ m,w' = w.drewN m:=by
 have H1:Hid (∀ m,zbs (w.drewN m) a A):=fun m=>h1.below (zbB (yr _ _) m);have H2:Hid (∀ m,zbs (w.drewN m) E A):=fun m=>Z.below (zbB (yr _ _) m);have I:Hid (A.length=n):=hn;clear h1 Z hn
 go_enter Tryz.func18,Tryz.ntmps18
 go_wp2
 go_loopg [13] n (fun g s13 wr=>∃ k m:Nat,k<=n/\n-k<=g/\s13=.int .i64 k/\wr=w.drewN m)
 case atStart=>exact⟨0,0,by omega,by omega,rfl,rfl⟩
 case round =>
  obtain⟨k,m,hk,hg,rfl,F⟩:=hrel;by_cases D:k<n
  ·have a5:(k:Int)<(n:Int):=by omega
   obtain⟨b,o,rfl,c0,c1,c2,c3,c4⟩:=H1.out m k (by rw[I.out];exact D);obtain⟨b', o', rfl,J,M,O,T,U⟩:=H2.out m k (by rw[I.out];exact D);rw[<- F] at c0 c1 c2 c3 c4 J M O T U;have HW:Hid (wr=w.drewN m):=F;clear F;generalize ac A k=x at *;obtain⟨x0,x1,x2,x3,x4⟩:=x;dsimp only at c0 c1 c2 c3 c4 J M O T U
   go_wp2_with fail
   go_quiet (fail)
   go_wp2
   go_roundg (n-(k+1))
   case measure=>omega
   case rel=>exact⟨k+1,m+nq,by omega,by omega,by go_num,by rw[HW.out,World.drewN_drewN]⟩
  ·have:k=n:=by omega
   subst this
   go_wp2
   go_ret;exact⟨rfl,m,rfl⟩
theorem ztQ(U n1 n2 n3 n4:Nat)(Z:Wl)(E q:Int)(s:Bool)(a0 a1 a2 a3 a4:Option Addr)(c0 c1 c2 c3 c4:Nat)(w:World)(hE:E≠0)(M:Hid (∀ V:World,Calls Tryz.prog 9 #[] V fun e w' => e=.returned (.bool true)/\Below V.heap.size V w'))
  (J:Hid (∀ V,Below w.heap.size w V->Calls Tryz.prog 13 #[.agg #[.slice a0 U c0,.slice a1 n1 c1,.slice a2 n2 c2,.slice a3 n3 c3,.slice a4 n4 c4],.agg #[.int .i64 q,.bool s]] V fun e w' => ∃ (f0 f1 f2 f3 f4:Option Addr) (O g1 g2 g3 T:Nat),e=.returned (.tuple #[.agg #[.slice f0 Z.fs.length O,.slice f1 Z.rs.length g1,.slice f2 Z.ps.length g2,.slice f3 Z.qs.length g3,.slice f4 Z.pt.length T],.int .i64 E])/\Below V.heap.size V w')) :
  Calls Tryz.prog 4 #[.agg #[.slice a0 U c0,.slice a1 n1 c1,.slice a2 n2 c2,.slice a3 n3 c3,.slice a4 n4 c4],.agg #[.int .i64 q,.bool s]] w fun e w' => e=.returned (.bool true)/\Below w.heap.size w w' := by
 go_enter Tryz.func4,Tryz.ntmps4
 go_wp2_with fail
 refine yi (J.out _ (zah _ _ _)) ?_;rintro e w1 ⟨f0,f1,f2,f3,f4,O,g1,g2,g3,T,rfl,D⟩;have F:Hid (Below w.heap.size w w1):=(zah w _ _).trans (D.mono (by simp;omega));clear D J
 go_wp2_with fail
 refine yi (M.out _) ?_;rintro e w2 ⟨rfl,D⟩;have I:Hid (Below w.heap.size w w2):=(F.out.alloc F.out.size _).trans (D.mono (by have:=F.out.size;simp;omega));clear D
 go_wp2_with fail
 refine yi (M.out _) ?_;rintro e w3 ⟨rfl,D⟩;have B3:Hid (Below w.heap.size w w3):=I.out.trans (D.mono I.out.size);clear D
 go_wp2
 go_ret;exact⟨rfl,B3.out⟩
theorem zwI(n n4 m4:Nat)(W Z:Wl)(q:Nat)(s:Bool)(a0 a1 a2 a3 a4:Option Addr)(c0 c1 c2 c3 c4:Nat)(w:World)(DT:Hid (∀ V:World,Calls Tryz.prog 9 #[] V fun e w' => e=.returned (.bool true)/\Below V.heap.size V w'))(hq:q<n)(t6:n<=8)(hW:Hid (zdF w ⟨a0,a1,a2,a3,a4,c0,c1,c2,c3,c4⟩ W))
  (DS:Hid (∀ V,Below w.heap.size w V->Calls Tryz.prog 13 #[.agg #[.slice a0 n c0,.slice a1 n c1,.slice a2 n c2,.slice a3 n c3,.slice a4 n4 c4],.agg #[.int .i64 q,.bool s]] V fun e w' => ∃ (f0 f1 f2 f3 f4:Option Addr) (g0 g1 g2 g3 g4:Nat),e=.returned (.tuple #[.agg #[.slice f0 n g0,.slice f1 n g1,.slice f2 n g2,.slice f3 n g3,.slice f4 m4 g4],.int .i64 0])/\Below V.heap.size V w' /\ WlC ⟨f0,f1,f2,f3,f4,g0,g1,g2,g3,g4⟩ Z/\zdF w' ⟨f0,f1,f2,f3,f4,g0,g1,g2,g3,g4⟩ Z))
  (DK:Hid (∀ (f0 f1 f2 f3 f4:Option Addr) (g0 g1 g2 g3 g4:Nat) V,WlC ⟨f0,f1,f2,f3,f4,g0,g1,g2,g3,g4⟩ Z->zdF V ⟨f0,f1,f2,f3,f4,g0,g1,g2,g3,g4⟩ Z->Calls Tryz.prog 10 #[.agg #[.slice f0 n g0,.slice f1 n g1,.slice f2 n g2,.slice f3 n g3,.slice f4 m4 g4]] V fun e w' => e=.returned (.int .i64 0)/\Below V.heap.size V w'))
  (LW:Hid (W.fs.length=n/\W.rs.length=n/\W.ps.length=n/\W.qs.length=n)) (LZ:Hid (Z.fs.length=n/\Z.rs.length=n/\Z.ps.length=n/\Z.qs.length=n)) (TW PL:Nat) (n2:TW<=4800) (n1:PL<=40) (HT:Hid ((rl W.rs q).t.length=TW/\(pg W.ps q).length=PL/\(rl Z.rs q).t.length=TW+PL))
  (BZ:Hid (∀ j,j<n->zzu (qu Z.qs j))) (l9:Hid (∀ j,j<n->(qu Z.qs j).length<=16)) (m6:Hid (s=false->(qu W.qs q).length≠0)) (i3:Hid (∀ j,j<n->(pg W.ps j).length<=40)) (DQ:Hid (∀ (j:Nat) (A B:RA) V,j<n->zct V A (rl Z.rs j)->zct V B (rl W.rs j)->rl Z.rs j=rl W.rs j->Calls Tryz.prog 17 #[rlV A (rl Z.rs j),rlV B (rl W.rs j)] V fun e w' => e=.returned (.bool true)/\Below V.heap.size V w'))
  (HK:Hid (∀ j,j<n->((fr W.fs j).g=true->(fr Z.fs j).g=true)/\((fr Z.fs j).t≠(fr W.fs j).t->j≠q/\inF W.fs j q=true/\(pg Z.ps j).length=0/\(rl Z.rs j).t.length=0)/\((fr Z.fs j).t=(fr W.fs j).t->(j≠q->rl Z.rs j=rl W.rs j)/\pg Z.ps j=pg W.ps j/\∃ ex,qu Z.qs j=(if j=q/\s=false then (qu W.qs q).drop 1 else qu W.qs j)++ex/\∀ m ∈ ex,m.f=q/\bits .and .i64 (fr W.fs q).m 2≠0))) :
  Calls Tryz.prog 4 #[.agg #[.slice a0 n c0,.slice a1 n c1,.slice a2 n c2,.slice a3 n c3,.slice a4 n4 c4],.agg #[.int .i64 q,.bool s]] w fun e w' => e=.returned (.bool true)/\Below w.heap.size w w' := by
 have o0:(q:Int)<n:=by omega
 go_enter Tryz.func4,Tryz.ntmps4
 go_wp2_with fail
 refine yi (DS.out _ (zah _ _ _)) ?_;rintro e w1 ⟨f0,f1,f2,f3,f4,g0,g1,g2,g3,g4,rfl,hb,hc,hz⟩;have K1:Hid (w1.heap[w.heap.size]?=some (.cells #[.slice a0 n c0,.slice a1 n c1,.slice a2 n c2,.slice a3 n c3,.slice a4 n4 c4] 28 (0,0))):=zat (zat (yL w _) (zaa _ _)) hb;have K2:Hid (w1.heap[w.heap.size+1]?=some (.cells #[.int .i64 q,.bool s] 40 (0,0))):=zat (show _=_ from by have h:=yL (w.alloc (.cells #[.slice a0 n c0,.slice a1 n c1,.slice a2 n c2,.slice a3 n c3,.slice a4 n4 c4] 28)) (.cells #[.int .i64 q,.bool s] 40);rw[ys] at h;exact h) hb;have B1:Hid (Below w.heap.size w w1):=(zah w _ _).trans (hb.mono (by simp;omega));have C1:Hid (WlC ⟨f0,f1,f2,f3,f4,g0,g1,g2,g3,g4⟩ Z):=hc;have Z1:Hid (zdF w1 ⟨f0,f1,f2,f3,f4,g0,g1,g2,g3,g4⟩ Z):=hz;clear hb hc hz DS
 go_wp2_with fail
 refine yi (DT.out _) ?_;rintro e w2 ⟨rfl,hb⟩;obtain⟨b5,e4⟩:∃ b5,w1.heap.size=b5:=⟨_,rfl⟩;have b4:Hid (Below w1.heap.size w1 w2):=(zaa w1 _).trans (hb.mono (by simp));have X2:Hid (w2.heap[b5]?=some (.cells #[.slice f0 n g0,.slice f1 n g1,.slice f2 n g2,.slice f3 n g3,.slice f4 m4 g4] 28 (0,0))):=by rw[<- e4];exact zat (yL w1 _) hb
 rw[e4];have P2:Hid _:=zat K1.out b4.out;have Q2:Hid _:=zat K2.out b4.out;have Z2:Hid (zdF w2 ⟨f0,f1,f2,f3,f4,g0,g1,g2,g3,g4⟩ Z):=Z1.out.below b4.out;have B2:Hid (Below w.heap.size w w2):=B1.out.trans (b4.out.mono B1.out.size);have W2:Hid (zdF w2 ⟨a0,a1,a2,a3,a4,c0,c1,c2,c3,c4⟩ W):=hW.out.below B2.out;have r6:w.heap.size+1<b5:=by rw[<- e4];exact zay K2.out
 clear hb e4 K1 K2 B1 b4 Z1 DT hW;obtain⟨p0,p1,p2,p3,p4,pf,pl⟩:=zao P2.out;obtain⟨z0,z1,z2,z3,z4,zf,zl⟩:=zao X2.out;obtain⟨u0,u1⟩:w2.cell? ⟨w.heap.size+1,0,none⟩=some (.int .i64 q)/\w2.cell? ⟨w.heap.size+1,1,none⟩=some (.bool s):=⟨by simp[World.cell?,Q2.out],by simp[World.cell?,Q2.out]⟩;obtain⟨rb,ro,A,er,r0,r1,r2,r3,hr⟩:=Z2.out.rs q (by rw[LZ.out.2.1];exact hq);obtain⟨vb,vo,B,ev,v0,v1,v2,v3,hv⟩:=W2.out.rs q (by rw[LW.out.2.1];exact hq);obtain⟨gb,go,pa,pc,eg,T,hg⟩:=W2.out.ps q (by rw[LW.out.2.2.1];exact hq);rw[HT.out.2.2] at r3;rw[HT.out.1] at v3;rw[HT.out.2.1] at T;have sum:IntKind.i64.wrap ((TW:Int)+PL)=(TW:Int)+PL:=by rw[yI];omega
 have l5:wrap64 ((TW:Int)+PL)=(TW:Int)+PL:=by unfold wrap64;omega
 clear r0 r1 r2 v0 v1 v2 hr hv hg;dsimp only at er ev eg;have ER:Hid _:=er;have EV:Hid _:=ev;have EG:Hid _:=eg;have l8:=z1;have l3:=p1;have l4:=p2;rw[er] at l8;rw[ev] at l3;rw[eg] at l4
 go_upto_region 4 with fail
 go_cut [62] (fun s62 wx=>s62=.bool false/\Hid (Below w2.heap.size w2 wx))
 case first =>
  as_aux_lemma =>
   subst er ev eg
   go_region_held3 (fun D=>D.cell? ⟨b5,0,none⟩=some (.slice f0 n g0)/\D.cell? ⟨b5,1,none⟩=some (.slice (some ⟨rb,ro,none⟩) n g1)/\D.cell? ⟨b5,2,none⟩=some (.slice f2 n g2)/\D.cell? ⟨b5,3,none⟩=some (.slice f3 n g3)/\D.cell? ⟨b5,4,none⟩=some (.slice f4 m4 g4)/\D.cell? ⟨w.heap.size,0,none⟩=some (.slice a0 n c0)/\D.cell? ⟨w.heap.size,1,none⟩=some (.slice (some ⟨vb,vo,none⟩) n c1)/\D.cell? ⟨w.heap.size,2,none⟩=some (.slice (some ⟨gb,go,none⟩) n c2)/\D.cell? ⟨w.heap.size+1,0,none⟩=some (.int .i64 q)/\D.cell? ⟨rb,ro+q*4+3,none⟩=some (.slice A.a3 (TW+PL) A.c3)/\D.cell? ⟨vb,vo+q*4+3,none⟩=some (.slice B.a3 TW B.c3)/\D.cell? ⟨gb,go+q,none⟩=some (.slice pa PL pc)) (go_keep) (first|(go_at_call 10;refine yi (DK.out _ _ _ _ _ _ _ _ _ _ _ C1.out (Z2.out.below (yr _ _).drew)) ?_;rintro e w8 ⟨rfl,b8⟩;have E:Hid (Below w2.heap.size w2 w8):=(yr w2.heap.size w2).drew.trans (b8.mono (by simp));have v8:=zab z0 E.out;have p8:=zab z1 E.out;have p9:=zab z2 E.out;have v9:=zab z3 E.out;have w0:=zab z4 E.out;have t7:=zab p0 E.out;have o8:=zab p1 E.out;have o9:=zab p2 E.out;have p6:=zab u0 E.out;have p5:=zab r3 E.out;have p7:=zab v3 E.out;have l1:=zab T E.out;clear b8))
   all_goals
    go_wp2_with fail
    go_meet
    case rel=>exact⟨rfl,E⟩
 case rest =>
 obtain⟨rfl,HB⟩:=hcut;have P3:Hid _:=zat P2.out HB.out;have X3:Hid _:=zat X2.out HB.out;have Q3:Hid _:=zat Q2.out HB.out;have Z3:Hid (zdF wc ⟨f0,f1,f2,f3,f4,g0,g1,g2,g3,g4⟩ Z):=Z2.out.below HB.out;have W3:Hid (zdF wc ⟨a0,a1,a2,a3,a4,c0,c1,c2,c3,c4⟩ W):=W2.out.below HB.out;have B3:Hid (Below w.heap.size w wc):=B2.out.trans (HB.out.mono B2.out.size);clear HB P2 X2 Q2 Z2 W2 B2 er ev eg ER EV EG l8 l3 l4 r3 v3 T sum l5 p0 p1 p2 p3 p4 pf pl z0 z1 z2 z3 z4 zf zl u0 u1 HT n2 n1 DK C1;obtain⟨p0,p1,p2,p3,p4,pf,pl⟩:=zao P3.out
 go_wp2_with fail
 clear p0 p1 p2 p3 p4 pf pl
 go_loopg [66] n (fun g s66 wr=>∃ j:Nat,j<=n/\n-j<=g/\s66=.int .i64 j/\Hid (Below wc.heap.size wc wr))
 case atStart=>exact⟨0,Nat.zero_le _,by omega,rfl,yr _ _⟩
 case round =>
  obtain⟨j,hj,hg,rfl,O⟩:=hrel;by_cases I:j<n
  ·have r9:(j:Int)<n:=by omega
   obtain⟨k1,k2,k3⟩:=HK.out j I;have H2:Hid _:=k2;have H3:Hid _:=k3;clear k2 k3;obtain⟨p0,p1,p2,p3,p4,pf,pl⟩:=zao (zat P3.out O.out);obtain⟨z0,z1,z2,z3,z4,zf,zl⟩:=zao (zat X3.out O.out);obtain⟨u0,u1⟩:wr.cell? ⟨w.heap.size+1,0,none⟩=some (.int .i64 q)/\wr.cell? ⟨w.heap.size+1,1,none⟩=some (.bool s):=⟨by simp[World.cell?,zat Q3.out O.out],by simp[World.cell?,zat Q3.out O.out]⟩;have ZR:Hid (zdF wr ⟨f0,f1,f2,f3,f4,g0,g1,g2,g3,g4⟩ Z):=Z3.out.below O.out;have WR:Hid (zdF wr ⟨a0,a1,a2,a3,a4,c0,c1,c2,c3,c4⟩ W):=W3.out.below O.out;obtain⟨fb,fo,ea,m8,m9,n0,d8,j0⟩:=WR.out.fs j (by rw[LW.out.1];exact I);obtain⟨yb,yo,ef,q2,q3,q4,c7,l7⟩:=ZR.out.fs j (by rw[LZ.out.1];exact I);dsimp only at ea ef;subst ea ef;clear m8 m9 n0 q2 q3 q4
   go_upto_region 9 with fail
   go_cut [83] (fun s83 wx=>s83=.bool false/\wx=wr)
   case first =>
    as_aux_lemma =>
     generalize (fr W.fs j).g=gw at k1 j0;generalize (fr Z.fs j).g=gz at k1 l7
     cases gw with
     | true =>
      have e:=k1 rfl;subst e
      go_wp2_with fail
      go_meet
      case rel=>exact⟨rfl,rfl⟩
     | false =>
      go_wp2_with fail
      go_meet
      case rel=>exact⟨rfl,rfl⟩
   case rest =>
   obtain⟨rfl,a7⟩:=hcut;have a8:=a7.symm;clear a7;subst a8;clear k1 j0 l7
   go_upto_region 11 with fail
   by_cases ht:(fr Z.fs j).t=(fr W.fs j).t
   ·obtain⟨j9,k0,ex,k4,k5⟩:=H3.out ht;have S1:Hid _:=j9;have S3:Hid _:=k4;have S4:Hid _:=k5;rw[ht] at c7;clear j9 k4 k5 H2 H3 ht;generalize (fr W.fs j).t=tw at c7 d8
    go_big_quiet (fail)
    obtain⟨J,a9⟩:∃ J,wr.drewN nq=J:=⟨_,rfl⟩;rw[a9];have M:Hid (Below wr.heap.size wr J):=by rw[<- a9];exact zbB (yr _ _) _
    clear a9 c7 d8;have ZV:Hid _:=ZR.out.below M.out;have WV:Hid _:=WR.out.below M.out;obtain⟨rb,ro,A,er,r0,r1,r2,r3,hr⟩:=ZV.out.rs j (by rw[LZ.out.2.1];exact I);obtain⟨vb,vo,B,ev,v0,v1,v2,v3,hv⟩:=WV.out.rs j (by rw[LW.out.2.1];exact I);obtain⟨gb,go,pa,pc,eg,T,b9⟩:=ZV.out.ps j (by rw[LZ.out.2.2.1];exact I);obtain⟨xb,xo,qa,qc,i9,e7,k9⟩:=WV.out.ps j (by rw[LW.out.2.2.1];exact I);dsimp only at er ev eg i9;subst er ev eg i9;rw[k0] at T b9;have g9:Hid (zbs J pa (pg W.ps j)):=b9;have h4:Hid (zbs J qa (pg W.ps j)):=k9;obtain⟨LP,d9⟩:∃ LP,(pg W.ps j).length=LP:=⟨_,rfl⟩;have g6:Hid ((pg W.ps j).length=LP):=d9;have i2:LP<=40:=by rw[<- d9];exact i3.out j I
    rw[d9] at T e7;have HR:Hid (zct J A (rl Z.rs j)):=hr;have HV:Hid (zct J B (rl W.rs j)):=hv;clear b9 k9 d9 hr hv k0;obtain⟨A0,A1,A2,A3,C0,C1,C2,C3⟩:=A;obtain⟨E0,E1,E2,E3,G0,G1,G2,G3⟩:=B;dsimp only at r0 r1 r2 r3 v0 v1 v2 v3;replace p0:=zab p0 M.out;replace p1:=zab p1 M.out;replace p2:=zab p2 M.out;replace p3:=zab p3 M.out;replace z1:=zab z1 M.out;replace z2:=zab z2 M.out;replace z3:=zab z3 M.out;replace u0:=zab u0 M.out;replace u1:=zab u1 M.out;clear p4 pf pl z0 z4 zf zl
    go_upto_region 14 with fail
    go_cut [158] (fun s158 wx=>s158=.bool false/\Hid (Below J.heap.size J wx))
    case first =>
     by_cases F:j=q
     ·as_aux_lemma =>
      subst F;have DE:Hid (∀ m,Calls Tryz.prog 18 #[.slice pa LP pc,.slice qa LP qc] (J.drewN m) fun e w' => e=.returned (.bool true)/\∃ m', w' =(J.drewN m).drewN m'):=fun m=>zgZ pa qa pc qc LP _ _ g6.out (by omega) (g9.out.below (zbB (yr _ _) m)) (h4.out.below (zbB (yr _ _) m));clear r0 r1 r2 r3 v0 v1 v2 v3
      go_big_quiet (first|(go_at_call 18;exact Calls.quiet_of (DE.out _)))
      go_wp2_with fail
      go_meet
      case rel=>exact⟨rfl,zbB (yr _ _) _⟩
     ·as_aux_lemma =>
      have SM:Hid _:=S1.out F;have m3:Hid (∀ V,Below J.heap.size J V->Calls Tryz.prog 17 #[.agg #[.slice A0 (rl Z.rs j).s.length C0,.slice A1 (rl Z.rs j).hs.length C1,.slice A2 (rl Z.rs j).i.length C2,.slice A3 (rl Z.rs j).t.length C3],.agg #[.slice E0 (rl W.rs j).s.length G0,.slice E1 (rl W.rs j).hs.length G1,.slice E2 (rl W.rs j).i.length G2,.slice E3 (rl W.rs j).t.length G3]] V fun e w' => e=.returned (.bool true)/\Below V.heap.size V w'):=fun V hV=>DQ.out j ⟨A0,A1,A2,A3,C0,C1,C2,C3⟩ ⟨E0,E1,E2,E3,G0,G1,G2,G3⟩ V I (HR.out.below hV) (HV.out.below hV) SM.out;have m2:Hid (∀ V,Below J.heap.size J V->Calls Tryz.prog 18 #[.slice pa LP pc,.slice qa LP qc] V fun e w' => e=.returned (.bool true)/\Below V.heap.size V w'):=fun V hV=>(zgZ pa qa pc qc LP _ _ g6.out (by omega) (g9.out.below hV) (h4.out.below hV)).mono fun e w' ⟨h1,m,h2⟩=>⟨h1,by rw[h2];exact zbB (yr _ _) _⟩;have d1:¬ ((j:Int)=(q:Int)):=by omega
      have d2:decide ((j:Int)=(q:Int))=false:=yF d1;have d3:((j:Int) ==(q:Int))=false:=by simpa using d1
      have d6:((j:Int) !=(q:Int))=true:=by simpa using d1
      have d4:(j == q)=false:=by simpa using F
      have d5:decide (j=q)=false:=yF F;have d7:(j != q)=true:=by simpa using F
      clear HR HV SM DQ
      go_region_held3 (fun D=>D.cell? ⟨b5,1,none⟩=some (.slice (some ⟨rb,ro,none⟩) n g1)/\D.cell? ⟨b5,2,none⟩=some (.slice (some ⟨gb,go,none⟩) n g2)/\D.cell? ⟨w.heap.size,1,none⟩=some (.slice (some ⟨vb,vo,none⟩) n c1)/\D.cell? ⟨w.heap.size,2,none⟩=some (.slice (some ⟨xb,xo,none⟩) n c2)/\D.cell? ⟨w.heap.size+1,0,none⟩=some (.int .i64 q)/\D.cell? ⟨rb,ro+j*4,none⟩=some (.slice A0 (rl Z.rs j).s.length C0)/\D.cell? ⟨rb,ro+j*4+1,none⟩=some (.slice A1 (rl Z.rs j).hs.length C1)/\D.cell? ⟨rb,ro+j*4+2,none⟩=some (.slice A2 (rl Z.rs j).i.length C2)/\D.cell? ⟨rb,ro+j*4+3,none⟩=some (.slice A3 (rl Z.rs j).t.length C3)/\D.cell? ⟨vb,vo+j*4,none⟩=some (.slice E0 (rl W.rs j).s.length G0)/\D.cell? ⟨vb,vo+j*4+1,none⟩=some (.slice E1 (rl W.rs j).hs.length G1)/\D.cell? ⟨vb,vo+j*4+2,none⟩=some (.slice E2 (rl W.rs j).i.length G2)/\D.cell? ⟨vb,vo+j*4+3,none⟩=some (.slice E3 (rl W.rs j).t.length G3)/\D.cell? ⟨gb,go+j,none⟩=some (.slice pa LP pc)/\D.cell? ⟨xb,xo+j,none⟩=some (.slice qa LP qc)) (go_keep) (first|(go_at_call 17;refine yi (m3.out _ (yr _ _).drew) ?_;rintro e w8 ⟨rfl,b8⟩;have E:Hid (Below J.heap.size J w8):=(yr J.heap.size J).drew.trans (b8.mono (by simp));have p8:=zab z1 E.out;have p9:=zab z2 E.out;have o8:=zab p1 E.out;have o9:=zab p2 E.out;have p6:=zab u0 E.out;have t8:=zab r0 E.out;have t9:=zab r1 E.out;have v4:=zab r2 E.out;have p5:=zab r3 E.out;have v5:=zab v0 E.out;have v6:=zab v1 E.out;have v7:=zab v2 E.out;have p7:=zab v3 E.out;have l1:=zab T E.out;have q6:=zab e7 E.out;  clear b8)|(go_at_call 18;refine yi (m2.out _ E.out) ?_;rintro e w9 ⟨rfl,j1⟩;have B9:Hid (Below J.heap.size J w9):=E.out.trans (j1.mono E.out.size);have x9:=zab z1 B9.out;have y3:=zab z2 B9.out;have w5:=zab p1 B9.out;have w6:=zab p2 B9.out;have x4:=zab u0 B9.out;have x0:=zab r0 B9.out;have x1:=zab r1 B9.out;have x2:=zab r2 B9.out;have x3:=zab r3 B9.out;have x5:=zab v0 B9.out;have x6:=zab v1 B9.out;have x7:=zab v2 B9.out;have x8:=zab v3 B9.out;have q7:=zab T B9.out;have q8:=zab e7 B9.out;  clear j1))
      all_goals
       go_wp2_with fail
       go_meet
       case rel=>exact⟨rfl,B9⟩
    case rest =>
    obtain⟨rfl,a5⟩:=hcut;obtain⟨U,n3⟩:∃ U,U=wc:=⟨_,rfl⟩;subst n3;obtain⟨wq,o2⟩:∃ wq,wq=wr:=⟨_,rfl⟩;subst o2;have h9:Hid (Below wq.heap.size wq U):=M.out.trans (a5.out.mono M.out.size);have Z5:Hid _:=ZV.out.below a5.out;have W5:Hid _:=WV.out.below a5.out;obtain⟨kb,ko,ka,kc,ek,e5,k6,j6⟩:=Z5.out.qs j (by rw[LZ.out.2.2.2];exact I);obtain⟨lb,lo,la,lc,el,l2,k7,j7⟩:=W5.out.qs j (by rw[LW.out.2.2.2];exact I);obtain⟨r4,r5,i6,o4,o5,l0,o6,o7⟩:=W5.out.fs q (by rw[LW.out.1];exact hq);dsimp only at ek el i6;cases i6;subst ek el;replace p0:=zab p0 a5.out;replace p3:=zab p3 a5.out;replace z3:=zab z3 a5.out;replace u0:=zab u0 a5.out;replace u1:=zab u1 a5.out;clear p1 p2 z1 z2 r0 r1 r2 r3 v0 v1 v2 v3 T e7 g9 h4 g6 i2 HR HV a5 ZV WV M o4 o5 o6 o7 Z5 W5 ZR WR S1 i3 DQ;obtain⟨Q0,e2⟩:∃ Q0,(if j=q/\s=false then (qu W.qs q).drop 1 else qu W.qs j)=Q0:=⟨_,rfl⟩;have a6:Hid ((qu Z.qs j).length=Q0.length+ex.length):=(show _=_ from by rw[S3.out,e2,List.length_append]);have c9:Hid (qu Z.qs j=Q0++ex):=S3.out.trans (by rw[e2]);have g7:Hid _:=e2;have e9:Hid (zbM U ka (qu Z.qs j)):=j6;have g5:Hid (zbM U la (qu W.qs j)):=j7;have c8:Hid (SlA ka (qu Z.qs j).length kc):=k6;have g8:Hid (SlA la (qu W.qs j).length lc):=k7;have i1:Hid (zzu (qu Z.qs j)):=BZ.out j I;obtain⟨ZL,e3⟩:∃ ZL,(qu Z.qs j).length=ZL:=⟨_,rfl⟩;obtain⟨QL,h8⟩:∃ QL,(qu W.qs j).length=QL:=⟨_,rfl⟩;obtain⟨L0,h7⟩:∃ L0,Q0.length=L0:=⟨_,rfl⟩;obtain⟨EL,h6⟩:∃ EL,ex.length=EL:=⟨_,rfl⟩;rw[e3] at e5 c8 a6;rw[h8] at l2 g8;rw[h7,h6] at a6
    have m7:Hid ((qu Z.qs j).length=ZL):=e3;have b7:Hid ((qu W.qs j).length=QL):=h8;have b0:Hid (Q0.length=L0):=h7;have i4:Hid (ex.length=EL):=h6;have q5:ZL<=16:=by rw[<- e3];exact l9.out j I
    clear k6 k7 j6 j7 e3 h8 h7 h6 e2 S3
    go_upto_region 17 with fail
    go_cut [172] (fun s172 wx=>s172=.bool (decide (j=q) && !s)/\wx=U)
    case first =>
     as_aux_lemma =>
      by_cases F:j=q
      ·subst F
       cases s with
       | true =>
        go_wp2_with fail
        go_meet
        case rel=>exact⟨by simp,rfl⟩
       | false =>
        go_wp2_with fail
        go_meet
        case rel=>exact⟨by simp,rfl⟩
      ·have d1:¬ ((j:Int)=(q:Int)):=by omega
       have d2:decide ((j:Int)=(q:Int))=false:=yF d1;have d3:((j:Int) ==(q:Int))=false:=by simpa using d1
       have d4:(j == q)=false:=by simpa using F
       have d5:decide (j=q)=false:=yF F
       go_wp2_with fail
       go_meet
       case rel=>exact⟨by simp[F],rfl⟩
    case rest =>
    obtain⟨rfl,a7⟩:=hcut;have a8:=a7.symm;clear a7;subst a8
    go_upto_if 172 with fail
    go_cut [8] (fun s8 wx=>∃ (c6:Option Addr) (e6:Nat),s8=.slice c6 L0 e6/\Hid (zbM U c6 Q0)/\wx=U)
    case first =>
     as_aux_lemma =>
      cases hcb:(decide (j=q) && !s) with
      | true =>
       obtain⟨F,o1⟩:j=q/\s=false:=by simpa using hcb
       subst F;subst o1;have o0:=m6.out rfl;obtain⟨t1,t2,t3,t4,t5⟩:=zAO la (qu W.qs j) QL 1 lc b7.out (by rw[<- b7.out];omega) g8.out;have e0:Q0=(qu W.qs j).drop 1:=(show _=_ from by rw[<- g7.out];simp);have e1:QL-1=L0:=by rw[<- b0.out,e0,List.length_drop,b7.out]
       have y9:∀ W,(Instr.slice 51 (.slice la QL lc) (some (.int .i64 1)) none none).run Tryz.prog W=.ok (.slice t1 L0 t2) W:=by rw[<- e1];exact t3
       have M5:Hid (zbM U t1 Q0):=(show zbM _ _ _ from by rw[e0];exact t5 U g5.out);clear t3 t4 t5 e0 e1
       go_wp2_with fail
       go_meet
       case rel=>exact⟨t1,t2,rfl,M5,rfl⟩
      | false =>
       have n9:¬ (j=q/\s=false):=fun h=>by rw[h.1,h.2] at hcb;simp at hcb
       have e0:Q0=qu W.qs j:=(show _=_ from by rw[<- g7.out,ya n9]);have e1:QL=L0:=by rw[<- b0.out,e0,b7.out]
       have M5:Hid (zbM U la Q0):=(show zbM _ _ _ from by rw[e0];exact g5.out);clear e0;subst e1
       go_wp2_with fail
       go_meet
       case rel=>exact⟨la,lc,rfl,M5,rfl⟩
    case rest =>
    obtain⟨c6,e6,rfl,M5,a7⟩:=hcut;have a8:=a7.symm;clear a7;subst a8;obtain⟨i5,r7,n6⟩:=zBk ka ZL L0 kc (by have:=a6.out;omega) c8.out;obtain⟨ta,tc,q0,q1,l6⟩:=zAO ka (qu Z.qs j) ZL L0 kc m7.out (by have:=a6.out;omega) c8.out;rw[show ZL-L0=EL from by have:=a6.out;omega] at q0;have i8:(qu Z.qs j).take L0=Q0:=by rw[c9.out,<- b0.out,List.take_left'];rfl
    have i7:(qu Z.qs j).drop L0=ex:=by rw[c9.out,<- b0.out,List.drop_left'];rfl
    have ME:Hid (zbM U ta ex):=(show zbM _ _ _ from by rw[<- i7];exact l6 U e9.out);have MK:Hid (zbM U ka Q0):=(show zbM _ _ _ from by rw[<- i8];exact e9.out.take L0)
    have i0:Hid (∀ V,Below U.heap.size U V->Calls Tryz.prog 19 #[.slice ka L0 i5,.slice c6 L0 e6] V fun e w' => e=.returned (.bool true)/\Below V.heap.size V w'):=fun V hV=>by
     have n5:zzu Q0:=fun i hi=>by
      have h1:=i1.out i (by rw[c9.out,List.length_append];omega);have h2:ml (qu Z.qs j) i=ml Q0 i:=by rw[c9.out,zhR (by rw[List.length_append];omega),zhR hi,List.getElem_append_left hi]
      rw[h2] at h1;exact h1
     have h:=zrU ka c6 i5 e6 Q0 Q0 V (by have:=a6.out;rw[b0.out];omega) n5 (MK.out.below hV) (M5.out.below hV);rw[b0.out] at h;exact h.mono fun e w' ⟨r,h1,h2,h3⟩=>⟨by rw[h1,h3.2 rfl],h2⟩
    have y4:¬ ((ZL:Int)<(L0:Int)):=by have:=a6.out;omega
    have w4:L0<=16:=by have:=a6.out;omega
    have q9:EL<=16:=by have:=a6.out;omega
    clear n6 q1 l6 i8 i7 e9 g5 c8 g8 g7 b7 i1
    go_wp2_with fail
    refine yi (i0.out _ (yr _ _)) ?_;rintro e w7 ⟨rfl,hb⟩;have B7:Hid (Below U.heap.size U w7):=hb;replace z3:=zab z3 hb;replace e5:=zab e5 hb;clear hb i0 p3 l2
    go_wp2_with fail
    clear z3 e5
    go_loopg [206] EL (fun g s206 wr=>∃ i:Nat,i<=EL/\EL-i<=g/\s206=.int .i64 i/\Hid (Below w7.heap.size w7 wr))
    case atStart=>exact⟨0,Nat.zero_le _,by omega,rfl,yr _ _⟩
    case round =>
     as_aux_lemma =>
      obtain⟨i,hi,r8,rfl,e8⟩:=hrel;have b6:Hid (Below U.heap.size U wr):=B7.out.trans (e8.out.mono B7.out.size);by_cases hit:i<EL
      ·have j4:(i:Int)<EL:=by omega
       obtain⟨mb,mo,ga,gc,em,m0,m1,_⟩:=(ME.out.below b6.out) i (by rw[i4.out];exact hit);subst em;obtain⟨j2,j3⟩:=S4.out (ml ex i) (by rw[zhR (by rw[i4.out];exact hit)];exact List.getElem_mem _);rw[j2] at m0;have y0:=zab p0 b6.out;have y1:=zab u0 b6.out;have y2:=zab l0 b6.out;have n7:¬ bits .and .i64 (fr W.fs q).m 2=0:=j3;have y5:mb<wr.heap.size:=ye _ _ m0;have y6:w.heap.size<wr.heap.size:=ye _ _ y0;have y7:w.heap.size+1<wr.heap.size:=ye _ _ y1;have y8:fb<wr.heap.size:=ye _ _ y2;generalize (fr W.fs q).m=MM at y2 n7;generalize (ml ex i).g.length=gl at m1;clear j2 j3 p0 u0 l0 u1
       go_wp2_with fail
       go_roundg (EL-(i+1))
       case measure=>omega
       case rel=>exact⟨i+1,by omega,by omega,by go_num,e8.out.trans ((zaa wr _).mono e8.out.size)⟩
      ·have j4:¬ ((i:Int)<EL):=by omega
       go_wp2_with fail
       go_roundg (n-(j+1))
       case measure=>omega
       case rel=>exact⟨j+1,by omega,by omega,by go_num,O.out.trans ((h9.out.trans (b6.out.mono h9.out.size)).mono O.out.size)⟩
   ·as_aux_lemma =>
    obtain⟨F,j5,j8,k8⟩:=H2.out ht;have m5:Hid _:=j5;clear j5 H2 H3;generalize (fr Z.fs j).t=tz at c7 ht;generalize (fr W.fs j).t=tw at d8 ht;have b1:decide (tz=tw)=false:=yF ht;have b2:(tz != tw)=true:=by simpa using ht
    have b3:(tz == tw)=false:=by simpa using ht
    go_big_quiet (fail)
    obtain⟨J,a9⟩:∃ J,wr.drewN nq=J:=⟨_,rfl⟩;rw[a9];have M:Hid (Below wr.heap.size wr J):=by rw[<- a9];exact zbB (yr _ _) _
    clear a9 b1 b2 b3 ht c7 d8;obtain⟨rb,ro,A,er,r0,r1,r2,r3,hr⟩:=(ZR.out.below M.out).rs j (by rw[LZ.out.2.1];exact I);obtain⟨gb,go,pa,pc,eg,T,b9⟩:=(ZR.out.below M.out).ps j (by rw[LZ.out.2.2.1];exact I);dsimp only at er eg;subst er eg;rw[k8] at r3;rw[j8] at T;clear r0 r1 r2 hr b9 k8 j8;replace p0:=zab p0 M.out;replace z1:=zab z1 M.out;replace z2:=zab z2 M.out;replace u0:=zab u0 M.out;clear p1 p2 p3 p4 pf pl z0 z3 z4 zf zl u1
    have DW:Hid (∀ m,Calls Tryz.prog 16 #[.slice (some ⟨fb,fo,none⟩) n c0,.int .i64 j,.int .i64 q] (J.drewN m) fun e w' => e=.returned (.bool true)/\w' = J.drewN m):=fun m=>by
     have h:=zeM (some ⟨fb,fo,none⟩) c0 W.fs j q (J.drewN m) (by rw[LW.out.1];omega) ((WR.out.fs.below M.out).below (zbB (yr _ _) m));rw[LW.out.1,m5.out] at h;exact h
    have d1:¬ ((j:Int)=(q:Int)):=by omega
    have d2:decide ((j:Int)=(q:Int))=false:=yF d1;have d3:((j:Int) ==(q:Int))=false:=by simpa using d1
    have d4:(j == q)=false:=by simpa using F
    have d5:decide (j=q)=false:=yF F
    go_upto_region 12 with fail
    go_big_quiet (first|(go_at_call 16;exact Calls.quiet_of_same (DW.out _)))
    go_wp2_with fail
    go_roundg (n-(j+1))
    case measure=>omega
    case rel=>exact⟨j+1,by omega,by omega,by go_num,O.out.trans ((M.out.trans (zbB (yr _ _) _)).mono O.out.size)⟩
  ·have n8:j=n:=by omega
   have j4:¬ ((j:Int)<n):=by omega
   clear n8
   go_wp2
   go_ret;exact⟨rfl,B3.out.trans (O.out.mono B3.out.size)⟩
theorem zlR(hN:zkD)(hK:zdY)(hR:zfn)(hT:zfN)(hQ:zsv)(A:WA)(W:Wl)(k:Int)(s:Bool)(w:World)(hB:znQ W)(hC:WlC A W)(hW:zdF w A W) :
  Calls Tryz.prog 4 #[wlV A W,.agg #[.int .i64 k,.bool s]] w fun e w' => e=.returned (.bool true)/\Below w.heap.size w w' := by
 obtain⟨a0,a1,a2,a3,a4,c0,c1,c2,c3,c4⟩:=A;have DT:Hid (∀ V:World,Calls Tryz.prog 9 #[] V fun e w' => e=.returned (.bool true)/\Below V.heap.size V w'):=fun V=>zjW hN hR V;by_cases I:zcp W k s=0
 ·obtain⟨H,q,rfl,hq,hg,hm,ht,a6⟩:=zbW I;have HZ:=zho I;obtain⟨D,_,a7,E⟩:=HZ;show Calls Tryz.prog _ #[.agg #[.slice a0 W.fs.length c0,.slice a1 W.rs.length c1,.slice a2 W.ps.length c2,.slice a3 W.qs.length c3,.slice a4 W.pt.length c4],_] w _;rw[H.lr,H.lp,H.lq];have a5:=H.fs.few;refine zwI W.fs.length W.pt.length (zbz W q s).pt.length W (zbz W q s) q s a0 a1 a2 a3 a4 c0 c1 c2 c3 c4 w DT hq a5 hW (fun V hV=>(zAL hT (fun _=>False) I rfl rfl rfl rfl (fun _ h=>h.elim) hC (zvq hW hV (fun _ h=>h.elim))).mono fun e w' ⟨f0,f1,f2,f3,f4,O,g1,g2,g3,T,J,M,x3,x4⟩=>⟨f0,f1,f2,f3,f4,O,g1,g2,g3,T,J,M,x3,x4.at⟩) (fun f0 f1 f2 f3 f4 O g1 g2 g3 T V h1 U=>checkN hK D E rfl h1 U) ⟨rfl,H.lr,H.lp,H.lq⟩ ⟨E,D.lr.trans E,D.lp.trans E,D.lq.trans E⟩ (rlm W q).t.length (prg W q).length (by omega) (H.ps q hq) ⟨rfl,rfl,a7⟩ (fun j F m hm=>?_) (fun j F=>?_) a6 (fun j F=>H.ps j F) (fun j A B V F h1 U Z=>?_) (fun j F=>?_)
  ·obtain⟨_,Z⟩:=zbr.1 (D.qs j (by omega));have:=(Z _ (List.getElem_mem hm)).2;have hb:=zcG this;rw[zhR hm];exact⟨by omega,hb.2⟩
  ·exact(zbr.1 (D.qs j (by omega))).1
  ·exact(hQ A B _ _ V (zcU (D.rs j (by omega))) h1 U).mono fun e w' ⟨r,he,hb,hr⟩=>⟨by rw[he,hr.2 Z],hb⟩
  ·obtain⟨k1,k2,k3⟩:=ztP I F;refine⟨k1,fun h=>?_,k3⟩;obtain⟨J,M,x3,x4⟩:=k2 h;exact⟨J,M,by show (prg _ j).length=0;rw[x3];rfl,by show (rlm _ j).t.length=0;rw[x4];rfl⟩
 ·exact ztQ _ _ _ _ _ _ _ k s a0 a1 a2 a3 a4 c0 c1 c2 c3 c4 w I DT (fun V hV=>(zpr hT (fun _=>False) hB rfl rfl (fun _ h=>h.elim) hC (zvq hW hV (fun _ h=>h.elim))).mono fun e w' ⟨f0,f1,f2,f3,f4,O,g1,g2,g3,T,J,M,_⟩=>⟨f0,f1,f2,f3,f4,O,g1,g2,g3,T,J,M⟩)
end Go.Proofs.YtcbcpomacdngmaaGreat
