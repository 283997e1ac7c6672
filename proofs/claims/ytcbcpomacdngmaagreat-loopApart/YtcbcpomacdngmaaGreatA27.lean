/-
  x
-/
import Derived.Test.YtcbcpomacdngmaaGreatA26
namespace Go.Proofs.YtcbcpomacdngmaaGreat
set_option maxRecDepth 100000
set_option maxHeartbeats 4000000
set_option linter.unusedVariables false
open Go.RowKit Tryz
theorem Qn(hK:Hid zB)(hT:Hid zC)(H7:Hid MM)(W:Wl)(S:List Rl)(P:List (List Ac))(L:List (Int × Bool))(n n4 sn pn ln:Nat)(O:Int)(a0 a1 a2 a3 a4 sa qa la:OA)(c0 c1 c2 c3 c4 sc qc lc:Nat)(w:Wd)(DT:Hid (∀ V:World,yO 9 #[] V fun e w' => e=.returned (.bool true)/\Below V.heap.size V w'))
  (B6:n<=8) (HR:Hid (aI W)) (hn:Hid (W.fs.length=n)) (p5:Hid (W.pt.length=n4)) (hW:Hid (gP w ⟨a0,a1,a2,a3,a4,c0,c1,c2,c3,c4⟩ W)) (hC:Hid (WlC ⟨a0,a1,a2,a3,a4,c0,c1,c2,c3,c4⟩ W)) (j8:Hid (S.length=sn)) (hS:Hid (kR w sa S/\∀ i,i<S.length->iG (rl S i))) (B9:Hid (P.length=pn)) (hP:Hid (lQ w qa P/\∀ i,i<P.length->(pg P i).length<=9223372036854775807)) (I4:Hid (L.length=ln)) (hL:Hid (SlA la ln lc/\mO w la L)) :
  yO 8 #[.agg #[.slice a0 n c0,.slice a1 n c1,.slice a2 n c2,.slice a3 n c3,.slice a4 n4 c4],.slice sa sn sc,.slice qa pn qc,.int .i64 O,.slice la ln lc] w fun e w' => e=.returned (.bool true)/\Below w.heap.size w w' := by
 have DK:Hid (∀ V,Bl w V->Calls _ _ _ _ _):=fun V hV=>checkN hK.out HR.out hn.out p5.out hC.out (hW.below hV);have w0:Hid (∀ V,Bl w V->Calls _ _ _ _ _):=fun V hV=>Qb (HR.lr.trans hn) B6 (by have h:=hC.s1;rw[HR.lr,hn.out] at h;exact h) hW.rs hV;have v9:Hid (∀ V,Bl w V->Calls _ _ _ _ _):=fun V hV=>Qc (HR.lp.trans hn) B6 (by have h:=hC.s2;rw[HR.lp,hn.out] at h;exact h) hW.ps hV
 go_enter func8,ntmps8
 go_wp2_with fail
 refine yj (DT _) ?_;rintro e w1 ⟨rfl,hb⟩;have K1:Hid (w1.heap[w.heap.size]?=some (.cells #[.slice a0 n c0,.slice a1 n c1,.slice a2 n c2,.slice a3 n c3,.slice a4 n4 c4] 28 (0,0))):=aH (aH (yN w _) (aB _ _)) hb;have O1:Hid (w1.heap[w.heap.size+1]?=some (.cells #[.int .i64 O] 3 (0,0))):=aH (show _=_ from by have h:=yN (w.alloc (.cells #[.slice a0 n c0,.slice a1 n c1,.slice a2 n c2,.slice a3 n c3,.slice a4 n4 c4] 28)) (.cells #[.int .i64 O] 3);rw[yw] at h;exact h) hb;have B1:Hid (Bl w w1):=(aM w _ _).trans (hb.mono oab);clear hb;obtain⟨p0,p1,p2,p3,p4,pf,pl⟩:=dS K1.out
 go_wp2_with fail
 refine yj (DK _ B1.out) ?_;rintro e w2 ⟨rfl,hb⟩;have B2:Hid (Bl w w2):=B1.trans (hb.mono B1.size);have K2:Hid (w2.heap[w.heap.size]?=some (.cells #[.slice a0 n c0,.slice a1 n c1,.slice a2 n c2,.slice a3 n c3,.slice a4 n4 c4] 28 (0,0))):=aH K1.out hb;have O2:Hid (w2.heap[w.heap.size+1]?=some (.cells #[.int .i64 O] 3 (0,0))):=aH O1.out hb;clear p0 p1 p2 p3 p4 pf pl hb K1 B1 DT DK O1;obtain⟨p0,p1,p2,p3,p4,pf,pl⟩:=dS K2.out
 go_upto_region 4 with fail
 obtain⟨w3,g8⟩:∃ w3,w2.alloc (.cells #[.slice a0 n c0,.slice a1 n c1,.slice a2 n c2,.slice a3 n c3,.slice a4 n4 c4] 28)=w3:=⟨_,rfl⟩;rw[g8];obtain⟨D,j6⟩:∃ D,w2.heap.size=D:=⟨_,rfl⟩;have B3:Hid (Bl w w3):=by rw[<- g8];exact B2.alloc B2.size _
 have K3:Hid (w3.heap[w.heap.size]?=some (.cells #[.slice a0 n c0,.slice a1 n c1,.slice a2 n c2,.slice a3 n c3,.slice a4 n4 c4] 28 (0,0))):=by rw[<- g8];exact aH K2.out (aB _ _)
 have O3:Hid (w3.heap[w.heap.size+1]?=some (.cells #[.int .i64 O] 3 (0,0))):=by rw[<- g8];exact aH O2.out (aB _ _)
 have V3:Hid (w3.heap[D]?=some (.cells #[.slice a0 n c0,.slice a1 n c1,.slice a2 n c2,.slice a3 n c3,.slice a4 n4 c4] 28 (0,0))):=by rw[<- g8,<- j6];exact yN _ _
 have d6:w.heap.size+1<D:=by rw[<- j6];exact aR O2.out
 rw[j6];clear g8 j6 p0 p1 p2 p3 p4 pf pl B2 K2 O2;obtain⟨p0,p1,p2,p3,p4,pf,pl⟩:=dS K3.out;obtain⟨q0,q1,q2,q3,q4,qf,ql⟩:=dS V3.out;have d1:¬ D=w.heap.size:=oaa
 have d2:¬ w.heap.size=D:=oaa
 go_cut [38] (fun s38 wx=>∃ (ra pa:OA) (rc pc:Nat),Hid (SlA ra n rc/\SlA pa n pc)/\Hid (ExB w W O n n4 D ra pa rc pc a0 a1 a2 a3 a4 c0 c1 c2 c3 c4 W wx))
 case first =>
  go_region_held3 (fun I=>I.cell? ⟨w.heap.size,1,none⟩=some (.slice a1 n c1)/\I.cell? ⟨w.heap.size,2,none⟩=some (.slice a2 n c2)) (go_keep) (first|(go_at_call 24;refine yj (w0 _ B3.drew) ?_;rintro e wR ⟨ra,rc,rfl,D1,j5,C7⟩;have BR:Hid (Bl w3 wR):=(yv w3.heap.size w3).drew.trans (j5.mono oac);have F0:Hid (Bl w wR):=B3.trans (BR.mono B3.size);have SR:Hid _:=D1;have RR:Hid _:=C7;have M0:=aA p1 BR;have M2:=aA p2 BR;clear D1 j5 C7)|(go_at_call 12;refine yj (v9 _ F0.out) ?_;rintro e wP ⟨pa,pc,rfl,D0,z8,C6⟩;have BP:Hid (Bl wR wP):=z8;have e7:Hid (Bl w3 wP):=BR.trans (BP.mono BR.size);have SP:Hid _:=D0;have RP:Hid _:=C6;have M3:=aA p1 e7;have M4:=aA p2 e7;have VP:Hid _:=aH V3 e7;obtain⟨r0,r1,r2,r3,r4,rf,M5⟩:=dS VP.out;clear D0 z8 C6))
  all_goals
   go_wp2_with fail
   go_meet
   case rel =>
    exact⟨ra,pa,rc,pc,⟨SR.out,SP.out⟩,ExB.first (w3:=w3) HR.out hn.out d6 (B3.trans (e7.mono B3.size)) BP.out RR.out RP.out (aH K3 e7) (aH O3 e7) VP.out⟩
 case rest =>
 obtain⟨ra,pa,rc,pc,HS,HX⟩:=hcut;clear d1 d2 p0 p1 p2 p3 p4 pf pl q0 q1 q2 q3 q4 qf ql w0 v9 B3 K3 O3 V3;have d6:Hid (w.heap.size+1<D):=d6;obtain⟨p0,p1,p2,p3,p4,pf,pl⟩:=dS HX.kw
 go_wp2_with fail
 clear p0 p1 p2 p3 p4 pf pl
 go_loopg [44] n (fun g s44 wr=>∃ (i:Nat) (V:Wl),i<=n/\n-i<=g/\s44=.int .i64 i/\Hid (ExB w W O n n4 D ra pa rc pc a0 a1 a2 a3 a4 c0 c1 c2 c3 c4 V wr))
 case atStart=>exact⟨0,W,oaa,oaa,rfl,HX⟩
 case round =>
  obtain⟨i,V,hi,L3,rfl,HE⟩:=hrel;by_cases b6:i<n
  ·have A9:(i:Int)<(n:Int):=oaa;obtain⟨mb,a8⟩:∃ mb,fP W.fs O i=mb:=⟨_,rfl⟩;have c8:Hid (fP W.fs O i=mb):=a8
   have DM:Hid (yO 25 #[.int .i64 (i:Int),.pointer (some ⟨w.heap.size,0,none⟩),.pointer (some ⟨w.heap.size+1,0,none⟩)] wr fun e w' => e=.returned (.bool mb)/\∃ m,w' = wr.drewN m):=by
    have h:=MP i O w.heap.size (w.heap.size+1) n a0 c0 W.fs wr hn.out oaa (dS HE.kw).1 (by simp[World.cell?,HE.ko]) (hW.fs.below HE.ex.bel);rw[a8] at h;exact h
   clear a8
   go_wp2_with fail
   refine yj DM.out ?_;rintro e w4 ⟨rfl,m4,D7⟩;have b8:Hid (ExB w W O n n4 D ra pa rc pc a0 a1 a2 a3 a4 c0 c1 c2 c3 c4 V w4):=(by rw[D7];exact HE.drewN m4);have z9:IntKind.i64.wrap ((i:Int)+1)=(i:Int)+1:=(by rw[yK];omega);clear D7 HE DM
   cases mb with
   | false =>
    as_aux_lemma =>
    go_wp2_with fail
    go_roundg (n-(i+1))
    case measure=>omega
    case rel=>exact⟨i+1,V,oaa,oaa,by go_num,b8⟩
   | true =>
    have HM:Hid (fD W O i):=(FO hn.out b6).1 c8.out
    as_aux_lemma =>
    obtain⟨p0,p1,p2,p3,p4,pf,pl⟩:=dS b8.kw
    go_upto_region 10 with fail
    obtain⟨tb,D2⟩:∃ tb:Bool,tb=decide (i<sn/\(rl S i).s.length=(rl W.rs i).s.length):=⟨_,rfl⟩;have b5:Hid (tb=true↔i<sn/\(rl S i).s.length=(rl W.rs i).s.length):=(show _↔_ from by rw[D2];exact decide_eq_true_iff);clear D2;obtain⟨vb,vo,B,ev,v0,_,_,_,_⟩:=(hW.rs.below b8.ex.bel) i (by rw[HR.lr,hn.out];exact b6);dsimp only at ev
    go_cut [44,72] from 44 to 93 (fun s44 s72 wx=>s44=.int .i64 i/\s72=.bool tb/\Hid (ExB w W O n n4 D ra pa rc pc a0 a1 a2 a3 a4 c0 c1 c2 c3 c4 V wx))
    case first =>
     as_aux_lemma =>
      subst ev;generalize (rl W.rs i).s.length=l2 at v0 b5;by_cases hs:i<sn
      ·have g1:decide ((i:Int)<(sn:Int))=true:=yI oaa;have g2:(i:Int)<(sn:Int):=oaa;obtain⟨sb,so,A,es,s0,_,_,_,_⟩:=(hS.out.1.below b8.ex.bel) i (by rw[j8.out];exact hs);subst es;generalize (rl S i).s.length=l1 at s0 b5;by_cases hl:l1=l2
       ·obtain rfl:tb=true:=b5.out.2 ⟨hs,hl⟩;clear b5;subst hl
        go_big_quiet (fail)
        go_wp2_with fail
        go_meet
        case rel=>exact⟨rfl,rfl,b8.drewN _⟩
       ·obtain rfl:tb=false:=(by cases tb with|false=>rfl|true=>exact absurd (b5.out.1 rfl).2 hl);have g3:¬ ((l1:Int)=(l2:Int)):=oaa;have g4:decide ((l1:Int)=(l2:Int))=false:=yH g3;have g5:((l1:Int) ==(l2:Int))=false:=(by simpa using g3);have g6:(l1 == l2)=false:=(by simpa using hl);have g7:decide (l1=l2)=false:=yH hl;clear b5
        go_big_quiet (fail)
        go_wp2_with fail
        go_meet
        case rel=>exact⟨rfl,rfl,b8.drewN _⟩
      ·obtain rfl:tb=false:=(by cases tb with|false=>rfl|true=>exact absurd (b5.out.1 rfl).1 hs);have g1:decide ((i:Int)<(sn:Int))=false:=yH oaa;have g2:¬ ((i:Int)<(sn:Int)):=oaa;have g3:decide (i<sn)=false:=yH hs;clear b5
       go_big_quiet (fail)
       go_wp2_with fail
       go_meet
       case rel=>exact⟨rfl,rfl,b8.drewN _⟩
    case rest =>
    obtain⟨rfl,rfl,a7⟩:=hcut;obtain⟨w5,I8⟩:∃ w5,w5=wc:=⟨_,rfl⟩;subst I8;clear p0 p1 p2 p3 p4 pf pl v0 ev b8;obtain⟨q0,q1,q2,q3,q4,qf,ql⟩:=dS a7.kv
    go_upto_if 72 with fail
    go_cut [44] from 44 to 93 (fun s44 wx=>s44=.int .i64 i/\∃ V', Hid (ExB w W O n n4 D ra pa rc pc a0 a1 a2 a3 a4 c0 c1 c2 c3 c4 V' wx))
    case first =>
     as_aux_lemma =>
      cases tb with
      | false =>
       go_wp2_with fail
       go_meet
       case rel=>exact⟨rfl,V,a7⟩
      | true =>
       obtain⟨hs,hl⟩:=b5.out.1 rfl;obtain⟨sb,so,A,es,s0,s1,s2,s3,hr⟩:=hS.out.1 i (by rw[j8.out];exact hs);have G7:Hid (aU w A (rl S i)):=hr;have HL:Hid ((rl S i).s.length=(rl W.rs i).s.length):=hl;have F7:Hid (iG (rl S i)):=hS.out.2 i (by rw[j8.out];exact hs);obtain⟨g,x0,x1,x2,x3,eg,H8,H9,y0,y1,y2,y3,yf⟩:=a7.ex.rr.cell b6;have l6:Hid (ra=some ⟨g,0,none⟩):=eg;rw[eg] at q1;subst es;replace s0:=aA s0 a7.ex.bel;replace s1:=aA s1 a7.ex.bel;replace s2:=aA s2 a7.ex.bel;replace s3:=aA s3 a7.ex.bel
       have I7:sb<w.heap.size:=by
        obtain⟨_,_,_,e,c,_⟩:=hS.out.1 i (by rw[j8.out];exact hs);cases e;exact yi _ _ c
       have g1:(i:Int)<(sn:Int):=oaa;have d1:¬ g=sb:=oaa;have d2:¬ sb=g:=oaa
       have d3:¬ g=D:=fun e=>(by
        subst e;have:=a7.kv;obtain⟨g', H4,e', _,hh,_⟩:=a7.ex.rr i b6;rw[eg] at e'
        cases e'
        rw[hh] at this
        cases this)
       have d4:¬ D=g:=fun e=>d3 e.symm;clear hl hr b5 eg;generalize d5:(rl S i).s.length=l0 at s0;generalize A6:(rl S i).hs.length=l1 at s1;generalize A7:(rl S i).i.length=l2 at s2;generalize A8:(rl S i).t.length=l3 at s3;have l7:Hid _:=d5;have F8:Hid _:=A6;have F9:Hid _:=A7;have G4:Hid _:=A8;clear d5 A6 A7 A8
       go_upto_region 11 with fail
       go_region_held3 (fun I=>I.cell? ⟨D,1,none⟩=some (.slice (some ⟨g,0,none⟩) n rc)/\I.cell? ⟨sb,so+i*4,none⟩=some (.slice A.a0 l0 A.c0)/\I.cell? ⟨sb,so+i*4+1,none⟩=some (.slice A.a1 l1 A.c1)/\I.cell? ⟨sb,so+i*4+2,none⟩=some (.slice A.a2 l2 A.c2)/\I.cell? ⟨sb,so+i*4+3,none⟩=some (.slice A.a3 l3 A.c3)) (go_keep) (fail)
       go_wp2_with fail
       go_meet
       case rel =>
        exact⟨rfl,{ V with rs:=V.rs.set i (rl S i) },(by have h:=a7.setR b6 HM.out G7.out F7.out HL.out l6.out;unfold vR at h;rw[l7.out,F8.out,F9.out,G4.out] at h;first|exact h|exact h.below (yv _ _).drew)⟩
    case rest =>
    obtain⟨rfl,V', c6⟩:=hcut;obtain⟨w6,I9⟩:∃ w6,w6=wc:=⟨_,rfl⟩;subst I9;clear q0 q1 q2 q3 q4 qf ql a7;by_cases hp:i<pn
    ·have g1:(i:Int)<(pn:Int):=oaa
     as_aux_lemma =>
     obtain⟨pb,po,ya,yc,ep,t0,ht⟩:=hP.out.1 i (by rw[B9.out];exact hp);have F4:Hid (dY w ya (pg P i)):=ht;have F6:Hid ((pg P i).length<=9223372036854775807):=hP.out.2 i (by rw[B9.out];exact hp);obtain⟨q0,q1,q2,q3,q4,qf,ql⟩:=dS c6.kv;obtain⟨g,x0,eg,H8,H9,y0,yf⟩:=c6.ex.rp.cell b6;have l6:Hid (pa=some ⟨g,0,none⟩):=eg;rw[eg] at q2;have I7:pb<w.heap.size:=yi _ _ t0;replace t0:=aA t0 c6.ex.bel;have d1:¬ g=pb:=oaa;have d2:¬ pb=g:=oaa
     have d3:¬ g=D:=fun e=>(by
      subst e;have:=c6.kv;obtain⟨g', H4,e', _,hh,_⟩:=c6.ex.rp i b6;rw[eg] at e'
      cases e'
      rw[hh] at this
      cases this)
     have d4:¬ D=g:=fun e=>d3 e.symm;subst ep;clear ht eg;generalize d5:(pg P i).length=l0 at t0;have l7:Hid _:=d5;clear d5
     go_upto_region 13 with fail
     go_region_held3 (fun I=>I.cell? ⟨D,2,none⟩=some (.slice (some ⟨g,0,none⟩) n pc)/\I.cell? ⟨pb,po+i,none⟩=some (.slice ya l0 yc)) (go_keep) (fail)
     go_wp2_with fail
     go_roundg (n-(i+1))
     case measure=>omega
     case rel=>exact⟨i+1,{ V' with ps:=V'.ps.set i (pg P i) },oaa,oaa,by go_num,(by have h:=c6.setP (qc:=yc) b6 HM.out F4.out F6.out l6.out;rw[l7.out] at h;first|exact h|exact h.below (yv _ _).drew)⟩
    ·have g1:¬ ((i:Int)<(pn:Int)):=oaa
     as_aux_lemma =>
     go_wp2_with fail
     go_roundg (n-(i+1))
     case measure=>omega
     case rel=>exact⟨i+1,V', by omega,oaa,by go_num,c6⟩
  ·have a6:n=i:=oaa;subst a6
   as_aux_lemma =>
   have hz:¬ ((n:Int)<(n:Int)):=oaa;obtain⟨q0,q1,q2,q3,q4,qf,ql⟩:=dS HE.kv;obtain⟨E,hE⟩:∃ E,fZ V=E:=⟨_,rfl⟩;have y5:Hid (fZ V=E):=hE;have LV:Hid (V.fs.length=n/\V.qs.length=n/\V.pt.length=n4):=⟨by rw[HE.ex.fs];exact hn.out,by rw[HE.ex.qs,HR.lq];exact hn.out,by rw[HE.ex.pt];exact p5.out⟩;have CV:Hid (WlC ⟨a0,ra,pa,a3,a4,c0,rc,pc,c3,c4⟩ V):=⟨by rw[HE.ex.fs];exact hC.s0,by rw[HE.ex.lr];exact HS.out.1,by rw[HE.ex.lp];exact HS.out.2,by rw[HE.ex.qs];exact hC.s3,by rw[HE.ex.pt];exact hC.s4⟩;have WV:Hid (cO (fun c=>c=w.heap.size\/c=D) wr ⟨a0,ra,pa,a3,a4,c0,rc,pc,c3,c4⟩ V):=HE.ex.st (fun b hb=>by rcases hb with rfl|rfl;exact⟨yr _,_,_,HE.kw,oae,oae⟩;exact⟨by have:=d6.out;omega,_,_,HE.kv,oae,oae⟩) hW.out rc pc
   have DV:Hid (yO 10 #[.agg #[.slice a0 n c0,.slice ra n rc,.slice pa n pc,.slice a3 n c3,.slice a4 n4 c4]] wr fun e w' => e=.returned (.int .i64 E)/\Below wr.heap.size wr w'):=by
    have h:=MK hK.out (HE.ex.bigW oaa (qQ HR.out)) hE CV.out WV.at;rw[LV.out.1,HE.ex.lr,HE.ex.lp,LV.out.2.1,LV.out.2.2] at h;exact h
   clear hE
   go_wp2_with fail
   refine yj DV.out ?_;rintro e w7 ⟨rfl,hb⟩;have B7:Hid (Bl wr w7):=hb;clear hb DV q0 q1 q2 q3 q4 qf ql;by_cases hE:E=0
   ·subst hE
    as_aux_lemma =>
    have H2:Hid (aI V):=pI.1 y5.out;have c7:Hid (ExB w W O n n4 D ra pa rc pc a0 a1 a2 a3 a4 c0 c1 c2 c3 c4 V w7):=HE.below B7;have z5:Hid (cO (fun c=>c=w.heap.size\/c=D) w7 ⟨a0,ra,pa,a3,a4,c0,rc,pc,c3,c4⟩ V):=WV.off (aC.of_below B7.out);clear HE WV B7 y5
    go_upto_region 17 with fail
    go_cut [101,102,103] (fun s101 s102 s103 wx=>∃ m m', s101=.slice la m m' /\ s102=.int .i64 (m:Int)/\s103=.int .i64 0/\m<=ln/\m<=40/\wx=w7)
    case first =>
     as_aux_lemma =>
      by_cases hm:ln<=40
      ·obtain⟨c', r1,_⟩:=Oj la ln ln lc (yr _) hL.out.1;have g1:(ln:Int)<=40:=oaa;have g2:min (ln:Int) 40=ln:=oaa;have g3:¬ ((40:Int)<(ln:Int)):=oaa
       go_wp2_with fail
       go_meet
       case rel=>exact⟨ln,c', rfl,rfl,rfl,yr _,hm,rfl⟩
      ·have g4:(40:Int)<=(lc:Int):=(by have:=hL.out.1.2.1;omega);have g5:40<=lc:=oaa;have g1:¬ ((ln:Int)<=40):=oaa;have g2:min (ln:Int) 40=40:=oaa;have g3:(40:Int)<(ln:Int):=oaa
       go_wp2_with fail
       go_meet
       case rel=>exact⟨40,lc,rfl,rfl,rfl,oaa,yr _,rfl⟩
    case rest =>
    obtain⟨m,m', rfl,rfl,rfl,L6,L7,i6⟩:=hcut;have i7:=i6.symm;clear i6;subst i7
    as_aux_lemma =>
    have A0:Hid (ApI w O n D ⟨a0,a1,a2,a3,a4,c0,c1,c2,c3,c4⟩ ⟨a0,ra,pa,a3,a4,c0,rc,pc,c3,c4⟩ W V w7):=⟨c7.ex.bel,d6.out,c7.ko,⟨by have h:=c7.kw;rw[<- p5.out] at h;exact h,Ol hW.out c7.ex.bel (fun b hb=>by rcases hb with rfl|rfl;exact yr _;have:=d6.out;omega),hC.out,HR.out,hn.out⟩,⟨by have h:=c7.kv;rw[<- LV.out.2.2] at h;exact h,z5.out,CV.out,H2.out,LV.out.1⟩,c7.ex.base hn.out HR.out H2.out⟩;clear c7 z5 CV LV H2 d6 hz
    go_wp2_with fail
    go_loopg [103] m (fun g s103 wr=>∃ (j:Nat) (A B:WA) (Y Z:Wl),j<=m/\m-j<=g/\s103=.int .i64 j/\Hid (ApI w O n D A B Y Z wr))
    case atStart=>exact⟨0,_,_,W,V,oaa,oaa,rfl,A0⟩
    case round =>
     obtain⟨j,⟨f0,f1,f2,f3,f4,g0,g1,g2,g3,g4⟩,⟨r0,r1,r2,r3,r4,t0,t1,t2,t3,t4⟩,Y,Z,hj,L4,rfl,HA⟩:=hrel;by_cases b6:j<m
     ·have A9:(j:Int)<(m:Int):=oaa
      as_aux_lemma =>
      obtain⟨lb,lo,el,k0,k1⟩:=(hL.out.2.below HA.bel) j (by rw[I4.out];omega);subst el;generalize (pk L j).1=K at k0;generalize (pk L j).2=s at k1;obtain⟨y4,p8⟩:∃ y4,Y.pt.length=y4:=⟨_,rfl⟩;obtain⟨z4,p9⟩:∃ z4,Z.pt.length=z4:=⟨_,rfl⟩;obtain⟨Y1,o5⟩:∃ Y1,cB Y K s=Y1:=⟨_,rfl⟩;obtain⟨Z1,o6⟩:∃ Z1,cB Z K s=Z1:=⟨_,rfl⟩;obtain⟨E,hE⟩:∃ E,bT Y K s=E:=⟨_,rfl⟩;obtain⟨F,hF⟩:∃ F,bT Z K s=F:=⟨_,rfl⟩;have x6:Hid (∀ V,Bl wr V->Calls _ _ _ _ _):=fun V hV=>HA.w1.step hT.out HA.lt K s hE o5 p8 hV;have x7:Hid (∀ V,Bl wr V->Calls _ _ _ _ _):=fun V hV=>HA.w2.step hT.out HA.lt K s hF o6 p9 hV;obtain⟨p0,p1,p2,p3,p4,pf,pl⟩:=dS HA.w1.box;obtain⟨q0,q1,q2,q3,q4,qf,ql⟩:=dS HA.w2.box;dsimp only at p0 p1 p2 p3 p4 q0 q1 q2 q3 q4;rw[p8] at p4;rw[p9] at q4;have y8:Hid _:=o5;have y9:Hid _:=o6;have j1:Hid _:=hE;have j2:Hid _:=hF;have I3:=HA.ko;have d5:lb<wr.heap.size:=yi _ _ k0;clear o5 o6 hE hF p8 p9 I3
      go_wp2_with fail
      refine yj (x6 _ (aB _ _)) ?_;rintro e w8 ⟨b0,b1,b2,b3,b4,d0,d1,d2,d3,d4,rfl,hb,i3,i5⟩;have B8:Hid (Bl wr w8):=(aB wr _).trans (hb.mono oac);have h9:Hid (w8.heap[wr.heap.size]?=some (.cells #[.int .i64 K,.bool s] 40 (0,0))):=aH (yN wr _) hb;have C1:Hid (WlC ⟨b0,b1,b2,b3,b4,d0,d1,d2,d3,d4⟩ Y1):=i3;have S1:Hid (cO (Two w D) w8 ⟨b0,b1,b2,b3,b4,d0,d1,d2,d3,d4⟩ Y1):=i5;clear hb i3 i5 p0 p1 p2 p3 p4 pf k0 k1 d5 x6;replace q0:=aA q0 B8;replace q1:=aA q1 B8;replace q2:=aA q2 B8;replace q3:=aA q3 B8;replace q4:=aA q4 B8;have I5:wr.heap.size<w8.heap.size:=aR h9.out;have L0:D<w8.heap.size:=Nat.lt_trans ql I5;obtain⟨k0,k1⟩:w8.cell? ⟨wr.heap.size,0,none⟩=some (.int .i64 K)/\w8.cell? ⟨wr.heap.size,1,none⟩=some (.bool s):=⟨by simp[World.cell?,h9.out],by simp[World.cell?,h9.out]⟩
      go_wp2_with fail
      refine yj (x7 _ (B8.alloc B8.size _)) ?_;rintro e w9 ⟨x0,x1,x2,x3,x4,v0,v1,v2,v3,v4,rfl,hb,i3,i5⟩;have k8:Hid (Bl w8 w9):=(aB w8 _).trans (hb.mono oac);have o0:Hid (w9.heap[w8.heap.size]?=some (.cells #[.slice b0 Y1.fs.length d0,.slice b1 Y1.rs.length d1,.slice b2 Y1.ps.length d2,.slice b3 Y1.qs.length d3,.slice b4 Y1.pt.length d4] 28 (0,0))):=aH (yN w8 _) hb;have C2:Hid (WlC ⟨x0,x1,x2,x3,x4,v0,v1,v2,v3,v4⟩ Z1):=i3;have S2:Hid (cO (Two w D) w9 ⟨x0,x1,x2,x3,x4,v0,v1,v2,v3,v4⟩ Z1):=i5;clear hb i3 i5 q0 q1 q2 q3 q4 qf k0 k1 x7
      go_upto_if 120 with fail
      obtain⟨U,d9⟩:∃ U,w9.alloc (.cells #[.slice x0 Z1.fs.length v0,.slice x1 Z1.rs.length v1,.slice x2 Z1.ps.length v2,.slice x3 Z1.qs.length v3,.slice x4 Z1.pt.length v4] 28)=U:=⟨_,rfl⟩;rw[d9];have d8:Hid (Bl w9 U):=(by rw[<- d9];exact aB _ _);have YB:Hid (U.heap[w9.heap.size]?=some (.cells #[.slice x0 Z1.fs.length v0,.slice x1 Z1.rs.length v1,.slice x2 Z1.ps.length v2,.slice x3 Z1.qs.length v3,.slice x4 Z1.pt.length v4] 28 (0,0))):=(by rw[<- d9];exact yN _ _);have i9:Hid (Bl w8 U):=k8.trans (d8.mono k8.size);have h7:Hid (Bl wr U):=B8.trans (i9.mono B8.size);have k6:Hid (Bl w U):=HA.bel.trans (h7.mono HA.bel.size);have PB:Hid (U.heap[wr.heap.size]?=some (.cells #[.int .i64 K,.bool s] 40 (0,0))):=aH h9 i9;have XB:Hid (U.heap[w8.heap.size]?=some (.cells #[.slice b0 Y1.fs.length d0,.slice b1 Y1.rs.length d1,.slice b2 Y1.ps.length d2,.slice b3 Y1.qs.length d3,.slice b4 Y1.pt.length d4] 28 (0,0))):=aH o0 d8;have z1:Hid (cO (Two w D) U ⟨b0,b1,b2,b3,b4,d0,d1,d2,d3,d4⟩ Y1):=S1.off (aC.of_below i9.out);have z2:Hid (cO (Two w D) U ⟨x0,x1,x2,x3,x4,v0,v1,v2,v3,v4⟩ Z1):=S2.off (aC.of_below d8.out);have e9:Hid (dO (Two w D) w.heap.size n ⟨f0,f1,f2,f3,f4,g0,g1,g2,g3,g4⟩ Y U):=HA.w1.below h7;have z3:Hid (dO (Two w D) D n ⟨r0,r1,r2,r3,r4,t0,t1,t2,t3,t4⟩ Z U):=HA.w2.below h7
      have KO:Hid (U.heap[w.heap.size+1]?=some (.cells #[.int .i64 O] 3 (0,0))):=aH HA.ko h7.out;have L2:wr.heap.size<U.heap.size:=aR PB.out;have I6:w8.heap.size<w9.heap.size:=aR o0.out;have C4:w9.heap.size<U.heap.size:=aR YB.out;have x9:Hid (Base O Y Z):=HA.base;have L1:=HA.hb;clear d9 B8 k8 d8 h9 o0 S1 S2 i9 h7 HA;obtain⟨M,z6⟩:∃ M,aT Y (K,s)=M:=⟨_,rfl⟩;obtain⟨Z2,z7⟩:∃ Z2,aT Z (K,s)=Z2:=⟨_,rfl⟩;have e8:Hid _:=z6;have h8:Hid _:=z7;clear z6 z7;have H5:¬ w.heap.size=D:=oaa;have H6:¬ D=w.heap.size:=oaa;have e1:¬ w8.heap.size=w.heap.size:=oaa;have e2:¬ w.heap.size=w8.heap.size:=oaa;have e3:¬ w9.heap.size=w.heap.size:=oaa;have e4:¬ w.heap.size=w9.heap.size:=oaa;have e5:¬ w9.heap.size=D:=oaa;have e6:¬ D=w9.heap.size:=oaa
      go_cut [103] from 103 to 227 (fun s103 wx=>s103=.int .i64 j/\∃ A', Hid (dO (Two w D) w.heap.size n A' M wx)/\Hid (aC (fun c=>c=w.heap.size) U wx)/\Hid (Bl w wx))
      case first =>
       as_aux_lemma =>
        by_cases hE:E=0
        ·subst hE;obtain⟨p0,p1,p2,p3,p4,pf,r6⟩:=dS e9.box;obtain⟨q0,q1,q2,q3,q4,qf,r7⟩:=dS XB.out;obtain⟨o1,o2⟩:=WO (b:=w.heap.size) (.slice b0 Y1.fs.length d0) (.slice b1 Y1.rs.length d1) (.slice b2 Y1.ps.length d2) (.slice b3 Y1.qs.length d3) (.slice b4 Y1.pt.length d4) e9.box;have HO:Hid _:=o1;have HN:Hid _:=(show dO (Two w D) w.heap.size n ⟨b0,b1,b2,b3,b4,d0,d1,d2,d3,d4⟩ (aT Y (K,s)) _ from e9.set j1.out y8.out C1.out z1.out (Or.inl rfl) o1 o2);have HB:Hid _:=WP k6.out (yr w.heap.size) (.slice b0 Y1.fs.length d0) (.slice b1 Y1.rs.length d1) (.slice b2 Y1.ps.length d2) (.slice b3 Y1.qs.length d3) (.slice b4 Y1.pt.length d4);rw[e8.out] at HN;clear o1 o2
         go_wp2_with fail
         go_meet
         case rel=>exact⟨rfl,_,HN,HO,HB⟩
        ·have D9:(E == 0)=false:=(by simp[hE]);have E4:(E != 0)=true:=(by simp[hE]);have HN:Hid (dO (Two w D) w.heap.size n ⟨f0,f1,f2,f3,f4,g0,g1,g2,g3,g4⟩ (aT Y (K,s)) U):=e9.stay (by rw[j1.out];exact hE);rw[e8.out] at HN
         go_wp2_with fail
         go_meet
         case rel=>exact⟨rfl,_,HN,aC.refl _ _,k6⟩
      case rest =>
      obtain⟨rfl,A', N1,O1,k7⟩:=hcut;obtain⟨g9,D3⟩:∃ g9,g9=wc:=⟨_,rfl⟩;subst D3
      as_aux_lemma =>
      go_upto_if 123 with fail
      go_cut [103] from 103 to 227 (fun s103 wx=>s103=.int .i64 j/\∃ B', Hid (dO (Two w D) D n B' Z2 wx)/\Hid (aC (fun c=>c=D) g9 wx)/\Hid (Bl w wx))
      case first =>
       as_aux_lemma =>
        have j4:Hid (dO (Two w D) D n ⟨r0,r1,r2,r3,r4,t0,t1,t2,t3,t4⟩ Z g9):=z3.off O1 (fun c hc=>Or.inl hc) (fun h=>H6 h);have H3:Hid _:=(O1.block _ (aR YB.out) (by show ¬ w9.heap.size=w.heap.size;omega)).trans YB;have G9:Hid (cO (Two w D) g9 ⟨x0,x1,x2,x3,x4,v0,v1,v2,v3,v4⟩ Z1):=z2.off (O1.mono (fun c hc=>Or.inl hc));by_cases hF:F=0
        ·subst hF;obtain⟨p0,p1,p2,p3,p4,pf,r6⟩:=dS j4.box;obtain⟨q0,q1,q2,q3,q4,qf,r7⟩:=dS H3.out;obtain⟨o1,o2⟩:=WO (b:=D) (.slice x0 Z1.fs.length v0) (.slice x1 Z1.rs.length v1) (.slice x2 Z1.ps.length v2) (.slice x3 Z1.qs.length v3) (.slice x4 Z1.pt.length v4) j4.box;have HO:Hid _:=o1;have HN:Hid _:=(show dO (Two w D) D n ⟨x0,x1,x2,x3,x4,v0,v1,v2,v3,v4⟩ (aT Z (K,s)) _ from j4.set j2.out y9.out C2.out G9.out (Or.inr rfl) o1 o2);have HB:Hid _:=WP k7.out (show w.heap.size<=D by omega) (.slice x0 Z1.fs.length v0) (.slice x1 Z1.rs.length v1) (.slice x2 Z1.ps.length v2) (.slice x3 Z1.qs.length v3) (.slice x4 Z1.pt.length v4);rw[h8.out] at HN;clear o1 o2
         go_wp2_with fail
         go_meet
         case rel=>exact⟨rfl,_,HN,HO,HB⟩
        ·have D9:(F == 0)=false:=(by simp[hF]);have E4:(F != 0)=true:=(by simp[hF]);have HN:Hid (dO (Two w D) D n ⟨r0,r1,r2,r3,r4,t0,t1,t2,t3,t4⟩ (aT Z (K,s)) g9):=j4.stay (by rw[j2.out];exact hF);rw[h8.out] at HN
         go_wp2_with fail
         go_meet
         case rel=>exact⟨rfl,_,HN,aC.refl _ _,k7⟩
      case rest =>
      obtain⟨rfl,B', N2,O2,a9⟩:=hcut;obtain⟨J,D4⟩:∃ J,J=wc:=⟨_,rfl⟩;subst D4
      as_aux_lemma =>
      have M1:Hid (dO (Two w D) w.heap.size n A' M J):=N1.off O2 (fun c hc=>Or.inr hc) (fun h=>H5 h);have G8:Hid (J.heap[wr.heap.size]?=some (.cells #[.int .i64 K,.bool s] 40 (0,0))):=(O2.block _ (yC (aR PB.out) O1.size) (by show ¬ wr.heap.size=D;omega)).trans ((O1.block _ (aR PB.out) (by show ¬ wr.heap.size=w.heap.size;omega)).trans PB);have c9:Hid (J.heap[w.heap.size+1]?=some (.cells #[.int .i64 O] 3 (0,0))):=(O2.block _ (yC (aR KO.out) O1.size) (by show ¬ w.heap.size+1=D;omega)).trans ((O1.block _ (aR KO.out) (by show ¬ w.heap.size+1=w.heap.size;omega)).trans KO)
      have l9:Hid (∀ wx,Bl J wx->Seen O M Z2->ApI w O n D A' B' M Z2 wx/\((¬ ∃ k:Nat,K=k/\k<n/\fD M O k)->E=F)):=fun wx j7 o4=>by
       obtain⟨h1,h2⟩:=Pw x9.out (K,s) (by rw[e8.out,h8.out];exact o4);rw[e8.out,h8.out] at h1;rw[e8.out] at h2;refine⟨⟨a9.trans (j7.mono a9.size),oaa,aH c9.out j7,M1.below j7,N2.below j7,h1⟩,fun p7=>?_⟩;have h3:=h2 (fun⟨k,e,hk,hm⟩=>p7 ⟨k,e,by rw[<- e9.ln];exact hk,hm⟩);rw[<- j1.out,<- j2.out];exact h3.symm
      clear x9 e9 z3 z1 z2 XB YB KO PB N1 O1 O2 k7 C1 C2 y8 y9 e8 h8 j1 j2 k6 e1 e2 e3 e4 e5 e6 I6 C4;obtain⟨j9,J1,J2,J3,q5,k2,E6,J4,E7,q6⟩:=A';obtain⟨q7,J5,J6,J7,q8,q9,E8,J8,E9,r5⟩:=B';have o7:=M1.box;have i4:=N2.box;dsimp only at o7 i4;obtain⟨p0,p1,p2,p3,p4,pf,r6⟩:=dS o7;obtain⟨q0,q1,q2,q3,q4,qf,r7⟩:=dS i4;clear o7 i4
      have x5:Hid (yO 26 #[.slice j9 n k2,.slice q7 n q9] J fun e w' => ∃ r:Bool,e=.returned (.bool r)/\Below J.heap.size J w' /\(r=true↔M.fs=Z2.fs)):=by
       have h:=Qh j9 q7 k2 q9 M.fs Z2.fs J (by rw[M1.ln];omega) M1.st.at.fs N2.st.at.fs;rw[M1.ln,N2.ln] at h;exact h
      go_wp2_with fail
      refine yj x5.out ?_;rintro e d7 ⟨r,rfl,hb,hr⟩;have a5:Hid (Bl J d7):=hb;have j3:Hid (r=true↔M.fs=Z2.fs):=hr;clear hb hr x5
      cases r with
      | false =>
       clear j3
       as_aux_lemma =>
       go_wp2
       go_ret;exact⟨rfl,a9.trans (a5.mono a9.size)⟩
      | true =>
      replace p0:=aA p0 a5
      as_aux_lemma =>
      replace p3:=aA p3 a5;replace p1:=aA p1 a5;replace p4:=aA p4 a5;replace q1:=aA q1 a5;replace q3:=aA q3 a5;replace q4:=aA q4 a5;clear p2 pf r6 q0 q2 qf r7
      have v8:Hid (yO 27 #[.slice q5 M.pt.length q6,.slice q8 Z2.pt.length r5,.func (.func 25) #[] #[.pointer (some ⟨w.heap.size,0,none⟩),.pointer (some ⟨w.heap.size+1,0,none⟩)]] d7 fun e w' => ∃ r:Bool,e=.returned (.bool r)/\Below d7.heap.size d7 w' /\(r=true↔M.pt.length=Z2.pt.length/\∀ i,i<M.pt.length->lS (fP M.fs O (pt M.pt i).o) (pt M.pt i) (pt Z2.pt i))):=by
       obtain⟨r1,r2,r3⟩:=Qg M1.rt;exact Pb M.fs O w.heap.size (w.heap.size+1) n j9 k2 q5 q8 q6 r5 M.pt Z2.pt d7 M1.ln oaa r1 r2 r3 p0 (aA (show J.cell? ⟨w.heap.size+1,0,none⟩=some (.int .i64 O) by simp[World.cell?,c9.out]) a5.out) (M1.st.at.fs.below a5) (M1.st.at.pt.below a5) (N2.st.at.pt.below a5)
      go_wp2_with fail
      refine yj v8.out ?_;rintro e k3 ⟨r,rfl,hb,hr⟩;have e0:Hid (Bl d7 k3):=hb;have h6:Hid (Bl J k3):=a5.trans (hb.mono a5.size);have j0:Hid _:=hr;clear hb hr v8
      cases r with
      | false =>
       clear j0 j3
       as_aux_lemma =>
       go_wp2
       go_ret;exact⟨rfl,a9.trans (h6.mono a9.size)⟩
      | true =>
      replace p0:=aA p0 e0
      as_aux_lemma =>
      replace p3:=aA p3 e0;replace p1:=aA p1 e0;replace q1:=aA q1 e0;replace q3:=aA q3 e0;clear p4 q4 e0 a5;obtain⟨wq,J0⟩:∃ wq,wq=wr:=⟨_,rfl⟩;subst J0
      go_wp2_with fail
      go_loopg [141] n (fun g s141 r8=>∃ i:Nat,i<=n/\n-i<=g/\s141=.int .i64 i/\Hid (Bl k3 r8)/\Hid (∀ k,k<i->(que Z2 k).length=(que M k).length/\(¬ fD M O k->que Z2 k=que M k)))
      case atStart=>exact⟨0,oaa,oaa,rfl,yv _ _,fun k hk=>absurd hk (yB _)⟩
      case round =>
       obtain⟨i,hi,I0,rfl,BW,HQ⟩:=hrel;by_cases a6:i<n
       ·have A4:(i:Int)<(n:Int):=oaa;have z9:IntKind.i64.wrap ((i:Int)+1)=(i:Int)+1:=(by rw[yK];omega);have T:Hid (Bl J wr):=h6.trans (BW.mono h6.size);obtain⟨yb,yo,ya,yc,ey,k4,_,B4⟩:=(M1.st.at.qs.below T) i (by rw[M1.rt.lq,M1.ln];exact a6);obtain⟨zb,zo,za,zc,ez,k5,_,B5⟩:=(N2.st.at.qs.below T) i (by rw[N2.rt.lq,N2.ln];exact a6);dsimp only at ey ez;replace p3:=aA p3 BW;replace q3:=aA q3 BW;rw[ey] at p3;rw[ez] at q3;have MY:Hid (gX wr ya (que M i)):=B4;have MZ:Hid (gX wr za (que Z2 i)):=B5;have D8:qu M.qs i=que M i:=rfl;have E5:qu Z2.qs i=que Z2 i:=rfl;rw[D8] at k4;rw[E5] at k5;obtain⟨ly,o8⟩:∃ ly,(que M i).length=ly:=⟨_,rfl⟩;obtain⟨lz,o9⟩:∃ lz,(que Z2 i).length=lz:=⟨_,rfl⟩;rw[o8] at k4;rw[o9] at k5;have y6:Hid _:=o8;have y7:Hid _:=o9;obtain⟨mb,a8⟩:∃ mb,fP M.fs O i=mb:=⟨_,rfl⟩;have c8:Hid (fP M.fs O i=mb):=a8;have DM:Hid (∀ m,Calls _ _ _ (wr.drewN m) _):=fun m=>MS M1.out c9.out oaa (T.trans ((dL (yv wr.heap.size wr) m).mono T.size)) a8;clear B4 B5 o8 o9 a8 D8 E5 ey ez;clear p0 p1 q1
        go_upto_region 33 with fail
        by_cases hl:ly=lz
        ·subst hl
         cases mb with
         | true =>
          have G5:Hid (fD M O i):=(FO M1.ln a6).1 c8.out
          as_aux_lemma =>
          go_big_quiet (first|(go_at_call 25;exact Calls.quiet_of (DM _)))
          go_wp2_with fail
          go_roundg (n-(i+1))
          case measure=>omega
          case rel=>exact⟨i+1,oaa,oaa,by go_num,dL BW.out _,fun k hk=>by
           by_cases e:k=i
           ·subst e;exact⟨y7.trans y6.symm,fun h=>absurd G5.out h⟩
           ·exact HQ.out k oaa⟩
         | false =>
          as_aux_lemma =>
          have k9:Hid (∀ V,Bl wr V->Calls _ _ _ _ _):=fun V hV=>MU (V:=V) M1.out c9.out oaa (T.trans (hV.mono T.size)) c8.out
          have F3:Hid (∀ V,Bl wr V->yO 19 #[.slice ya ly yc,.slice za ly zc] V fun e w' => ∃ r:Bool,e=.returned (.bool r)/\Below V.heap.size V w' /\(r=true↔que M i=que Z2 i)):=fun V hV=>by
           obtain⟨_,_,_,⟨_,b3⟩,_⟩:=qQ M1.rt;have h:=Qm ya za yc zc (que M i) (que Z2 i) V (b3 i (by rw[M1.rt.lq,M1.ln];exact a6)).1 (b3 i (by rw[M1.rt.lq,M1.ln];exact a6)).2 (MY.below hV) (MZ.below hV);rw[y6.out,y7.out] at h;exact h
          clear DM MY MZ
          go_region_held3 (fun I=>I.cell? ⟨w.heap.size,3,none⟩=some (.slice (some ⟨yb,yo,none⟩) n E7)/\I.cell? ⟨yb,yo+i,none⟩=some (.slice ya ly yc)/\I.cell? ⟨D,3,none⟩=some (.slice (some ⟨zb,zo,none⟩) n E9)/\I.cell? ⟨zb,zo+i,none⟩=some (.slice za ly zc)) (go_keep) (first|(go_at_call 19;refine yj (F3 _ BM.out) ?_;rintro e wS ⟨r,rfl,i2,C5⟩;have BS:Hid (Bl wr wS):=BM.trans (i2.mono BM.size);have G6:Hid _:=C5;have n1:=aA p3 BS;have n2:=aA k4 BS;have n3:=aA q3 BS;have n4:=aA k5 BS;clear i2 C5)|(go_at_call 25;refine yj (k9 _ (yv _ _).drew) ?_;rintro e wM ⟨rfl,i1⟩;have BM:Hid (Bl wr wM):=(yv wr.heap.size wr).drew.trans (i1.mono oac);have m1:=aA p3 BM;have m2:=aA k4 BM;have m3:=aA q3 BM;have m4:=aA k5 BM;clear i1))
          cases r with
          | false =>
           as_aux_lemma =>
           go_wp2
           go_ret;exact⟨rfl,a9.trans ((T.trans (BS.mono T.size)).mono a9.size)⟩
          | true =>
           as_aux_lemma =>
           go_wp2_with fail
           go_roundg (n-(i+1))
           case measure=>omega
           case rel=>exact⟨i+1,oaa,oaa,by go_num,BW.trans (BS.mono BW.size),fun k hk=>by
            by_cases e:k=i
            ·subst e;have e2:=G6.out.1 (by first|trivial|rfl);exact⟨by rw[e2],fun _=>e2.symm⟩
            ·exact HQ.out k oaa⟩
        ·have g1:¬ ((ly:Int)=(lz:Int)):=oaa
         as_aux_lemma =>
         have g2:decide ((ly:Int)=(lz:Int))=false:=yH g1;have g3:((ly:Int) ==(lz:Int))=false:=(by simpa using g1);have g4:((ly:Int) !=(lz:Int))=true:=(by simpa using g1);have g5:(ly == lz)=false:=(by simpa using hl);have g6:(ly != lz)=true:=(by simpa using hl);have g7:decide (ly=lz)=false:=yH hl;clear DM
         go_big_quiet (fail)
         go_wp2
         go_ret;exact⟨rfl,dL (a9.trans (T.mono a9.size)) _⟩
       ·have p6:n=i:=oaa;subst p6
        as_aux_lemma =>
        have L9:¬ ((n:Int)<(n:Int)):=oaa;have l8:Hid (Seen O M Z2):=Qf M1.ln (j3.out.1 (by first|trivial|rfl)) (j0.out.1 (by first|trivial|rfl)).1 (j0.out.1 (by first|trivial|rfl)).2 HQ.out;obtain⟨i8,D5⟩:∃ i8,i8=wr:=⟨_,rfl⟩;subst D5;have v7:Hid (Bl J i8):=h6.trans (BW.mono h6.size);replace p0:=aA p0 BW;replace p1:=aA p1 BW;replace q1:=aA q1 BW;clear p3 q3 HQ j3 j0 BW
        go_wp2_with fail
        go_loopg [181] n (fun g s181 r8=>∃ i:Nat,i<=n/\n-i<=g/\s181=.int .i64 i/\Hid (Bl i8 r8))
        case atStart=>exact⟨0,oaa,oaa,rfl,yv _ _⟩
        case round =>
         obtain⟨i,hi,I0,rfl,BW⟩:=hrel;have T:Hid (Bl J wr):=v7.trans (BW.mono v7.size);by_cases a6:i<n
         ·have A4:(i:Int)<(n:Int):=oaa;have z9:IntKind.i64.wrap ((i:Int)+1)=(i:Int)+1:=(by rw[yK];omega);obtain⟨mb,a8⟩:∃ mb,fP M.fs O i=mb:=⟨_,rfl⟩;have c8:Hid (fP M.fs O i=mb):=a8;have DM:Hid (∀ m,Calls _ _ _ (wr.drewN m) _):=fun m=>MS M1.out c9.out oaa (T.trans ((dL (yv wr.heap.size wr) m).mono T.size)) a8;clear a8
          cases mb with
          | true =>
           as_aux_lemma =>
           clear p0 p1 q1
           go_upto_region 39 with fail
           go_big_quiet (first|(go_at_call 25;exact Calls.quiet_of (DM _)))
           go_wp2_with fail
           go_roundg (n-(i+1))
           case measure=>omega
           case rel=>exact⟨i+1,oaa,oaa,by go_num,dL BW.out _⟩
          | false =>
           as_aux_lemma =>
           obtain⟨yb,yo,⟨A0,A1,A2,A3,C0,C1,C2,C3⟩,ey,r9,t5,t6,t7,C8⟩:=(M1.st.at.rs.below T) i (by rw[M1.rt.lr,M1.ln];exact a6);obtain⟨zb,zo,⟨E0,E1,E2,E3,G0,G1,G2,G3⟩,ez,t8,t9,v5,v6,C9⟩:=(N2.st.at.rs.below T) i (by rw[N2.rt.lr,N2.ln];exact a6);dsimp only at ey ez r9 t5 t6 t7 t8 t9 v5 v6;replace p1:=aA p1 BW;replace q1:=aA q1 BW;rw[ey] at p1;rw[ez] at q1;have SM:Hid (rl M.rs i=rl Z2.rs i):=((l9 J (yv _ _) l8.out).1.base.rl i (by rw[M1.ln];exact a6) (Or.inl (fun h=>by have h2:=(FO M1.ln a6).2 h;rw[c8.out] at h2;cases h2))).symm;have RY:Hid (aU wr ⟨A0,A1,A2,A3,C0,C1,C2,C3⟩ (rl M.rs i)):=C8;have RZ:Hid (aU wr ⟨E0,E1,E2,E3,G0,G1,G2,G3⟩ (rl Z2.rs i)):=C9;have k9:Hid (∀ V,Bl wr V->Calls _ _ _ _ _):=fun V hV=>MU (V:=V) M1.out c9.out oaa (T.trans (hV.mono T.size)) c8.out
           have F2:Hid (∀ V,Bl wr V->yO 17 #[.agg #[.slice A0 (rl M.rs i).s.length C0,.slice A1 (rl M.rs i).hs.length C1,.slice A2 (rl M.rs i).i.length C2,.slice A3 (rl M.rs i).t.length C3],.agg #[.slice E0 (rl Z2.rs i).s.length G0,.slice E1 (rl Z2.rs i).hs.length G1,.slice E2 (rl Z2.rs i).i.length G2,.slice E3 (rl Z2.rs i).t.length G3]] V fun e w' => e=.returned (.bool true)/\Below V.heap.size V w'):=fun V hV=>by
            have j5:=(qQ M1.rt).2.1.2 i (by rw[M1.rt.lr,M1.ln];exact a6);exact(H7 ⟨A0,A1,A2,A3,C0,C1,C2,C3⟩ ⟨E0,E1,E2,E3,G0,G1,G2,G3⟩ (rl M.rs i) (rl Z2.rs i) V j5 (RY.below hV) (RZ.below hV)).mono fun e w' ⟨r,x1,x2,x3⟩=>⟨by rw[x1,x3.2 SM.out],x2⟩
           clear C8 C9 ey ez DM p0 SM RY RZ
           go_upto_region 39 with fail
           go_region_held3 (fun I=>I.cell? ⟨w.heap.size,1,none⟩=some (.slice (some ⟨yb,yo,none⟩) n E6)/\I.cell? ⟨yb,yo+i*4,none⟩=some (.slice A0 (rl M.rs i).s.length C0)/\I.cell? ⟨yb,yo+i*4+1,none⟩=some (.slice A1 (rl M.rs i).hs.length C1)/\I.cell? ⟨yb,yo+i*4+2,none⟩=some (.slice A2 (rl M.rs i).i.length C2)/\I.cell? ⟨yb,yo+i*4+3,none⟩=some (.slice A3 (rl M.rs i).t.length C3)/\I.cell? ⟨D,1,none⟩=some (.slice (some ⟨zb,zo,none⟩) n E8)/\I.cell? ⟨zb,zo+i*4,none⟩=some (.slice E0 (rl Z2.rs i).s.length G0)/\I.cell? ⟨zb,zo+i*4+1,none⟩=some (.slice E1 (rl Z2.rs i).hs.length G1)/\I.cell? ⟨zb,zo+i*4+2,none⟩=some (.slice E2 (rl Z2.rs i).i.length G2)/\I.cell? ⟨zb,zo+i*4+3,none⟩=some (.slice E3 (rl Z2.rs i).t.length G3)) (go_keep) (first|(go_at_call 17;refine yj (F2 _ BM.out) ?_;rintro e wS ⟨rfl,i2⟩;have BS:Hid (Bl wr wS):=BM.trans (i2.mono BM.size);have n0:=aA p1 BS;have n1:=aA r9 BS;have n2:=aA t5 BS;have n3:=aA t6 BS;have n4:=aA t7 BS;have n5:=aA q1 BS;have n6:=aA t8 BS;have n7:=aA t9 BS;have n8:=aA v5 BS;have n9:=aA v6 BS;clear i2)|(go_at_call 25;refine yj (k9 _ (yv _ _).drew) ?_;rintro e wM ⟨rfl,i1⟩;have BM:Hid (Bl wr wM):=(yv wr.heap.size wr).drew.trans (i1.mono oac);have m0:=aA p1 BM;have m1:=aA r9 BM;have m2:=aA t5 BM;have m3:=aA t6 BM;have m4:=aA t7 BM;have m5:=aA q1 BM;have m6:=aA t8 BM;have m7:=aA t9 BM;have m8:=aA v5 BM;have m9:=aA v6 BM;clear i1))
           go_wp2_with fail
           go_roundg (n-(i+1))
           case measure=>omega
           case rel=>exact⟨i+1,oaa,oaa,by go_num,BW.trans (BS.mono BW.size)⟩
         ·have p6:n=i:=oaa;subst p6
          as_aux_lemma =>
          obtain⟨h4,D6⟩:∃ h4,h4=wr:=⟨_,rfl⟩;subst D6;replace p0:=aA p0 BW;obtain⟨AP,EF⟩:=l9.out h4 T.out l8.out;have b7:Hid _:=AP;have l5:Hid (¬ E=F->∃ k:Nat,K=k/\k<n/\fD M O k):=fun h=>Classical.byContradiction (fun p7=>h (EF p7));have z0:Hid _:=aH G8 T;obtain⟨k0,k1⟩:h4.cell? ⟨wq.heap.size,0,none⟩=some (.int .i64 K)/\h4.cell? ⟨wq.heap.size,1,none⟩=some (.bool s):=⟨by simp[World.cell?,z0.out],by simp[World.cell?,z0.out]⟩;have L5:IntKind.i64.wrap ((j:Int)+1)=(j:Int)+1:=(by rw[yK];omega);clear AP EF p1 q1 l9 l8
          go_upto_region 42 with fail
          go_cut [103,22] from 103 to 227 (fun s103 s22 wx=>s103=.int .i64 j/\wx=h4/\∃ b:Bool,s22=.bool b/\Hid (0<=K/\K<n->b=true))
          case first =>
           as_aux_lemma =>
            by_cases g0:K<0
            ·have g1:¬ (0<=K):=oaa;have g2:¬ (K ≥ 0):=oaa;have g3:decide (K ≥ 0)=false:=yH g2;have g4:decide (0<=K)=false:=yH g1
             go_wp2_with fail
             go_meet
             case rel=>exact⟨rfl,rfl,_,rfl,fun h=>oaa⟩
            ·have g1:0<=K:=oaa;have g2:K ≥ 0:=oaa;by_cases g5:K<n
             ·go_wp2_with fail
              go_meet
              case rel=>exact⟨rfl,rfl,true,(by first|rfl|simp[g5]),fun _=>rfl⟩
             ·have g3:decide (K<(n:Int))=false:=yH g5
              go_wp2_with fail
              go_meet
              case rel=>exact⟨rfl,rfl,false,(by first|rfl|simp[g5]),fun h=>oaa⟩
          case rest =>
          obtain⟨rfl,i6,b,rfl,l4⟩:=hcut;have i7:=i6.symm;clear i6;subst i7
          as_aux_lemma =>
          by_cases i0:E=F
          ·subst i0
           as_aux_lemma =>
           clear l5 l4
           go_wp2_with fail
           go_roundg (m-(j+1))
           case measure=>omega
           case rel=>exact⟨j+1,_,_,M,Z2,oaa,oaa,by go_num,b7⟩
          ·obtain⟨kk,I1,I2,A5⟩:=l5.out i0;subst I1
           as_aux_lemma =>
           obtain rfl:b=true:=l4.out ⟨oaa,oaa⟩;have F1:Hid (∀ V,Bl J V->Calls _ _ _ _ _):=fun V hV=>MU M1.out c9.out oaa hV ((FO M1.ln I2).2 A5);have g1:(E == F)=false:=(by simpa using i0);have g2:(E != F)=true:=(by simpa using i0);have g3:decide (E=F)=false:=yH i0;clear l5 l4 A5
           go_wp2_with fail
           refine yj (F1 _ T.out) ?_;rintro e J9 ⟨rfl,b9⟩;have x8:Hid (ApI w O n D ⟨j9,J1,J2,J3,q5,k2,E6,J4,E7,q6⟩ ⟨q7,J5,J6,J7,q8,q9,E8,J8,E9,r5⟩ M Z2 J9):=⟨b7.bel.trans (b9.mono b7.bel.size),b7.hb,aH b7.ko b9,b7.w1.below b9,b7.w2.below b9,b7.base⟩;clear b9
           go_wp2_with fail
           go_roundg (m-(j+1))
           case measure=>omega
           case rel=>exact⟨j+1,_,_,M,Z2,oaa,oaa,by go_num,x8⟩
     ·have L8:¬ ((j:Int)<(m:Int)):=oaa
      as_aux_lemma =>
      have F5:Hid (Bl w wr):=HA.bel;clear HA
      go_wp2
      go_ret;exact⟨rfl,F5.out⟩
   ·have D9:(E == 0)=false:=by simp[hE]
    as_aux_lemma =>
    have E4:(E != 0)=true:=by simp[hE]
    go_wp2
    go_ret;exact⟨rfl,HE.ex.bel.trans (B7.mono HE.ex.bel.size)⟩
