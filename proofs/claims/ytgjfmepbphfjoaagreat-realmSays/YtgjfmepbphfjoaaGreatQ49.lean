/-
  x
-/
import Derived.Test.YtgjfmepbphfjoaaGreatQ47
namespace Go.Proofs.YtgjfmepbphfjoaaGreat
set_option maxRecDepth 100000
set_option maxHeartbeats 4000000
set_option linter.unusedVariables false
open Go.RowKit Go.ChangeShapes Go.WideShapes
abbrev zga(f:Nat)(S T:List Nd)(more:Array Value)(h:Int × Int)(E:Int):Prop:=∀ (a:Option Addr) (c:Nat) W,zae W a S ->
 Calls Tryz.prog f (#[.agg #[.slice a S.length c]] ++ more) W fun e w' => ∃ w A,e=.returned (.tuple #[.agg #[.slice w T.length A],.agg #[.int .i64 h.1,.int .i64 h.2],.int .i64 E])/\Below W.heap.size W w' /\ St (fun b=>b<W.heap.size) (fun V=>zae V w T) w'
theorem zrH(S:List Nd)(t:Int)(wf:WF S):zga 101 S (rS (zcH S t) (mkS S t)) #[.int .i64 t] (rH (zcH S t) (mkH S)) (zcH S t):=fun a c W I=>by
 have T:S.length<=9223372036854775807:=by have:=wf.small;omega
 by_cases w:zcH S t=0
 ·obtain⟨_,M,J,F,A⟩:=zfF w;rw[w,zdv];refine(zlg a c S t W wf.small (zbi wf) I ((zdy S).2 wf) M.1 M.2 (zdH S) J F (wf.uses J).1 A).mono (fun e w' ⟨g,e1,D,hg,Z⟩=>⟨some ⟨g,0,none⟩,S.length,?_,D,fun V U=>(Z.up (fun b h1 O=>U.block b O (fun h3=>by omega))).nds⟩);rw[e1];unfold mkS;rw[List.length_set];rfl
 ·rw[zcX w,zjj w];exact(zlf a c S t _ W T wf.big I rfl w).mono (fun e w' ⟨e1,D⟩=>⟨none,0,e1,D,fun V _=>zbL V⟩)
theorem zrE(S:List Nd)(h:Int × Int)(cl:Bool)(wf:WF S):zga 113 S (rS (zkb S h.1 h.2) (zpV S h.1 cl)) #[hdV h,.bool cl] (rH (zkb S h.1 h.2) (mkH S)) (zkb S h.1 h.2):=fun a c W M=>by
 obtain⟨P,U⟩:=h;dsimp only[hdV];have hN:S.length<=9223372036854775807:=by have:=wf.small;omega
 unfold zkb;by_cases w:zas S P U=0
 ·rw[yd w];obtain⟨_,k,e,T,hu,a4⟩:=zbz w;subst e;by_cases J:zdq S (k:Int)=true
  ·rw[yd J,zcX (by decide),zjj (by decide)];exact(zjN a c S k U cl W wf M T w J).mono (fun e w' ⟨e1,A⟩=>⟨none,0,e1,A,fun V _=>zbL V⟩)
  ·rw[ya J];have D:zdq S (k:Int)=false:=by simpa using J
   by_cases F:zcH S 0=0
   ·obtain⟨_,ht,hf,O,I⟩:=zfF F;rw[F,zdv];unfold zpV;rw[yg];refine(znu a c S k (zdH S) U cl W wf M T w D hf O I).mono (fun e w' ⟨g,e1,A,hg,ho⟩=>⟨some ⟨g,0,none⟩,S.length,?_,A,fun V hV=>(ho.up (fun b h1 Z=>hV.block b Z (fun h3=>by omega))).nds⟩);rw[e1,List.length_set];rfl
   ·rw[zcX F,zjj F];exact(zjO a c S k U _ cl W wf M T w D rfl F).mono (fun e w' ⟨e1,A⟩=>⟨none,0,e1,A,fun V _=>zbL V⟩)
 ·rw[ya w,zcX w,zjj w];exact(zjM a c S P U _ cl W hN wf.big M rfl w).mono (fun e w' ⟨e1,A⟩=>⟨none,0,e1,A,fun V _=>zbL V⟩)
theorem zcx{w:World}{b t o:Nat}{v u:Value}(h:w.heap[b]?=some (.cells #[v,u] t (0,0))):w.frozen? ⟨b,o,none⟩=false:=by
 simp[World.frozen?,h]
theorem zfv(V:World)(o1 w:Obj):((V.alloc o1).alloc w).heap[V.heap.size]?=some o1:=((zab (V.alloc o1) w).block _ (by simp)).trans (heap_alloc_new V o1)
theorem zeO(V:World)(o1 w:Obj):((V.alloc o1).alloc w).heap[V.heap.size+1]?=some w:=by
 have h:=heap_alloc_new (V.alloc o1) w;rw[yk] at h;exact h
theorem ziZ(w:World)(R:Rl)(x:Ac)(hl:R.hs.length=16)(ha:isH x.a)(T:List Nd)(hh:Int × Int)(E:Int)(hF:zga 101 R.s T #[.int .i64 x.n] hh E)(q:Rs)(hq:q.e=E)(b5:E=0->q=⟨0,⟨T,R.hs.set x.a.toNat hh,R.i,R.t⟩,0⟩) :
  zit 55 #[] w R x q:=fun d h g A V I=>by
 rw[hq];obtain⟨a0,a1,a2,a3,c0,c1,c2,c3⟩:=A;obtain rfl:a0=some ⟨g,0,none⟩:=I.a0;obtain rfl:a1=some ⟨h,0,none⟩:=I.a1;obtain⟨xk,xa,xb,xc,xn⟩:=x;obtain⟨p,hp,d8⟩:=zjc ha;dsimp only at hp;subst hp;obtain⟨u0,u1⟩:=I.hand (k:=p) (by omega);have II:Hid (WI w R d h g _ V):=I;have D:Hid (∀ W,Below V.heap.size V W->Calls Tryz.prog 101 #[.agg #[.slice (some ⟨g,0,none⟩) R.s.length c0],.int .i64 xn] W fun e w' => ∃ U c', e=.returned (.tuple #[.agg #[.slice U T.length c'],.agg #[.int .i64 hh.1,.int .i64 hh.2],.int .i64 E])/\Below W.heap.size W w' /\ St (fun b=>b<W.heap.size) (fun V=>zae V U T) w'):=fun W hW=>hF (some ⟨g,0,none⟩) c0 W (I.nds.below hW);clear hF;obtain⟨l0,l1,l2,l3,fz,lt⟩:=zaa I.box;dsimp only at l0 l1 l2 l3;rw[hl] at l1;have f0:d<V.heap.size:=lt;have f6:h<V.heap.size:=ye _ _ u0;have f9:(p:Int)<16:=by omega
 show Calls Tryz.prog _ #[.pointer (some ⟨d,0,none⟩),.agg #[.int .i64 xk,.int .i64 p,.int .i64 xb,.int .i64 xc,.int .i64 xn]] V _;obtain⟨ns,b4⟩:∃ n,R.s.length=n:=⟨_,rfl⟩;have d9:Hid (R.s.length=ns):=b4;have HL:Hid (R.hs.length=16):=hl;have HQ:Hid _:=b5;rw[b4] at D l0;clear b4 I hl ha hq b5;obtain⟨X0,Y0⟩:=hh;dsimp only at D
 go_enter Tryz.func55,Tryz.ntmps55
 go_upto_region 1 with fail
 obtain⟨F,Z⟩:∃ F,V.alloc (.cells #[.int .i64 xk,.int .i64 p,.int .i64 xb,.int .i64 xc,.int .i64 xn] 41)=F:=⟨_,rfl⟩;have O:Hid (Below V.heap.size V F):=by rw[<- Z];exact zab _ _
 have y0:F.cell? ⟨V.heap.size,0,none⟩=some (.int .i64 xk):=by rw[<- Z];exact zad _ _ _ 0 rfl
 have y1:F.cell? ⟨V.heap.size,1,none⟩=some (.int .i64 p):=by rw[<- Z];exact zad _ _ _ 1 rfl
 have y2:F.cell? ⟨V.heap.size,2,none⟩=some (.int .i64 xb):=by rw[<- Z];exact zad _ _ _ 2 rfl
 have y3:F.cell? ⟨V.heap.size,3,none⟩=some (.int .i64 xc):=by rw[<- Z];exact zad _ _ _ 3 rfl
 have y4:F.cell? ⟨V.heap.size,4,none⟩=some (.int .i64 xn):=by rw[<- Z];exact zad _ _ _ 4 rfl
 have sV:V.heap.size<F.heap.size:=ye _ _ y0;rw[Z];clear Z;replace u0:=zac u0 O.out;replace u1:=zac u1 O.out;replace l0:=zac l0 O.out;replace l1:=zac l1 O.out;replace l2:=zac l2 O.out;replace l3:=zac l3 O.out;have n0:¬ F.heap.size=d:=by omega
 have o0:¬ d=F.heap.size:=by omega
 have n1:¬ F.heap.size=h:=by omega
 have o1:¬ h=F.heap.size:=by omega
 have n2:¬ F.heap.size=V.heap.size:=by omega
 have o2:¬ V.heap.size=F.heap.size:=by omega
 have g0:d<F.heap.size:=by omega
 have g1:h<F.heap.size:=by omega
 clear fz lt;have g2:¬ F.heap.size+1=d:=by omega
 have g5:¬ d=F.heap.size+1:=by omega
 have g3:¬ F.heap.size+1=h:=by omega
 have g6:¬ h=F.heap.size+1:=by omega
 have g4:¬ F.heap.size+1=V.heap.size:=by omega
 have g7:¬ V.heap.size=F.heap.size+1:=by omega
 go_cut [6,7,8] (fun s6 s7 s8 wx=>∃ (b6 b7:Nat) (U:Option Addr) (c' : Nat),s6=.pointer (some ⟨b6,0,none⟩)/\s7=.pointer (some ⟨b7,0,none⟩)/\s8=.int .i64 E/\Hid (Below F.heap.size F wx)/\wx.cell? ⟨b6,0,none⟩=some (.slice U T.length c')/\wx.cell? ⟨b7,0,none⟩=some (.int .i64 X0)/\wx.cell? ⟨b7,1,none⟩=some (.int .i64 Y0)/\F.heap.size<=b6/\F.heap.size<=b7/\Hid (St (fun b=>b<F.heap.size) (fun V=>zae V U T) wx))
 case first =>
  go_region_held3 (fun c6=>c6.cell? ⟨d,0,none⟩=some (.slice (some ⟨g,0,none⟩) ns c0)/\c6.cell? ⟨V.heap.size,4,none⟩=some (.int .i64 xn)) (go_keep) (first|(go_at_call 101;refine yf (D.out F.drew (O.out.trans ((yj F.heap.size F).mono O.out.size)).drew) ?_;rintro e w3 ⟨U,c', rfl,J,M⟩;have B3:Hid (Below F.heap.size F w3):=(yj F.heap.size F).drew.trans (J.mono (by simp));have N3:Hid (St (fun b=>b<F.heap.size) (fun V=>zae V U T) w3):=(by have h:=M;first|exact h|(simp only[World.drew,yk] at h;exact h));have a8:=zac l0 B3.out;have a9:=zac y4 B3.out;clear J M)|(go_at_call 101;refine yf (D.out (F.alloc (.cells #[.slice none 0 0] 24)).drew (O.out.trans ((zab F _).mono O.out.size)).drew) ?_;rintro e w3 ⟨U,c', rfl,J,M⟩;have B3:Hid (Below F.heap.size F w3):=(zab F _).drew.trans (J.mono (by simp));have N3:Hid (St (fun b=>b<F.heap.size+1) (fun V=>zae V U T) w3):=(by have h:=M;first|exact h|(simp only[World.drew,yk] at h;exact h));have a8:=zac l0 B3.out;have a9:=zac y4 B3.out;have XA:Hid (w3.heap[F.heap.size]?=some (.cells #[.slice none 0 0] 24 (0,0))):=(J.block _ (by first|(simp;done)|(simp;omega))).trans (heap_alloc_new F _);have a4:F.heap.size<w3.heap.size:=zaC XA.out;have a6:¬ F.heap.size=w3.heap.size:=Nat.ne_of_lt a4;have b8:¬ w3.heap.size=F.heap.size:=Ne.symm a6;have xa:=zbr XA.out;have c7:=fun o=>zbD (o:=o) XA.out;clear J M)|(go_at_call 101;refine yf (D.out (F.alloc (.cells #[.int .i64 0,.int .i64 0] 39)).drew (O.out.trans ((zab F _).mono O.out.size)).drew) ?_;rintro e w3 ⟨U,c', rfl,J,M⟩;have B3:Hid (Below F.heap.size F w3):=(zab F _).drew.trans (J.mono (by simp));have N3:Hid (St (fun b=>b<F.heap.size+1) (fun V=>zae V U T) w3):=(by have h:=M;first|exact h|(simp only[World.drew,yk] at h;exact h));have a8:=zac l0 B3.out;have a9:=zac y4 B3.out;have XB:Hid (w3.heap[F.heap.size]?=some (.cells #[.int .i64 0,.int .i64 0] 39 (0,0))):=(J.block _ (by first|(simp;done)|(simp;omega))).trans (heap_alloc_new F _);have a5:F.heap.size<w3.heap.size:=zaC XB.out;have a7:¬ F.heap.size=w3.heap.size:=Nat.ne_of_lt a5;have b9:¬ w3.heap.size=F.heap.size:=Ne.symm a7;obtain⟨c8,c9,d7⟩:=zcj XB.out;have d6:=fun o=>zcx (o:=o) XB.out;clear J M)|(go_at_call 101;refine yf (D.out ((F.alloc (.cells #[.slice none 0 0] 24)).alloc (.cells #[.int .i64 0,.int .i64 0] 39)).drew (O.out.trans ((zai F _ _).mono O.out.size)).drew) ?_;rintro e w3 ⟨U,c', rfl,J,M⟩;have B3:Hid (Below F.heap.size F w3):=(zai F _ _).drew.trans (J.mono (by simp;omega));have N3:Hid (St (fun b=>b<F.heap.size+1+1) (fun V=>zae V U T) w3):=(by have h:=M;first|exact h|(simp only[World.drew,yk] at h;exact h));have a8:=zac l0 B3.out;have a9:=zac y4 B3.out;have XA:Hid (w3.heap[F.heap.size]?=some (.cells #[.slice none 0 0] 24 (0,0))):=(J.block _ (by first|(simp;done)|(simp;omega))).trans (zfv F _ _);have a4:F.heap.size<w3.heap.size:=zaC XA.out;have a6:¬ F.heap.size=w3.heap.size:=Nat.ne_of_lt a4;have b8:¬ w3.heap.size=F.heap.size:=Ne.symm a6;have xa:=zbr XA.out;have c7:=fun o=>zbD (o:=o) XA.out;have XB:Hid (w3.heap[F.heap.size+1]?=some (.cells #[.int .i64 0,.int .i64 0] 39 (0,0))):=(J.block _ (by first|(simp;done)|(simp;omega))).trans (zeO F _ _);have a5:F.heap.size+1<w3.heap.size:=zaC XB.out;have a7:¬ F.heap.size+1=w3.heap.size:=Nat.ne_of_lt a5;have b9:¬ w3.heap.size=F.heap.size+1:=Ne.symm a7;obtain⟨c8,c9,d7⟩:=zcj XB.out;have d6:=fun o=>zcx (o:=o) XB.out;clear J M)|(go_at_call 101;refine yf (D.out ((F.alloc (.cells #[.int .i64 0,.int .i64 0] 39)).alloc (.cells #[.slice none 0 0] 24)).drew (O.out.trans ((zai F _ _).mono O.out.size)).drew) ?_;rintro e w3 ⟨U,c', rfl,J,M⟩;have B3:Hid (Below F.heap.size F w3):=(zai F _ _).drew.trans (J.mono (by simp;omega));have N3:Hid (St (fun b=>b<F.heap.size+1+1) (fun V=>zae V U T) w3):=(by have h:=M;first|exact h|(simp only[World.drew,yk] at h;exact h));have a8:=zac l0 B3.out;have a9:=zac y4 B3.out;have XB:Hid (w3.heap[F.heap.size]?=some (.cells #[.int .i64 0,.int .i64 0] 39 (0,0))):=(J.block _ (by first|(simp;done)|(simp;omega))).trans (zfv F _ _);have a5:F.heap.size<w3.heap.size:=zaC XB.out;have a7:¬ F.heap.size=w3.heap.size:=Nat.ne_of_lt a5;have b9:¬ w3.heap.size=F.heap.size:=Ne.symm a7;obtain⟨c8,c9,d7⟩:=zcj XB.out;have d6:=fun o=>zcx (o:=o) XB.out;have XA:Hid (w3.heap[F.heap.size+1]?=some (.cells #[.slice none 0 0] 24 (0,0))):=(J.block _ (by first|(simp;done)|(simp;omega))).trans (zeO F _ _);have a4:F.heap.size+1<w3.heap.size:=zaC XA.out;have a6:¬ F.heap.size+1=w3.heap.size:=Nat.ne_of_lt a4;have b8:¬ w3.heap.size=F.heap.size+1:=Ne.symm a6;have xa:=zbr XA.out;have c7:=fun o=>zbD (o:=o) XA.out;clear J M))
  all_goals
   go_wp2_with fail
   go_meet
   case rel =>
    have zz:=B3.out.size;refine⟨_,_,U,c', rfl,rfl,rfl,?_,by go_simp,by go_simp,by go_simp,by omega,by omega,?_⟩
    ·show Below _ _ _
     repeat (first|exact B3.out|refine Below.setCell ?_ (by simp) _|refine Below.alloc ?_ (by first|omega|(simp;omega)) _)
    ·refine(St.off N3.out ?_).less (fun b hb=>by have h:b<F.heap.size:=hb;show b < _;omega)
     repeat (first|exact zbA.refl _ _|refine zbA.trans ?_ (zbA.set _ _ (by show _ < _;omega))|refine zbA.trans ?_ (zbA.of_below (zab _ _)))
 case rest =>
  obtain⟨b6,b7,U,c', rfl,rfl,rfl,HB,h6,e0,e9,f7,f8,HN⟩:=hcut;have I2:Hid _:=II.out.below (O.out.trans (HB.out.mono O.out.size));obtain⟨m0,m1,m2,m3,mf,ml⟩:=zaa I2.out.box;dsimp only at m0 m1;rw[HL.out] at m1;obtain⟨r0,r1⟩:=I2.out.hand (k:=p) (by rw[HL.out];omega);have rf:=I2.out.row.frozen;have yA:=zac y1 HB.out;have e1:¬ h=d:=II.out.dh;have e2:¬ d=h:=Ne.symm II.out.dh;have e3:¬ d=b6:=by omega
  have e4:¬ d=b7:=by omega
  have e5:¬ h=b6:=by omega
  have e6:¬ h=b7:=by omega
  have e7:¬ d=V.heap.size:=by omega
  have e8:¬ h=V.heap.size:=by omega
  have HS:Hid _:=I2.out.storeHand c' HN.out (by have:=II.out.base;omega) (k:=p) (by rw[HL.out];omega) (X0,Y0) rfl;clear II D u0 u1 l0 l1 l2 l3 y0 y1 y2 y3 y4 m2 m3
  go_wp2_with fail
  go_region
  go_wp2
  refine yq (v:=.tuple #[.int .i64 0,.int .i64 E]) (by simp[results,Tryz.results55,go_sem]) rfl ⟨0,rfl,HS.out.1.drew,fun hE=>?_⟩;have h2:=HQ.out hE;rw[yg] at h2;rw[h2];exact⟨rfl,_,HS.out.2.1,HS.out.2.2.below (yj _ _).drew⟩
theorem zpW(w:World)(R:Rl)(x:Ac)(hl:R.hs.length=16)(ha:isH x.a)(d6:isH x.b)(T:List Nd)(hh:Int × Int)(E:Int)(hF:zga 113 R.s T #[hdV (hd R x.a),.bool (decide (x.n=1))] hh E)(q:Rs)(hq:q.e=E)(d7:E=0->q=⟨0,⟨T,R.hs.set x.b.toNat hh,R.i,R.t⟩,0⟩) :
  zit 68 #[] w R x q:=fun d h g A V I=>by
 rw[hq];obtain⟨a0,a1,a2,a3,c0,c1,c2,c3⟩:=A;obtain rfl:a0=some ⟨g,0,none⟩:=I.a0;obtain rfl:a1=some ⟨h,0,none⟩:=I.a1;obtain⟨xk,xa,xb,xc,xn⟩:=x;obtain⟨p,hp,f8⟩:=zjc ha;dsimp only at hp;subst hp;obtain⟨u0,u1⟩:=I.hand (k:=p) (by omega);obtain⟨r,hr,f9⟩:=zjc d6;dsimp only at hr;subst hr;obtain⟨v0,v1⟩:=I.hand (k:=r) (by omega);have II:Hid (WI w R d h g _ V):=I;have D:Hid (∀ W,Below V.heap.size V W->Calls Tryz.prog 113 #[.agg #[.slice (some ⟨g,0,none⟩) R.s.length c0],.agg #[.int .i64 (hd R (p:Int)).1,.int .i64 (hd R (p:Int)).2],.bool (decide (xn=1))] W fun e w' => ∃ a' c', e=.returned (.tuple #[.agg #[.slice a' T.length c'],.agg #[.int .i64 hh.1,.int .i64 hh.2],.int .i64 E])/\Below W.heap.size W w' /\ St (fun b=>b<W.heap.size) (fun V=>zae V a' T) w'):=fun W hW=>hF (some ⟨g,0,none⟩) c0 W (I.nds.below hW);clear hF;obtain⟨l0,l1,l2,l3,fz,lt⟩:=zaa I.box;dsimp only at l0 l1 l2 l3;rw[hl] at l1;have g4:d<V.heap.size:=lt;have g5:h<V.heap.size:=ye _ _ u0;have g8:(p:Int)<16:=by omega
 have g9:(r:Int)<16:=by omega
 show Calls Tryz.prog _ #[.pointer (some ⟨d,0,none⟩),.agg #[.int .i64 xk,.int .i64 p,.int .i64 r,.int .i64 xc,.int .i64 xn]] V _;obtain⟨ns,c8⟩:∃ n,R.s.length=n:=⟨_,rfl⟩;have g0:Hid (R.s.length=ns):=c8;have HL:Hid (R.hs.length=16):=hl;have HQ:Hid _:=d7;rw[c8] at D l0;clear c8 I hl ha d6 hq d7 v0 v1;obtain⟨X0,Y0⟩:=hh;dsimp only at D;generalize hd R (p:Int)=hA at *;obtain⟨P,U⟩:=hA;dsimp only at u0 u1 D;have XN:Hid (∀ W,Below V.heap.size V W->_):=D.out;obtain⟨B1,c9⟩:∃ B1,decide (xn=1)=B1:=⟨_,rfl⟩;have g3:(xn == 1)=B1:=by rw[<- c9];rfl
 rw[c9] at D;clear XN
 go_enter Tryz.func68,Tryz.ntmps68
 go_upto_region 1 with fail
 obtain⟨F,a4⟩:∃ F,V.alloc (.cells #[.int .i64 xk,.int .i64 p,.int .i64 r,.int .i64 xc,.int .i64 xn] 41)=F:=⟨_,rfl⟩;have Z:Hid (Below V.heap.size V F):=by rw[<- a4];exact zab _ _
 have y0:F.cell? ⟨V.heap.size,0,none⟩=some (.int .i64 xk):=by rw[<- a4];exact zad _ _ _ 0 rfl
 have y1:F.cell? ⟨V.heap.size,1,none⟩=some (.int .i64 p):=by rw[<- a4];exact zad _ _ _ 1 rfl
 have y2:F.cell? ⟨V.heap.size,2,none⟩=some (.int .i64 r):=by rw[<- a4];exact zad _ _ _ 2 rfl
 have y3:F.cell? ⟨V.heap.size,3,none⟩=some (.int .i64 xc):=by rw[<- a4];exact zad _ _ _ 3 rfl
 have y4:F.cell? ⟨V.heap.size,4,none⟩=some (.int .i64 xn):=by rw[<- a4];exact zad _ _ _ 4 rfl
 have sV:V.heap.size<F.heap.size:=ye _ _ y0;rw[a4];clear a4;replace u0:=zac u0 Z.out;replace u1:=zac u1 Z.out;replace l0:=zac l0 Z.out;replace l1:=zac l1 Z.out;replace l2:=zac l2 Z.out;replace l3:=zac l3 Z.out;have n0:¬ F.heap.size=d:=by omega
 have o0:¬ d=F.heap.size:=by omega
 have n1:¬ F.heap.size=h:=by omega
 have o1:¬ h=F.heap.size:=by omega
 have n2:¬ F.heap.size=V.heap.size:=by omega
 have o2:¬ V.heap.size=F.heap.size:=by omega
 have h3:d<F.heap.size:=by omega
 have h4:h<F.heap.size:=by omega
 clear fz lt;have h5:¬ F.heap.size+1=d:=by omega
 have h9:¬ d=F.heap.size+1:=by omega
 have h7:¬ F.heap.size+1=h:=by omega
 have i0:¬ h=F.heap.size+1:=by omega
 have h8:¬ F.heap.size+1=V.heap.size:=by omega
 have i1:¬ V.heap.size=F.heap.size+1:=by omega
 go_cut [6,7,8] (fun s6 s7 s8 wx=>∃ (b6 b7:Nat) (a' : Option Addr) (c' : Nat),s6=.pointer (some ⟨b6,0,none⟩)/\s7=.pointer (some ⟨b7,0,none⟩)/\s8=.int .i64 E/\Hid (Below F.heap.size F wx)/\wx.cell? ⟨b6,0,none⟩=some (.slice a' T.length c')/\wx.cell? ⟨b7,0,none⟩=some (.int .i64 X0)/\wx.cell? ⟨b7,1,none⟩=some (.int .i64 Y0)/\F.heap.size<=b6/\F.heap.size<=b7/\Hid (St (fun b=>b<F.heap.size) (fun V=>zae V a' T) wx))
 case first =>
  go_region_held3 (fun a5=>a5.cell? ⟨d,0,none⟩=some (.slice (some ⟨g,0,none⟩) ns c0)/\a5.cell? ⟨d,1,none⟩=some (.slice (some ⟨h,0,none⟩) 16 c1)/\a5.cell? ⟨h,p*2,none⟩=some (.int .i64 P)/\a5.cell? ⟨h,p*2+1,none⟩=some (.int .i64 U)/\a5.cell? ⟨V.heap.size,1,none⟩=some (.int .i64 p)/\a5.cell? ⟨V.heap.size,4,none⟩=some (.int .i64 xn)) (go_keep) (first|(go_at_call 113;refine yf (D.out F.drew (Z.out.trans ((yj F.heap.size F).mono Z.out.size)).drew) ?_;rintro e w3 ⟨a', c', rfl,J,O⟩;have M:Hid (Below F.heap.size F w3):=(yj F.heap.size F).drew.trans (J.mono (by simp));have N3:Hid (St (fun b=>b<F.heap.size) (fun V=>zae V a' T) w3):=(by have h:=O;first|exact h|(simp only[World.drew,yk] at h;exact h));have b4:=zac l0 M.out;have b5:=zac l1 M.out;have b8:=zac u0 M.out;have b9:=zac u1 M.out;have c6:=zac y1 M.out;have c7:=zac y4 M.out;clear J O)|(go_at_call 113;refine yf (D.out (F.alloc (.cells #[.slice none 0 0] 24)).drew (Z.out.trans ((zab F _).mono Z.out.size)).drew) ?_;rintro e w3 ⟨a', c', rfl,J,O⟩;have M:Hid (Below F.heap.size F w3):=(zab F _).drew.trans (J.mono (by simp));have N3:Hid (St (fun b=>b<F.heap.size+1) (fun V=>zae V a' T) w3):=(by have h:=O;first|exact h|(simp only[World.drew,yk] at h;exact h));have b4:=zac l0 M.out;have b5:=zac l1 M.out;have b8:=zac u0 M.out;have b9:=zac u1 M.out;have c6:=zac y1 M.out;have c7:=zac y4 M.out;have XA:Hid (w3.heap[F.heap.size]?=some (.cells #[.slice none 0 0] 24 (0,0))):=(J.block _ (by first|(simp;done)|(simp;omega))).trans (heap_alloc_new F _);have a6:F.heap.size<w3.heap.size:=zaC XA.out;have a8:¬ F.heap.size=w3.heap.size:=Nat.ne_of_lt a6;have d8:¬ w3.heap.size=F.heap.size:=Ne.symm a8;have xa:=zbr XA.out;have e0:=fun o=>zbD (o:=o) XA.out;clear J O)|(go_at_call 113;refine yf (D.out (F.alloc (.cells #[.int .i64 0,.int .i64 0] 39)).drew (Z.out.trans ((zab F _).mono Z.out.size)).drew) ?_;rintro e w3 ⟨a', c', rfl,J,O⟩;have M:Hid (Below F.heap.size F w3):=(zab F _).drew.trans (J.mono (by simp));have N3:Hid (St (fun b=>b<F.heap.size+1) (fun V=>zae V a' T) w3):=(by have h:=O;first|exact h|(simp only[World.drew,yk] at h;exact h));have b4:=zac l0 M.out;have b5:=zac l1 M.out;have b8:=zac u0 M.out;have b9:=zac u1 M.out;have c6:=zac y1 M.out;have c7:=zac y4 M.out;have XB:Hid (w3.heap[F.heap.size]?=some (.cells #[.int .i64 0,.int .i64 0] 39 (0,0))):=(J.block _ (by first|(simp;done)|(simp;omega))).trans (heap_alloc_new F _);have a7:F.heap.size<w3.heap.size:=zaC XB.out;have a9:¬ F.heap.size=w3.heap.size:=Nat.ne_of_lt a7;have d9:¬ w3.heap.size=F.heap.size:=Ne.symm a9;obtain⟨e9,f0,f7⟩:=zcj XB.out;have f6:=fun o=>zcx (o:=o) XB.out;clear J O)|(go_at_call 113;refine yf (D.out ((F.alloc (.cells #[.slice none 0 0] 24)).alloc (.cells #[.int .i64 0,.int .i64 0] 39)).drew (Z.out.trans ((zai F _ _).mono Z.out.size)).drew) ?_;rintro e w3 ⟨a', c', rfl,J,O⟩;have M:Hid (Below F.heap.size F w3):=(zai F _ _).drew.trans (J.mono (by simp;omega));have N3:Hid (St (fun b=>b<F.heap.size+1+1) (fun V=>zae V a' T) w3):=(by have h:=O;first|exact h|(simp only[World.drew,yk] at h;exact h));have b4:=zac l0 M.out;have b5:=zac l1 M.out;have b8:=zac u0 M.out;have b9:=zac u1 M.out;have c6:=zac y1 M.out;have c7:=zac y4 M.out;have XA:Hid (w3.heap[F.heap.size]?=some (.cells #[.slice none 0 0] 24 (0,0))):=(J.block _ (by first|(simp;done)|(simp;omega))).trans (zfv F _ _);have a6:F.heap.size<w3.heap.size:=zaC XA.out;have a8:¬ F.heap.size=w3.heap.size:=Nat.ne_of_lt a6;have d8:¬ w3.heap.size=F.heap.size:=Ne.symm a8;have xa:=zbr XA.out;have e0:=fun o=>zbD (o:=o) XA.out;have XB:Hid (w3.heap[F.heap.size+1]?=some (.cells #[.int .i64 0,.int .i64 0] 39 (0,0))):=(J.block _ (by first|(simp;done)|(simp;omega))).trans (zeO F _ _);have a7:F.heap.size+1<w3.heap.size:=zaC XB.out;have a9:¬ F.heap.size+1=w3.heap.size:=Nat.ne_of_lt a7;have d9:¬ w3.heap.size=F.heap.size+1:=Ne.symm a9;obtain⟨e9,f0,f7⟩:=zcj XB.out;have f6:=fun o=>zcx (o:=o) XB.out;clear J O)|(go_at_call 113;refine yf (D.out ((F.alloc (.cells #[.int .i64 0,.int .i64 0] 39)).alloc (.cells #[.slice none 0 0] 24)).drew (Z.out.trans ((zai F _ _).mono Z.out.size)).drew) ?_;rintro e w3 ⟨a', c', rfl,J,O⟩;have M:Hid (Below F.heap.size F w3):=(zai F _ _).drew.trans (J.mono (by simp;omega));have N3:Hid (St (fun b=>b<F.heap.size+1+1) (fun V=>zae V a' T) w3):=(by have h:=O;first|exact h|(simp only[World.drew,yk] at h;exact h));have b4:=zac l0 M.out;have b5:=zac l1 M.out;have b8:=zac u0 M.out;have b9:=zac u1 M.out;have c6:=zac y1 M.out;have c7:=zac y4 M.out;have XB:Hid (w3.heap[F.heap.size]?=some (.cells #[.int .i64 0,.int .i64 0] 39 (0,0))):=(J.block _ (by first|(simp;done)|(simp;omega))).trans (zfv F _ _);have a7:F.heap.size<w3.heap.size:=zaC XB.out;have a9:¬ F.heap.size=w3.heap.size:=Nat.ne_of_lt a7;have d9:¬ w3.heap.size=F.heap.size:=Ne.symm a9;obtain⟨e9,f0,f7⟩:=zcj XB.out;have f6:=fun o=>zcx (o:=o) XB.out;have XA:Hid (w3.heap[F.heap.size+1]?=some (.cells #[.slice none 0 0] 24 (0,0))):=(J.block _ (by first|(simp;done)|(simp;omega))).trans (zeO F _ _);have a6:F.heap.size+1<w3.heap.size:=zaC XA.out;have a8:¬ F.heap.size+1=w3.heap.size:=Nat.ne_of_lt a6;have d8:¬ w3.heap.size=F.heap.size+1:=Ne.symm a8;have xa:=zbr XA.out;have e0:=fun o=>zbD (o:=o) XA.out;clear J O))
  all_goals
   go_wp2_with fail
   go_meet
   case rel =>
    have zz:=M.out.size;refine⟨_,_,a', c', rfl,rfl,rfl,?_,by go_simp,by go_simp,by go_simp,by omega,by omega,?_⟩
    ·show Below _ _ _
     repeat (first|exact M.out|refine Below.setCell ?_ (by simp) _|refine Below.alloc ?_ (by first|omega|(simp;omega)) _)
    ·refine(St.off N3.out ?_).less (fun b hb=>by have h:b<F.heap.size:=hb;show b < _;omega)
     repeat (first|exact zbA.refl _ _|refine zbA.trans ?_ (zbA.set _ _ (by show _ < _;omega))|refine zbA.trans ?_ (zbA.of_below (zab _ _)))
 case rest =>
  obtain⟨b6,b7,a', c', rfl,rfl,rfl,HB,h6,g1,g2,g6,g7,HN⟩:=hcut;have I2:Hid _:=II.out.below (Z.out.trans (HB.out.mono Z.out.size));obtain⟨m0,m1,m2,m3,mf,ml⟩:=zaa I2.out.box;dsimp only at m0 m1;rw[HL.out] at m1;obtain⟨r0,r1⟩:=I2.out.hand (k:=r) (by rw[HL.out];omega);have rf:=I2.out.row.frozen;have yA:=zac y2 HB.out;have e1:¬ h=d:=II.out.dh;have e2:¬ d=h:=Ne.symm II.out.dh;have e3:¬ d=b6:=by omega
  have e4:¬ d=b7:=by omega
  have e5:¬ h=b6:=by omega
  have e6:¬ h=b7:=by omega
  have e7:¬ d=V.heap.size:=by omega
  have e8:¬ h=V.heap.size:=by omega
  have HS:Hid _:=I2.out.storeHand c' HN.out (by have:=II.out.base;omega) (k:=r) (by rw[HL.out];omega) (X0,Y0) rfl;clear II D u0 u1 l0 l1 l2 l3 y0 y1 y2 y3 y4 m2 m3
  go_wp2_with fail
  go_region
  go_wp2
  refine yq (v:=.tuple #[.int .i64 0,.int .i64 E]) (by simp[results,Tryz.results68,go_sem]) rfl ⟨0,rfl,HS.out.1.drew,fun hE=>?_⟩;have h2:=HQ.out hE;rw[yg] at h2;rw[h2];exact⟨rfl,_,HS.out.2.1,HS.out.2.2.below (yj _ _).drew⟩
end Go.Proofs.YtgjfmepbphfjoaaGreat
