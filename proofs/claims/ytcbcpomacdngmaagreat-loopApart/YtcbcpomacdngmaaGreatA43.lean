/-
  x
-/
import Derived.Test.YtcbcpomacdngmaaGreatA42
import Derived.ProofKit
import Derived.OpenShut
import Derived.ChangeOld
import Derived.Below
import Derived.Deep.Slices
import Derived.Lib.SmallJoins
namespace Go.Proofs.YtcbcpomacdngmaaGreat
set_option maxRecDepth 100000
set_option maxHeartbeats 4000000
set_option linter.unusedVariables false
open Go.RowKit Go.ChangeShapes Go.WideShapes Go.ChangeAt Tryz
theorem Yg{w E:Wd}{R:Rl}{m:Nat}(hg:E.rowIs (w.heap.size+1+1) 55 ((m+1)*2) (mkF R m (w.heap.size+1+1+1) m))(hh:E.rowIs (w.heap.size+1+1+1) 3 m (kdF m)):aO E (some ⟨w.heap.size+1+1,0,none⟩) (bO R m):=fun i hi=>by
 rw[sI] at hi;refine⟨w.heap.size+1+1,0,rfl,?_⟩;rw[yD]
 match i,hi with
 | 0,_ =>
  rw[EC];refine⟨?_,some ⟨w.heap.size+1+1+1,0,none⟩,m,?_,fun j F=>?_⟩
  ·rw[hg.cell oaa];rfl
  ·rw[hg.cell oaa];show some (Value.slice _ m m)=some (.slice _ (List.map _ (List.range m)).length m);rw[List.length_map,List.length_range]
  ·have D:j<m:=(by simpa using F);refine⟨_,0,rfl,?_⟩;rw[yD,hh.cell D];unfold kdF;rw[ye D];simp[List.getD_eq_getElem?_getD,D]
 | i+1,hi =>
  rw[EG oaa];refine⟨?_,none,0,?_,fun j F=>absurd F (yB _)⟩
  ·rw[hg.cell oaa];unfold mkF;rw[yd oaa,yd oaa,ye oaa,show (i+1)*2 / 2-1=i by omega,ye oaa]
  ·rw[hg.cell oaa];unfold mkF;rw[yd oaa,yd oaa,yd oaa];rfl
theorem MkI.cls2{w:Wd}{A:RA}{R:Rl}{m:Nat}{V:Wd}(I:MkI w A R m m V)(E:Wd)(D:aC (fun b=>b=w.heap.size+1) V E):St (fun b=>b<w.heap.size) (fun V=>aO V (some ⟨w.heap.size+1+1,0,none⟩) (bO R m)) E:=fun O F=>by
 have J:=I.g.lt;have M:=I.h.lt;exact Yg (I.g.of_block ((F.block _ (yC J D.size) (by show ¬ w.heap.size+1+1<w.heap.size;omega)).trans (D.block _ J (by show ¬ w.heap.size+1+1=w.heap.size+1;omega)))) (I.h.of_block ((F.block _ (yC M D.size) (by show ¬ w.heap.size+1+1+1<w.heap.size;omega)).trans (D.block _ M (by show ¬ w.heap.size+1+1+1=w.heap.size+1;omega))))
def rA(w:Wd)(R:Rl)(n:Int)(e:Ending)(V:Wd):Prop:=∃ (ga:OA) (gc:Nat),e=.returned (.tuple #[.agg #[.slice ga (mkG R n).length gc],.int .i64 (dN R n)])/\Below w.heap.size w V/\St (fun b=>b<w.heap.size) (fun V=>aO V ga (mkG R n)) V
theorem rA.no{w V:Wd}{R:Rl}{n E:Int}(h:dN R n=E)(D:E≠0)(hb:Bl w V):rA w R n (.returned (.tuple #[.agg #[.slice none 0 0],.int .i64 E])) V:=by
 have e:mkG R n=[]:=yd (by rw[h];exact D);refine⟨none,0,by rw[e,h];rfl,hb,?_⟩;rw[e];exact fun F _ i hi=>absurd hi (yB _)
theorem rA.ok{w V:Wd}{R:Rl}{m:Nat}{A:RA}(D:m<=8)(I:MkI w A R m m V):rA w R m (.returned (.tuple #[.agg #[.slice (some ⟨w.heap.size+1+1,0,none⟩) (m+1) (m+1)],.int .i64 0])) (V.setCell ⟨w.heap.size+1,0,none⟩ (.slice (some ⟨w.heap.size+1+1,0,none⟩) (m+1) (m+1))):=by
 have h:=Ye D I.ok;have e:mkG R m=bO R m:=by unfold mkG;rw[ye h,yk]
 refine⟨_,m+1,by rw[e,h,sI],I.bel.setCell oac _,?_⟩;rw[e];exact I.cls2 _ (aC.set (X:=fun b=>b=w.heap.size+1) V _ rfl)
theorem MkI.read{w:Wd}{A:RA}{R:Rl}{m k:Nat}{V:Wd}(I:MkI w A R m k V)(M:k<m)(E:R.hs.length=16)(J:m<=8)(hh:aZ V A.a1 R.hs):∃ b o,A.a1=some ⟨b,o,none⟩/\V.cell? ⟨b,o+k*2,none⟩=some (.int .i64 (hd R k).1)/\V.cell? ⟨b,o+k*2+1,none⟩=some (.int .i64 (hd R k).2)/\b<V.heap.size:=by
 obtain⟨b,o,e,h1,F⟩:=hh k oaa;have D:hd R (k:Int)=R.hs.getD k (0,0):=by unfold hd;rw[yk]
 rw[D];exact⟨b,o,e,h1,F,yi _ _ h1⟩
theorem Yh{w D O:Wd}{A:RA}{R:Rl}{m:Nat}(xr:D.heap[w.heap.size]?=some (.cells #[.slice A.a0 R.s.length A.c0,.slice A.a1 R.hs.length A.c1,.slice A.a2 R.i.length A.c2,.slice A.a3 R.t.length A.c3] 50 (0,0)))(xz:D.heap[w.heap.size+1]?=some (.cells #[.slice none 0 0] 47 (0,0)))(sz:D.heap.size=w.heap.size+1+1+1)(Z:Bl w D)(rg:D.rowIs (w.heap.size+1+1) 55 ((m+1)*2) (fun j=>(madeCells #[.int .i64 0,.slice none 0 0] ((m+1)*2))[j]!))
  (h4:O=((D.setCell ⟨w.heap.size+1+1,0,none⟩ (.int .i64 (m:Int))).setCell ⟨w.heap.size+1+1,1,none⟩ (.slice (some ⟨D.heap.size,0,none⟩) m m)).alloc (.cells (madeCells #[.int .i64 0] m) 3)):MkI w A R m 0 O:=by
 subst h4;obtain⟨V,M⟩:∃ V,(D.setCell ⟨w.heap.size+1+1,0,none⟩ (.int .i64 (m:Int))).setCell ⟨w.heap.size+1+1,1,none⟩ (.slice (some ⟨D.heap.size,0,none⟩) m m)=V:=⟨_,rfl⟩;have hs:V.heap.size=w.heap.size+1+1+1:=by rw[<- M];simpa using sz
 have hb:∀ b,b≠w.heap.size+1+1->V.heap[b]?=D.heap[b]?:=fun b h=>by rw[<- M,yx _ _ _ _ h,yx _ _ _ _ h]
 have E:=(rg.set 0 (.int .i64 (m:Int))).set 1 (.slice (some ⟨D.heap.size,0,none⟩) m m);rw[M] at E |-;have F:=aB V (.cells (madeCells #[.int .i64 0] m) 3);have U:=World.rowIs_made V (.int .i64 0) m 3;rw[hs] at U;refine⟨?_,aH ((hb _ oaa).trans xr) F,aH ((hb _ oaa).trans xz) F,yG (E.of_block (F.block _ E.lt)) (fun j T=>?_),yG U (fun j T=>?_),fun i hi=>absurd hi (yB _)⟩
 ·refine Below.trans ?_ (F.mono oaa);rw[<- M];exact(Z.setCell oab _).setCell oab _
 ·unfold mkF;by_cases J:j=1
  ·rw[ye J,yd oaa,ye J,sz]
  ·rw[yd J];by_cases I:j=0
   ·rw[ye I,ye I]
   ·rw[yd I,yd I,yd J];have e2:(madeCells #[Value.int .i64 0,.slice none 0 0] ((m+1)*2))[j]! =(#[Value.int .i64 0,.slice none 0 0]:Array Value)[j % 2]!:=(by simp[madeCells,T]);rw[e2];by_cases e3:j % 2=0
    ·rw[e3,ye rfl,yd (yB _)];rfl
    ·rw[show j % 2=1 by omega,yd oae];rfl
 ·unfold kdF;rw[yd (yB _)]
theorem ZN(A:RA)(R:Rl)(n:Int)(w:Wd)(hR:bI R=0)(hW:aU w A R):yO 139 #[rlV A R,.int .i64 n] w (rA w R n):=by
 obtain⟨wf,hl,_,_⟩:=gI hR;by_cases hn:0<=n/\n<=8;rotate_left
 ·have DW:Hid (∀ V,Calls _ _ _ _ _):=fun V=>gU n 0 8 V;rw[yH hn] at DW;have HE:Hid (dN R n=2):=Yd hn;dsimp only[rlV];clear hn;generalize R.s.length=r0 at *;generalize R.hs.length=r1 at *;generalize R.i.length=r2 at *;generalize R.t.length=r3 at *
  go_enter func139,ntmps139
  go_wp2_with (go_at_call 66;refine(DW _).mono ?_;rintro e w3 ⟨rfl,b1⟩;subst b1)
  exact yz (v:=.tuple #[.agg #[.slice none 0 0],.int .i64 2]) (by simp[results,results139,go_sem]) rfl (rA.no HE.out oae (aM _ _ _))
 ·obtain⟨m,rfl⟩:∃ m:Nat,n=m:=⟨n.toNat,oaa⟩;have h8:m<=8:=oaa
  have DW:Hid (∀ V,Calls _ _ _ _ _):=fun V=>gU (m:Int) 0 8 V;rw[yI hn] at DW;have hq:IntKind.i64.wrap (1+(m:Int))=((m+1:Nat):Int):=by rw[yK];omega
  have b4:=WR (m+1) oaa;have e1:((m+1:Nat):Int)=(m:Int)+1:=oaa
  rw[e1] at b4 hq;clear e1;have d8:=QA m oaa;obtain⟨a0,a1,a2,a3,c0,c1,c2,c3⟩:=A;have HW:Hid (aU w ⟨a0,a1,a2,a3,c0,c1,c2,c3⟩ R):=hW;have HL:Hid (R.hs.length=16):=hl;have b8:Hid (WF R.s):=wf;dsimp only[rlV];rw[hl];clear hn hR hW wf hl;obtain⟨r0,a8⟩:∃ n,R.s.length=n:=⟨_,rfl⟩;have b3:Hid (R.s.length=r0):=a8;rw[a8];obtain⟨r2,a9⟩:∃ n,R.i.length=n:=⟨_,rfl⟩;have b6:Hid (R.i.length=r2):=a9;rw[a9];obtain⟨r3,b0⟩:∃ n,R.t.length=n:=⟨_,rfl⟩;have b7:Hid (R.t.length=r3):=b0;rw[b0];clear a8 a9 b0
  go_enter func139,ntmps139
  go_upto_region 4 with (go_at_call 66;refine(DW _).mono ?_;rintro e w3 ⟨rfl,b1⟩;subst b1)
  obtain⟨T,F⟩:∃ T,((w.alloc (.cells #[.slice a0 r0 c0,.slice a1 16 c1,.slice a2 r2 c2,.slice a3 r3 c3] 50)).alloc (.cells #[.slice none 0 0] 47)).alloc (.cells (madeCells #[.int .i64 0,.slice none 0 0] ((m+1)*2)) 55)=T:=⟨_,rfl⟩;have SZ:Hid (T.heap.size=w.heap.size+1+1+1):=by show _=_;rw[<- F];simp
  have RG:Hid (T.rowIs (w.heap.size+1+1) 55 ((m+1)*2) (fun j=>(madeCells #[.int .i64 0,.slice none 0 0] ((m+1)*2))[j]!)):=by
   rw[<- F];have h:=World.rowIs_alloc ((w.alloc (.cells #[.slice a0 r0 c0,.slice a1 16 c1,.slice a2 r2 c2,.slice a3 r3 c3] 50)).alloc (.cells #[.slice none 0 0] 47)) (madeCells #[.int .i64 0,.slice none 0 0] ((m+1)*2)) 55 (fun j=>(madeCells #[.int .i64 0,.slice none 0 0] ((m+1)*2))[j]!) (fun i hi=>by simp[hi]);rw[size_madeCells,yw,yw] at h;exact h
  have XR:Hid (T.heap[w.heap.size]?=some (.cells #[.slice a0 r0 c0,.slice a1 16 c1,.slice a2 r2 c2,.slice a3 r3 c3] 50 (0,0))):=by rw[<- F];exact aH (aH (mJ _ _ _ _ _ _) (aB _ _)) (aB _ _)
  have XZ:Hid (T.heap[w.heap.size+1]?=some (.cells #[.slice none 0 0] 47 (0,0))):=by
   rw[<- F];have h:=yN (w.alloc (.cells #[.slice a0 r0 c0,.slice a1 16 c1,.slice a2 r2 c2,.slice a3 r3 c3] 50)) (.cells #[.slice none 0 0] 47);rw[yw] at h;exact aH h (aB _ _)
  have B3:Hid (Bl w T):=by rw[<- F];exact(aM _ _ _).alloc oab _
  rw[F];clear F;have g0:=RG.cell (i:=0) oaa;have g1:=RG.cell (i:=1) oaa;have gf:=fun o=>RG.frozen o;have gl:w.heap.size+1+1<T.heap.size:=RG.lt
  go_upto_region 5 with fail
  obtain⟨V4,a7⟩:∃ V4,((T.setCell ⟨w.heap.size+1+1,0,none⟩ (.int .i64 (m:Int))).setCell ⟨w.heap.size+1+1,1,none⟩ (.slice (some ⟨T.heap.size,0,none⟩) m m)).alloc (.cells (madeCells #[.int .i64 0] m) 3)=V4:=⟨_,rfl⟩;have I0:Hid (MkI w ⟨a0,a1,a2,a3,c0,c1,c2,c3⟩ R m 0 V4):=Yh (by rw[b3.out,HL.out,b6.out,b7.out];exact XR.out) XZ.out SZ.out B3.out RG.out a7.symm;rw[a7,SZ.out];clear a7 g0 g1 gf gl XR XZ B3 RG SZ T DW
  go_wp2_with fail
  go_loopg [24] m (fun q s24 wr=>∃ k:Nat,k<=m/\m-k<=q/\s24=.int .i64 k/\Hid (MkI w ⟨a0,a1,a2,a3,c0,c1,c2,c3⟩ R m k wr))
  case atStart=>exact⟨0,oaa,oaa,rfl,I0⟩
  case round =>
   obtain⟨k,hk,hg,rfl,O⟩:=hrel;clear I0;by_cases a5:k<m
   ·have d7:(k:Int)<(m:Int):=oaa;have d6:(k:Int)<16:=oaa;have hw:=HW.below O.bel;obtain⟨hb,ho,rfl,u0,u1,ul⟩:=O.read a5 HL.out h8 hw.2.1;have D:Hid (∀ V,Bl wr V->Calls _ _ _ _ _):=fun V hV=>vK R.s (hd R (k:Int)).1 (hd R (k:Int)).2 a0 c0 V b8.out (hw.1.below hV);have KO:Hid (∀ V,Bl wr V->aP R.s (hd R (k:Int)).1 (hd R (k:Int)).2=0->MkI w ⟨a0,some ⟨hb,ho,none⟩,a2,a3,c0,c1,c2,c3⟩ R m (k+1) _):=fun V hV h=>(O.below hV).step a5 h;have KN:Hid (aP R.s (hd R (k:Int)).1 (hd R (k:Int)).2≠0->dN R m=aP R.s (hd R (k:Int)).1 (hd R (k:Int)).2):=fun h=>Yf h8 a5 O.ok h;clear hw;generalize hd R (k:Int)=hh at *;obtain⟨P,U⟩:=hh;dsimp only at u0 u1 D KO KN;obtain⟨E,hE⟩:∃ E,aP R.s P U=E:=⟨_,rfl⟩;rw[hE] at D KO KN;clear hE;obtain⟨l0,l1,l2,l3,lf,ll⟩:=aV O.r;dsimp only at l0 l1 l2 l3;rw[b3.out] at D l0;rw[HL.out] at l1;have s1:w.heap.size+1+1+1<wr.heap.size:=O.h.lt;have s0:w.heap.size<wr.heap.size:=ll
    go_upto_region 8 with fail
    have n1:¬ wr.heap.size=w.heap.size:=oaa;have d4:¬ w.heap.size=wr.heap.size:=oaa;have n2:¬ wr.heap.size=hb:=oaa;have d5:¬ hb=wr.heap.size:=oaa
    go_cut [8,9,24] from 24 to 57 (fun s8 s9 s24 wx=>∃ (b:Nat) (mm pp:Int),s8=.pointer (some ⟨b,0,none⟩)/\s9=.int .i64 E/\s24=.int .i64 k/\Hid (Bl wr wx)/\wx.cell? ⟨b,3,none⟩=some (.int .i64 mm)/\wx.cell? ⟨b,4,none⟩=some (.int .i64 pp)/\wr.heap.size<=b/\Hid (E=0->mm=(nd R.s P.toNat).m/\pp=(nd R.s P.toNat).p))
    case first =>
     go_region_held3 (fun a6=>a6.cell? ⟨w.heap.size,0,none⟩=some (.slice a0 r0 c0)/\a6.cell? ⟨w.heap.size,1,none⟩=some (.slice (some ⟨hb,ho,none⟩) 16 c1)/\a6.cell? ⟨hb,ho+k*2,none⟩=some (.int .i64 P)/\a6.cell? ⟨hb,ho+k*2+1,none⟩=some (.int .i64 U)) (go_keep) (first|(go_at_call 14;refine yj (D wr.drew (yv _ _).drew) ?_;rintro e w5 ⟨nx,ka,kl,kc,rfl,I,Z,b2⟩;have M:Hid (Bl wr w5):=(yv _ _).drew.trans I;have HX:Hid _:=Z;have b9:=aA l0 M;have c6:=aA l1 M;have c7:=aA u0 M;have c8:=aA u1 M;clear I Z b2)|(go_at_call 14;refine yj (D (wr.alloc (.cells #[.bool false,.int .i64 0,.int .i64 0,.int .i64 0,.int .i64 0,.slice none 0 0,.int .i64 0,.bool false] 57)).drew (aB wr _).drew) ?_;rintro e w5 ⟨nx,ka,kl,kc,rfl,I,Z,b2⟩;have M:Hid (Bl wr w5):=(aB wr _).drew.trans (I.mono oac);have HX:Hid _:=Z;have b9:=aA l0 M;have c6:=aA l1 M;have c7:=aA u0 M;have c8:=aA u1 M;have X3:Hid (w5.heap[wr.heap.size]?=some (.cells #[.bool false,.int .i64 0,.int .i64 0,.int .i64 0,.int .i64 0,.slice none 0 0,.int .i64 0,.bool false] 57 (0,0))):=aH (W:=(wr.alloc (.cells #[.bool false,.int .i64 0,.int .i64 0,.int .i64 0,.int .i64 0,.slice none 0 0,.int .i64 0,.bool false] 57)).drew) (yN wr _) I;obtain⟨x0,x1,x2,x3,x4,x5,x6,x7,xf,xl⟩:=vW X3.out;clear I Z b2))
     ·go_wp2_with fail
      go_meet
      case rel =>
       have r:=zP nx (.slice ka kl kc) 57 (yv wr.heap.size wr) M.out;exact⟨_,_,_,rfl,rfl,rfl,r.1,r.2.1,r.2.2.1,r.2.2.2,fun h=>by rw[HX.out h];exact⟨rfl,rfl⟩⟩
     ·go_wp2_with fail
      go_meet
      case rel =>
       have r:=zQ nx (.slice ka kl kc) (yv wr.heap.size wr) M.out X3.out;exact⟨_,_,_,rfl,rfl,rfl,r.1,r.2.1,r.2.2.1,r.2.2.2,fun h=>by rw[HX.out h];exact⟨rfl,rfl⟩⟩
    case rest =>
     obtain⟨b,mm,pp,rfl,rfl,rfl,HB,hm,c9,e2,HM⟩:=hcut;have J:Hid _:=O.below HB;have bl:b<wc.heap.size:=yi _ _ hm;clear l0 l1 l2 l3 lf ll u0 u1 ul D n1 d4 n2 d5 c9;by_cases hE:E=0
     ·subst hE;obtain⟨rfl,_⟩:=HM.out rfl;have KS:Hid _:=KO.out wc HB.out rfl;have g1:=J.g.cell (i:=1) oaa;have g2:=J.g.cell (i:=(k+1)*2) oaa;have g3:=J.g.cell (i:=(k+1)*2+1) oaa;have gf:=fun o=>J.g.frozen o;have gl:=J.g.lt;have h1:=J.h.cell (i:=k) a5;have hf:=fun o=>J.h.frozen o;have hl:=J.h.lt;have e1:mkF R m (w.heap.size+1+1+1) k 1=.slice (some ⟨w.heap.size+1+1+1,0,none⟩) m m:=rfl;rw[e1] at g1;generalize mkF R m (w.heap.size+1+1+1) k ((k+1)*2)=v2 at g2;generalize mkF R m (w.heap.size+1+1+1) k ((k+1)*2+1)=v3 at g3;generalize kdF k k=v1 at h1;clear e1;have e5:¬ b=w.heap.size+1+1:=oaa;have e6:¬ b=w.heap.size+1+1+1:=oaa;have d9:¬ w.heap.size+1+1=b:=oaa;have e0:¬ w.heap.size+1+1+1=b:=oaa;have e3:((k:Int)+1)<((m:Int)+1):=oaa;have e4:IntKind.i64.wrap ((k:Int)+1)=(k:Int)+1:=by rw[yK];omega
      go_wp2_with fail
      go_roundg (m-(k+1))
      case measure=>omega
      case rel=>exact⟨k+1,oaa,oaa,by go_num,KS⟩
     ·have hz:(E == 0)=false:=(by simp[hE]);have b5:Hid _:=KN.out hE;obtain⟨z0,zf,zl⟩:wc.cell? ⟨w.heap.size+1,0,none⟩=some (.slice none 0 0)/\(∀ o,wc.frozen? ⟨w.heap.size+1,o,none⟩=false)/\w.heap.size+1<wc.heap.size:=⟨cZ J.z,fun o=>iB J.z,aR J.z⟩
      go_wp2
      exact yz (v:=.tuple #[.agg #[.slice none 0 0],.int .i64 E]) (by simp[results,results139,go_sem,z0]) rfl (rA.no b5.out hE (J.bel.setCell oac _))
   ·obtain rfl:k=m:=oaa
    obtain⟨z0,zf,zl⟩:wr.cell? ⟨w.heap.size+1,0,none⟩=some (.slice none 0 0)/\(∀ o,wr.frozen? ⟨w.heap.size+1,o,none⟩=false)/\w.heap.size+1<wr.heap.size:=⟨cZ O.z,fun o=>iB O.z,aR O.z⟩
    go_wp2
    exact yz (v:=.tuple #[.agg #[.slice (some ⟨w.heap.size+1+1,0,none⟩) (k+1) (k+1)],.int .i64 0]) (by simp[results,results139,go_sem,z0]) rfl (rA.ok h8 O.out)
theorem ZO{a b c:Int}:aQ [a,b,c]=if a=0 then (if b=0 then c else b) else a:=by
 show (if a=0 then (if b=0 then (if c=0 then 0 else c) else b) else a)=_;by_cases h:c=0
 ·rw[ye h,h]
 ·rw[yd h]
theorem oD.no{M:W0}{d me:Nat}{W:Wl}{E F:Int}{L:List Pt}{s:SD}{V D:Wd}(I:SW M d me W s D)(hb:Bl V D)(J:E=F)(O:F≠0):oD M d me W W E L s.g1 V (.returned (.tuple #[.slice none 0 0,.int .i64 F])) D :=
 ⟨none,0,[],s,by rw[J];rfl,aC.of_below hb,fun h=>absurd (J.symm.trans h) O,fun _=>I⟩
theorem Yi(me:Nat)(W:Wl)(x:Ac):PBy 121 me W x W (aQ [if bits .and .i64 (kN W me) 2=0 then 7 else 0,dN (rlm W me) x.a,iU W.pt (many W) x.n me (aL W me) (bO (rlm W me) x.a.toNat)]) (lD W.pt x.n (bO (rlm W me) x.a.toNat)):=fun w0 d s V I=>by
 rw[ZO];obtain⟨xk,T,xb,xc,xn⟩:=x;have II:Hid (SW w0 d me W s V):=I;have c6:=I.lt;have d4:Hid _:=c6;obtain⟨l0,l1,l2,l3,l4,lf,ll⟩:=bH I.box;have g0:d<V.heap.size:=ll;have n8:W.fs.length<=8:=I.rt.fs.few;have e4:me<W.fs.length:=I.sf;clear c6;dsimp only;have b5:∀ V2,Bl V V2->∀ b,SX w0.heap.size d s b->b<V2.heap.size:=fun V2 hV b hb=>yC (d4 b hb) hV.size;have a8:=I.big;obtain⟨fb,fo,ea,fm,_,fl⟩:=I.fcell I.sf;rw[ea] at l0;clear ea;have e0:kN W me=(fr W.fs me).m:=rfl;rw[e0];obtain⟨mm,b7⟩:∃ t,(fr W.fs me).m=t:=⟨_,rfl⟩;rw[b7] at fm |-;clear b7 e0;obtain⟨k0,k1,k2,k3,kf,kl⟩:=I.rcells I.sf;have D:Hid (∀ V2,Bl V V2->Calls _ _ _ _ _):=fun V2 hV=>ZN (s.R me) (rlm W me) T V2 (I.rt.rs me I.sf) ((I.rat I.sf).below hV)
 have DP:Hid (∀ V2 ga gc G,G=bO (rlm W me) T.toNat->dN (rlm W me) T=0->Bl V V2->aO V2 ga G->Calls _ _ _ _ _):=fun V2 ga gc G hG hE hV hc=>Sd (SX w0.heap.size d s) s.a4 s.c4 W.pt (many W) xn me (aL W me) ga gc G V2 (b5 V2 hV) a8.1 a8.2 I.dp.pc (I.dp.pt.off (aC.of_below hV)) (by
  obtain⟨m,rfl,h8,hf⟩:=LF hE;rw[hG,yk,sI];omega) (by
  obtain⟨m,rfl,h8,hf⟩:=LF hE;rw[hG,yk];exact(uR (pE.2 (VF h8 hf))).2) hc
 have EP:Hid (iU W.pt (many W) xn me (aL W me) (bO (rlm W me) T.toNat)=0->uY W.pt (many W) xn me (aL W me) (bO (rlm W me) T.toNat)=lD W.pt xn (bO (rlm W me) T.toNat)):=fun h=>ye h;dsimp only[rlV] at D;show yO _ #[.pointer (some ⟨d,0,none⟩),.int .i64 (me:Int),.int .i64 (aL W me),.agg #[.int .i64 xk,.int .i64 T,.int .i64 xb,.int .i64 xc,.int .i64 xn]] V _;obtain⟨n,hn⟩:∃ n,W.fs.length=n:=⟨_,rfl⟩;have HN:Hid (W.fs.length=n):=hn;obtain⟨nt,b1⟩:∃ n,W.pt.length=n:=⟨_,rfl⟩;have c9:Hid (W.pt.length=nt):=b1;rw[b1] at l4 DP;rw[hn] at l0 l1 l2 l3 n8 e4;rw[show many W=(n:Int) from by rw[<- hn];rfl] at DP EP |-;have MG:Hid (dN (rlm W me) T=0->mkG (rlm W me) T=bO (rlm W me) T.toNat):=fun h=>ye h;generalize (rlm W me).s.length=r0 at *;generalize (rlm W me).hs.length=r1 at *;generalize (rlm W me).i.length=r2 at *;generalize (rlm W me).t.length=r3 at *;clear hn b1 I b5 a8;have e6:(me:Int)<(n:Int):=oaa
 generalize aL W me=tn at *;generalize lD W.pt xn (bO (rlm W me) T.toNat)=LL at EP |-;obtain⟨bb,e3⟩:∃ b,bits .and .i64 mm 2=b:=⟨_,rfl⟩;rw[e3];obtain⟨E1,a9⟩:∃ E,dN (rlm W me) T=E:=⟨_,rfl⟩;have b2:Hid (dN (rlm W me) T=E1):=a9;rw[a9] at DP MG |-;clear a9;obtain⟨F,hF⟩:∃ F:Int,(if (if bb=0 then (7:Int) else 0)=0 then (if E1=0 then iU W.pt n xn me tn (bO (rlm W me) T.toNat) else E1) else (if bb=0 then 7 else 0))=F:=⟨_,rfl⟩;have HF:Hid (_=F):=hF;rw[hF];clear hF
 go_enter func121,ntmps121
 go_upto_region 1 with fail
 obtain⟨J,b4,Z,y0,y1,y2,y3,y4,sV⟩:=lU V xk T xb xc xn;rw[b4];clear b4;replace l0:=aA l0 Z;replace l1:=aA l1 Z;replace l2:=aA l2 Z;replace l3:=aA l3 Z;replace l4:=aA l4 Z;replace fm:=aA fm Z;replace k0:=aA k0 Z;replace k1:=aA k1 Z;replace k2:=aA k2 Z;replace k3:=aA k3 Z;have g4:fb<J.heap.size:=oaa
 have I1:Hid _:=II.below Z;by_cases b0:bb=0
 ·subst b0;rw[show (if (0:Int)=0 then (7:Int) else 0)=7 from rfl,yd oae] at HF
  go_wp2
  exact yz (v:=.tuple #[.slice none 0 0,.int .i64 7]) (by simp[results,results121,go_sem]) rfl (oD.no I1.out Z.out HF.symm oae)
 ·have e9:(bb == 0)=false:=by simp[b0]
  rw[show (if bb=0 then (7:Int) else 0)=0 from yd b0,ye rfl] at HF
  go_upto_region 3 with fail
  have n0:¬ J.heap.size=d:=oaa
  have o0:¬ d=J.heap.size:=oaa
  have n1:¬ J.heap.size=s.g1:=oaa
  have o1:¬ s.g1=J.heap.size:=oaa
  have n2:¬ J.heap.size=V.heap.size:=oaa
  have o2:¬ V.heap.size=J.heap.size:=oaa
  have g5:d<J.heap.size:=oaa
  have g6:s.g1<J.heap.size:=oaa
  obtain⟨GG,b3⟩:∃ G,mkG (rlm W me) T=G:=⟨_,rfl⟩;have a7:Hid (mkG (rlm W me) T=GG):=b3;clear b3
  go_cut [10,11] (fun s10 s11 wx=>∃ (b:Nat) (ga:OA) (gc:Nat),s10=.pointer (some ⟨b,0,none⟩)/\s11=.int .i64 E1/\Hid (Bl J wx)/\Hid (wx.heap[b]?=some (.cells #[.slice ga GG.length gc] 47 (0,0)))/\J.heap.size<=b/\Hid (aO wx ga GG))
  case first =>
   go_region_held3 (fun O=>O.cell? ⟨d,1,none⟩=some (.slice (some ⟨s.g1,0,none⟩) n n)/\O.cell? ⟨s.g1,me*4,none⟩=some (.slice (s.R me).a0 r0 (s.R me).c0)/\O.cell? ⟨s.g1,me*4+1,none⟩=some (.slice (s.R me).a1 r1 (s.R me).c1)/\O.cell? ⟨s.g1,me*4+2,none⟩=some (.slice (s.R me).a2 r2 (s.R me).c2)/\O.cell? ⟨s.g1,me*4+3,none⟩=some (.slice (s.R me).a3 r3 (s.R me).c3)/\O.cell? ⟨V.heap.size,1,none⟩=some (.int .i64 T)) (go_keep) (first|(go_at_call 139;refine yj (D J.drew Z.drew) ?_;rintro e w3 ⟨ga,gc,rfl,a6,a5⟩;rw[a7.out,b2.out];rw[a7.out] at a5;have U:Hid (Bl J w3):=(yv _ _).drew.trans a6;have C3:Hid (St (fun b=>b<J.heap.size) (fun V=>aO V ga GG) w3):=a5;have e1:=aA l1 U;have d6:=aA k0 U;have d7:=aA k1 U;have d8:=aA k2 U;have d9:=aA k3 U;have e2:=aA y1 U;clear a6 a5)|(go_at_call 139;refine yj (D (J.alloc (.cells #[.slice none 0 0] 47)).drew (Z.trans ((aB J _).mono Z.size)).drew) ?_;rintro e w3 ⟨ga,gc,rfl,a6,a5⟩;rw[a7.out,b2.out];rw[a7.out] at a5;have U:Hid (Bl J w3):=(aB J _).drew.trans (a6.mono oac);have C3:Hid (St (fun b=>b<J.heap.size+1) (fun V=>aO V ga GG) w3):=(by have h:=a5;simp only[yw,World.size_drew] at h;exact h);have e1:=aA l1 U;have d6:=aA k0 U;have d7:=aA k1 U;have d8:=aA k2 U;have d9:=aA k3 U;have e2:=aA y1 U;have X3:Hid (w3.heap[J.heap.size]?=some (.cells #[.slice none 0 0] 47 (0,0))):=aH (W:=(J.alloc (.cells #[.slice none 0 0] 47)).drew) (yN J _) a6;have x0:=cZ X3.out;have xf:=iB (o:=0) X3.out;have xl:J.heap.size<w3.heap.size:=aR X3.out;clear a6 a5))
   ·go_wp2_with fail
    go_meet
    case rel=>exact⟨_,ga,gc,rfl,rfl,U.trans ((aB _ _).mono U.size),yN _ _,U.size,C3.at.below (aB _ _)⟩
   ·go_wp2_with fail
    go_meet
    case rel=>exact⟨_,ga,gc,rfl,rfl,U.setCell (yr _) _,wN X3.out,yr _,C3.out _ (aC.set _ _ (Nat.lt_succ_self _))⟩
  case rest =>
   obtain⟨b,ga,gc,rfl,rfl,HB,HX,e8,HC⟩:=hcut;have BW:Hid (Bl V wc):=Z.trans (HB.mono Z.size);have I2:Hid _:=II.below BW;clear l0 l1 l2 l3 l4 k0 k1 k2 k3 D fm;by_cases hE:E1=0
   ·subst hE;rw[ye rfl] at HF;have eG:GG=bO (rlm W me) T.toNat:=a7.symm.trans (MG rfl);have e7:Hid _:=eG;have DQ:Hid (∀ V2,Bl wc V2->Calls _ _ _ _ _):=fun V2 hV=>DP.out V2 ga gc GG eG rfl (BW.trans (hV.mono BW.size)) (HC.below hV);rw[<- eG] at HF EP;obtain⟨c7,g7,g8,g9,c8,h2,h3⟩:=bH I2.box;rw[HN.out] at c7;rw[c9.out] at c8;have x0:=cZ HX.out;have e5:=aA y4 HB;have bl:b<wc.heap.size:=aR HX.out;obtain⟨M,hM⟩:∃ M,uY W.pt n xn me tn GG=M:=⟨_,rfl⟩;have HM:Hid _:=hM;rw[hM] at DQ EP;clear hM eG DP;generalize iU W.pt n xn me tn GG=E2 at *;obtain rfl:=HF.out;generalize GG.length=gl at *
    go_wp2_with fail
    go_region_held3 (fun O=>O.cell? ⟨d,0,none⟩=some (.slice s.a0 n s.c0)/\O.cell? ⟨d,4,none⟩=some (.slice s.a4 nt s.c4)/\O.cell? ⟨V.heap.size,4,none⟩=some (.int .i64 xn)/\O.cell? ⟨b,0,none⟩=some (.slice ga gl gc)) (go_keep) (first|(go_at_call 145;refine yj (DQ wc.drew (yv _ _).drew) ?_;rintro e w5 ⟨va,vc,rfl,b6,b9,b8⟩;have B5:Hid (Bl wc w5):=(yv _ _).drew.trans b6;have j0:=aA c7 B5;have j4:=aA c8 B5;have jy:=aA e5 B5;have jx:=aA x0 B5;have d5:Hid _:=b9;have HP:Hid _:=b8;clear b6 b9 b8))
    have BY:Hid (Bl V w5):=BW.trans (B5.mono BW.size)
    go_wp2
    exact yz (v:=.tuple #[.slice va M.length vc,.int .i64 E2]) (by simp[results,results121,go_sem]) rfl (oD.mk (II.below BY) BY.out EP.out HP.out d5.out)
   ·rw[yd hE] at HF;have hz:(E1 == 0)=false:=by simp[hE]
    go_wp2
    exact yz (v:=.tuple #[.slice none 0 0,.int .i64 E1]) (by simp[results,results121,go_sem]) rfl (oD.no I2.out BW.out HF.symm hE)
theorem OH(m:Ml)(r:List Ml)(G:Nat->Option Addr × Nat):iL (m :: r) G=[Value.int .i64 m.f,.slice (G 0).1 m.g.length (G 0).2] ++ iL r (fun j=>G (j+1)):=by
 unfold iL;rw[List.length_cons,List.range_succ_eq_map,List.flatMap_cons,List.flatMap_map];rfl
theorem Yr{W:Wl}(H:aI W){k:Nat}(D:k<W.fs.length):aI { W with qs:=W.qs.set k ((que W k).drop 1) }:=by
 obtain⟨I,F⟩:=nA.1 (H.qs k D);exact aI.queue (q:=(que W k).drop 1) H D (nA.2 ⟨by rw[List.length_drop];omega,fun m E=>F m (List.mem_of_mem_drop E)⟩)
theorem SW.no_row3{J:W0}{d me:Nat}{W:Wl}{s:SD}{V:Wd}(I:SW J d me W s V){b o:Nat}{v:Value}(h:V.cell? ⟨b,o,none⟩=some v)(hv:∀ a n c,v≠.slice a n c):¬ s.g3=b:=fun e=>by
 subst e;obtain⟨c,hc,hl,F⟩:=I.r3;simp only[World.cell?,hc] at h
 have D:o<W.fs.length:=by
  rcases Nat.lt_or_ge o W.fs.length with E|E
  ·exact E
  ·rw[Array.getElem?_eq_none oaa] at h;cases h
 rw[F o D] at h;cases h;exact hv _ _ _ rfl
theorem SW.take{J:W0}{d me:Nat}{W:Wl}{s:SD}{V:Wd}(I:SW J d me W s V)(hq:s.q me=none)(hl:(que W me).length≠0) :
  ∃ b o,s.Q me=(some ⟨b,o,none⟩,(que W me).length)/\¬ s.g3=b/\V.cell? ⟨b,o+1,none⟩=some (.slice (s.G me 0).1 ((que W me).getD 0 ⟨0,[]⟩).g.length (s.G me 0).2)/\St (SX J.heap.size d s) (fun V=>aO V (s.G me 0).1 ((que W me).getD 0 ⟨0,[]⟩).g) V /\
   ∀ E M,SW J d me W s E->(M=some ⟨b,o+2,none⟩\/((que W me).length=1/\∀ D,M=some D->∃ b o,D=⟨b,o,none⟩)) ->
    ∃ U,SW J d me { W with qs:=W.qs.set me ((que W me).drop 1) } U (E.setCell ⟨s.g3,me,none⟩ (.slice M ((que W me).length-1) ((que W me).length-1)))/\U.g1=s.g1/\U.R=s.R/\∀ b,SX J.heap.size d U b->SX J.heap.size d s b:=by
 have HR:=Yr I.rt I.sf;have hg:=fun E (h:SW J d me W s E)=>h.dp.qg me I.sf;have hA:=fun E (h:SW J d me W s E)=>(h.dp.qs me I.sf).2
 have key:∀ E,SW J d me W s E->(s.Q me).2=(que W me).length/\(((s.Q me).1=none->(que W me).length=0)/\∀ D,(s.Q me).1=some D->∃ b o,D=⟨b,o,none⟩)/\St (SX J.heap.size d s) (fun V=>∀ D,(s.Q me).1=some D->∀ j u,(iL (que W me) (s.G me))[j]?=some u->V.cell? (D.add j)=some u) E:=fun E h=>by
  rcases hA E h with ⟨_,O,h3,h4⟩ |⟨b,h1,_⟩
  ·exact⟨O,h3,h4⟩
  ·rw[hq] at h1;cases h1
 obtain⟨k1,k2,k3⟩:=key V I
 obtain⟨D,F⟩:∃ D,(s.Q me).1=some D:=by
  cases h:(s.Q me).1 with
  | none=>exact absurd (k2.1 h) hl
  | some D=>exact⟨D,rfl⟩
 obtain⟨b,o,rfl⟩:=k2.2 D F
 obtain⟨m,r,Z⟩:∃ m r,que W me=m :: r:=by
  cases h:que W me with
  | nil=>rw[h] at hl;exact absurd rfl hl
  | cons m r=>exact⟨m,r,rfl⟩
 rw[Z] at hg key k1 k3 HR |-;refine⟨b,o,Prod.ext F k1,I.no_row3 (k3.at _ F 0 (.int .i64 m.f) (by rw[OH];rfl)) (fun _ _ _ h=>oah),?_,hg V I 0 oac,fun E M O T=>?_⟩
 ·have:=k3.at _ F 1 (.slice (s.G me 0).1 m.g.length (s.G me 0).2) (by rw[OH];rfl);exact this
 ·have hs:=O.queue (k:=me) (c:=r.length) (a:=M) (q:=r) (G:=fun j=>s.G me (j+1)) I.sf ?_ ?_ rfl (fun j hj=>hg E O (j+1) oab) HR
  ·refine⟨_,hs,rfl,rfl,fun b hb=>?_⟩;rcases hb with h|h|h|h|h|h |⟨i,h⟩
   ·exact .inl h
   ·exact .inr (.inl h)
   ·exact .inr (.inr (.inl h))
   ·exact .inr (.inr (.inr (.inl h)))
   ·exact .inr (.inr (.inr (.inr (.inl h))))
   ·exact .inr (.inr (.inr (.inr (.inr (.inl h)))))
   ·refine .inr (.inr (.inr (.inr (.inr (.inr ⟨i,?_⟩)))));dsimp only at h
    split at h
    ·cases h
    ·exact h
  ·intro V3 ho D hd j u hu;rcases T with rfl |⟨hr,_⟩
   ·cases hd;have:=(key E O).2.2 V3 ho _ F (j+2) u (by rw[OH,List.getElem?_append_right oac];exact hu)
    have e:(⟨b,o,none⟩:Addr).add (j+2)=(⟨b,o+2,none⟩:Addr).add j:=by
     have e1:o+(j+2)=o+2+j:=oaa
     first|(show (⟨b,o+(j+2),none⟩:Addr)=⟨b,o+2+j,none⟩;rw[e1])|(unfold Addr.add;simp[e1])
    rw[<- e];exact this
   ·have:r=[]:=by
     cases r with
     | nil=>rfl
     | cons _ _=>simp at hr
    subst this;simp[iL] at hu
  ·rcases T with rfl |⟨hr,hs⟩
   ·exact⟨(fun h=>oah),fun D h=>by cases h;exact⟨_,_,rfl⟩⟩
   ·exact⟨fun _=>by simpa using hr,hs⟩
variable {H:Type} {enc:TypeId × Value->H} {w:Wd} {base:Nat} {spare:Nat->Bool} {held:Bool}
theorem ztA:prog.cellsOf 3=1:=oad
theorem OT:prog.cellsOf 55=2:=oad
theorem Ah:prog.cellsOf 47=1:=oad
theorem Ai{fuel:Nat}{I:List Value}{x:DataW H × List MemPlace}(h:DataW.trod enc prog w base spare held fuel 48 I=some x) :
  ∃ ka kc,∃ ks:List Int,I=[.slice ka ks.length kc]/\ks.length<=kc/\kc<=9223372036854775807/\aG w ka ks:=by
 rcases open_ints underlying48 underlying3 ztA h with ⟨rfl,_⟩ |⟨a,len,cap,F,rfl,_,hl,M,O,_,D,_⟩
 ·exact⟨none,0,[],rfl,oac,oaa,fun i hi=>absurd hi (yB _)⟩
 ·have J:len<=F.length:=by rw[O];split <;> omega
  have E:(F.take len).length=len:=by rw[List.length_take];omega
  refine⟨some a,cap,F.take len,by rw[E],by rw[E];exact hl,by unfold maxLen at M;omega,fun i hi=>?_⟩;rw[E] at hi;obtain⟨b,off,rfl,hc⟩:=ints_at D oaa;refine⟨b,off,rfl,?_⟩;rw[hc i oaa,aJ F 0 oaa,aJ (F.take len) 0 oaa,List.getElem_take]
theorem zva{fuel b o:Nat}{D:List Value}{x:DataW H × List MemPlace}(h:DataW.trod enc prog w base spare held fuel 55 D=some x)(hc:∀ j,j<2->w.cell? ⟨b,o+j,none⟩=D[j]?) :
  ∃ y:Cl,uN w b o y/\y.ks.length<=9223372036854775807:=by
 obtain⟨xs,n,_,_,hl,E,F⟩:=DataW.trod_struct underlying55 h;rw[OT] at hl
 match D,hl with
 | [a0,a1],_ =>
  match xs,E with
  | [x0,x1],_ =>
   have M:=F 0 _ rfl;have g1:=F 1 _ rfl;obtain⟨Z,I,_⟩:=DataW.trod_int underlying3 M;obtain⟨ka,kc,ks,J,T,U,O⟩:=Ai g1
   cases I;cases J
   exact⟨⟨Z,ks⟩,⟨hc 0 oaa,ka,kc,hc 1 oaa,O⟩,by show ks.length<=_;omega⟩
theorem zxC(len:Nat)(P:Nat->Cl->Prop)(h:∀ i,i<len->∃ x,P i x):∃ S:List Cl,S.length=len/\∀ i,i<len->P i (cl S i):=by
 induction len with
 | zero=>exact⟨[],rfl,fun i hi=>absurd hi (yB _)⟩
 | succ n I =>
  obtain⟨S,hl,E⟩:=I (fun i hi=>h i oaa);obtain⟨x,F⟩:=h n oaa;refine⟨S++[x],by simp[hl],fun i hi=>?_⟩;by_cases e:i=n
  ·subst e;rw[kC (by simp[hl])];simpa [hl] using F
  ·have D:i<S.length:=oaa;have:=E i oaa;rw[kC D] at this;rw[kC oab,List.getElem_append_left D];exact this
theorem OU{fuel:Nat}{cs:List Value}{x:DataW H × List MemPlace}(h:DataW.trod enc prog w base spare held fuel 45 cs=some x) :
  ∃ a c,∃ S:List Cl,cs=[.slice a S.length c]/\S.length<=9223372036854775807/\fK S/\aO w a S:=by
 rcases Go.Deep.open_slice underlying45 h with ⟨rfl,_⟩ |⟨a,len,cap,m,n,D,Pl,rfl,_,hl,hm,Z,_,hx⟩
 ·exact⟨none,0,[],rfl,oac,fun i hi=>absurd hi (yB _),fun i hi=>absurd hi (yB _)⟩
 ·have a6:len<=m:=by rw[Z];split <;> omega
  obtain⟨M,O,J⟩:=a;by_cases h0:len=0
  ·subst h0;exact⟨_,cap,[],rfl,oac,fun i hi=>absurd hi (yB _),fun i hi=>absurd hi (yB _)⟩
  ·have a5:J=none:=by
    obtain⟨T,hc,ht⟩:=hx 0 oaa;rw[OT] at hc;obtain⟨_,U,E⟩:=World.cells?_some hc;have h1:=E 0 oaa;rw[List.getElem?_eq_getElem oaa] at h1;simpa [Addr.add] using World.cell?_spot h1
   subst a5
   obtain⟨S,F,I⟩:=zxC len (fun i x=>uN w M (O+i*2) x/\x.ks.length<=9223372036854775807) (fun i hi=>by
    obtain⟨T,hc,ht⟩:=hx i oaa;rw[OT] at hc;obtain⟨_,U,E⟩:=World.cells?_some hc;refine zva ht (fun j hj=>?_);have h1:=E j hj
    rwa [add_plain,add_plain] at h1)
   exact⟨some ⟨M,O,none⟩,cap,S,by rw[F],by rw[F];unfold maxLen at hm;omega,fun i hi=>(I i oaa).2,fun i hi=>⟨M,O,rfl,(I i oaa).1⟩⟩
