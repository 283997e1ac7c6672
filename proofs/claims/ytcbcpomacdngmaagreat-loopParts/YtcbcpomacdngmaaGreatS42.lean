/-
  x
-/
import Derived.Test.YtcbcpomacdngmaaGreatS41
namespace Go.Proofs.YtcbcpomacdngmaaGreat
set_option maxRecDepth 100000
set_option maxHeartbeats 4000000
set_option linter.unusedVariables false
open Go.RowKit Go.ChangeShapes Go.WideShapes
theorem zAl{w E:World}{R:Rl}{m:Nat}(hg:E.rowIs (w.heap.size+1+1) 55 ((m+1)*2) (mkF R m (w.heap.size+1+1+1) m))(hh:E.rowIs (w.heap.size+1+1+1) 3 m (kdF m)):zaI E (some ⟨w.heap.size+1+1,0,none⟩) (zbg R m):=fun i hi=>by
 rw[zcG] at hi;refine⟨w.heap.size+1+1,0,rfl,?_⟩;rw[yB]
 match i,hi with
 | 0,_ =>
  rw[ziI];refine⟨?_,some ⟨w.heap.size+1+1+1,0,none⟩,m,?_,fun j F=>?_⟩
  ·rw[hg.cell (by omega)];rfl
  ·rw[hg.cell (by omega)];show some (Value.slice _ m m)=some (.slice _ (List.map _ (List.range m)).length m);rw[List.length_map,List.length_range]
  ·have D:j<m:=(by simpa using F);refine⟨_,0,rfl,?_⟩;rw[yB,hh.cell D];unfold kdF;rw[yb D];simp[List.getD_eq_getElem?_getD,D]
 | i+1,hi =>
  rw[ziJ (by omega)];refine⟨?_,none,0,?_,fun j F=>absurd F (yx _)⟩
  ·rw[hg.cell (by omega)];unfold mkF;rw[ya (by omega),ya (by omega),yb (by omega),show (i+1)*2 / 2-1=i by omega,yb (by omega)]
  ·rw[hg.cell (by omega)];unfold mkF;rw[ya (by omega),ya (by omega),ya (by omega)];rfl
theorem MkI.cls2{w:World}{A:RA}{R:Rl}{m:Nat}{V:World}(I:MkI w A R m m V)(E:World)(D:zaq (fun b=>b=w.heap.size+1) V E):St (fun b=>b<w.heap.size) (fun V=>zaI V (some ⟨w.heap.size+1+1,0,none⟩) (zbg R m)) E:=fun O F=>by
 have J:=I.g.lt;have M:=I.h.lt;exact zAl (I.g.of_block ((F.block _ (yz J D.size) (by show ¬ w.heap.size+1+1<w.heap.size;omega)).trans (D.block _ J (by show ¬ w.heap.size+1+1=w.heap.size+1;omega)))) (I.h.of_block ((F.block _ (yz M D.size) (by show ¬ w.heap.size+1+1+1<w.heap.size;omega)).trans (D.block _ M (by show ¬ w.heap.size+1+1+1=w.heap.size+1;omega))))
def zia(w:World)(R:Rl)(n:Int)(e:Ending)(V:World):Prop:=∃ (ga:Option Addr) (gc:Nat),e=.returned (.tuple #[.agg #[.slice ga (mkG R n).length gc],.int .i64 (zbu R n)])/\Below w.heap.size w V/\St (fun b=>b<w.heap.size) (fun V=>zaI V ga (mkG R n)) V
theorem zia.no{w V:World}{R:Rl}{n E:Int}(h:zbu R n=E)(D:E≠0)(F:Below w.heap.size w V):zia w R n (.returned (.tuple #[.agg #[.slice none 0 0],.int .i64 E])) V:=by
 have e:mkG R n=[]:=ya (by rw[h];exact D);refine⟨none,0,by rw[e,h];rfl,F,?_⟩;rw[e];exact fun I _ i hi=>absurd hi (yx _)
theorem zia.ok{w V:World}{R:Rl}{m:Nat}{A:RA}(D:m<=8)(I:MkI w A R m m V):zia w R m (.returned (.tuple #[.agg #[.slice (some ⟨w.heap.size+1+1,0,none⟩) (m+1) (m+1)],.int .i64 0])) (V.setCell ⟨w.heap.size+1,0,none⟩ (.slice (some ⟨w.heap.size+1+1,0,none⟩) (m+1) (m+1))):=by
 have h:=ztI D I.ok;have e:mkG R m=zbg R m:=by unfold mkG;rw[yb h,yi]
 refine⟨_,m+1,by rw[e,h,zcG],I.bel.setCell (by simp) _,?_⟩;rw[e];exact I.cls2 _ (zaq.set (X:=fun b=>b=w.heap.size+1) V _ rfl)
theorem MkI.read{w:World}{A:RA}{R:Rl}{m k:Nat}{V:World}(I:MkI w A R m k V)(M:k<m)(E:R.hs.length=16)(J:m<=8)(hh:zas V A.a1 R.hs):∃ b o,A.a1=some ⟨b,o,none⟩/\V.cell? ⟨b,o+k*2,none⟩=some (.int .i64 (hd R k).1)/\V.cell? ⟨b,o+k*2+1,none⟩=some (.int .i64 (hd R k).2)/\b<V.heap.size:=by
 obtain⟨b,o,e,h1,F⟩:=hh k (by omega);have D:hd R (k:Int)=R.hs.getD k (0,0):=by unfold hd;rw[yi]
 rw[D];exact⟨b,o,e,h1,F,yd _ _ h1⟩
theorem zwJ{w D O:World}{A:RA}{R:Rl}{m:Nat}(xr:D.heap[w.heap.size]?=some (.cells #[.slice A.a0 R.s.length A.c0,.slice A.a1 R.hs.length A.c1,.slice A.a2 R.i.length A.c2,.slice A.a3 R.t.length A.c3] 50 (0,0)))(xz:D.heap[w.heap.size+1]?=some (.cells #[.slice none 0 0] 47 (0,0)))(sz:D.heap.size=w.heap.size+1+1+1)(b3:Below w.heap.size w D)(rg:D.rowIs (w.heap.size+1+1) 55 ((m+1)*2) (fun j=>(madeCells #[.int .i64 0,.slice none 0 0] ((m+1)*2))[j]!))
  (h4:O=((D.setCell ⟨w.heap.size+1+1,0,none⟩ (.int .i64 (m:Int))).setCell ⟨w.heap.size+1+1,1,none⟩ (.slice (some ⟨D.heap.size,0,none⟩) m m)).alloc (.cells (madeCells #[.int .i64 0] m) 3)):MkI w A R m 0 O:=by
 subst h4;obtain⟨V,M⟩:∃ V,(D.setCell ⟨w.heap.size+1+1,0,none⟩ (.int .i64 (m:Int))).setCell ⟨w.heap.size+1+1,1,none⟩ (.slice (some ⟨D.heap.size,0,none⟩) m m)=V:=⟨_,rfl⟩;have hs:V.heap.size=w.heap.size+1+1+1:=by rw[<- M];simpa using sz
 have T:∀ b,b≠w.heap.size+1+1->V.heap[b]?=D.heap[b]?:=fun b h=>by rw[<- M,yv _ _ _ _ h,yv _ _ _ _ h]
 have E:=(rg.set 0 (.int .i64 (m:Int))).set 1 (.slice (some ⟨D.heap.size,0,none⟩) m m);rw[M] at E |-;have F:=zaa V (.cells (madeCells #[.int .i64 0] m) 3);have Z:=World.rowIs_made V (.int .i64 0) m 3;rw[hs] at Z;refine⟨?_,zaA ((T _ (by omega)).trans xr) F,zaA ((T _ (by omega)).trans xz) F,yE (E.of_block (F.block _ E.lt)) (fun j U=>?_),yE Z (fun j U=>?_),fun i hi=>absurd hi (yx _)⟩
 ·refine Below.trans ?_ (F.mono (by omega));rw[<- M];exact(b3.setCell (by simp;omega) _).setCell (by simp;omega) _
 ·unfold mkF;by_cases J:j=1
  ·rw[yb J,ya (by omega),yb J,sz]
  ·rw[ya J];by_cases I:j=0
   ·rw[yb I,yb I]
   ·rw[ya I,ya I,ya J];have e2:(madeCells #[Value.int .i64 0,.slice none 0 0] ((m+1)*2))[j]! =(#[Value.int .i64 0,.slice none 0 0]:Array Value)[j % 2]!:=(by simp[madeCells,U]);rw[e2];by_cases e3:j % 2=0
    ·rw[e3,yb rfl,ya (yx _)];rfl
    ·rw[show j % 2=1 by omega,ya (by decide)];rfl
 ·unfold kdF;rw[ya (yx _)]
theorem znf(A:RA)(R:Rl)(n:Int)(w:World)(hR:zaF R=0)(hW:zcZ w A R):yM 139 #[rlV A R,.int .i64 n] w (zia w R n):=by
 obtain⟨wf,hl,_,_⟩:=zaB hR;by_cases hn:0<=n/\n<=8;rotate_left
 ·have DW:Hid (∀ V,Calls _ _ _ _ _):=fun V=>zaR n 0 8 V;rw[yF hn] at DW;have HE:Hid (zbu R n=2):=ztJ hn;dsimp only[rlV];clear hn;generalize R.s.length=r0 at *;generalize R.hs.length=r1 at *;generalize R.i.length=r2 at *;generalize R.t.length=r3 at *
  go_enter Tryz.func139,Tryz.ntmps139
  go_wp2_with (go_at_call 66;refine(DW.out _).mono ?_;rintro e w3 ⟨rfl,b1⟩;subst b1)
  exact yw (v:=.tuple #[.agg #[.slice none 0 0],.int .i64 2]) (by simp[results,Tryz.results139,go_sem]) rfl (zia.no HE.out (by decide) (zaf _ _ _))
 ·obtain⟨m,rfl⟩:∃ m:Nat,n=m:=⟨n.toNat,by omega⟩;have h8:m<=8:=by omega
  have DW:Hid (∀ V,Calls _ _ _ _ _):=fun V=>zaR (m:Int) 0 8 V;rw[yG hn] at DW;have hq:IntKind.i64.wrap (1+(m:Int))=((m+1:Nat):Int):=by rw[yI];omega
  have b4:=zxF (m+1) (by omega);have e1:((m+1:Nat):Int)=(m:Int)+1:=by omega
  rw[e1] at b4 hq;clear e1;have d8:=znd m (by omega);obtain⟨a0,a1,a2,a3,c0,c1,c2,c3⟩:=A;have HW:Hid (zcZ w ⟨a0,a1,a2,a3,c0,c1,c2,c3⟩ R):=hW;have HL:Hid (R.hs.length=16):=hl;have b8:Hid (WF R.s):=wf;dsimp only[rlV];rw[hl];clear hn hR hW wf hl;obtain⟨r0,a8⟩:∃ n,R.s.length=n:=⟨_,rfl⟩;have b3:Hid (R.s.length=r0):=a8;rw[a8];obtain⟨r2,a9⟩:∃ n,R.i.length=n:=⟨_,rfl⟩;have b6:Hid (R.i.length=r2):=a9;rw[a9];obtain⟨r3,b0⟩:∃ n,R.t.length=n:=⟨_,rfl⟩;have b7:Hid (R.t.length=r3):=b0;rw[b0];clear a8 a9 b0
  go_enter Tryz.func139,Tryz.ntmps139
  go_upto_region 4 with (go_at_call 66;refine(DW.out _).mono ?_;rintro e w3 ⟨rfl,b1⟩;subst b1)
  obtain⟨T,F⟩:∃ T,((w.alloc (.cells #[.slice a0 r0 c0,.slice a1 16 c1,.slice a2 r2 c2,.slice a3 r3 c3] 50)).alloc (.cells #[.slice none 0 0] 47)).alloc (.cells (madeCells #[.int .i64 0,.slice none 0 0] ((m+1)*2)) 55)=T:=⟨_,rfl⟩;have SZ:Hid (T.heap.size=w.heap.size+1+1+1):=by show _=_;rw[<- F];simp
  have RG:Hid (T.rowIs (w.heap.size+1+1) 55 ((m+1)*2) (fun j=>(madeCells #[.int .i64 0,.slice none 0 0] ((m+1)*2))[j]!)):=by
   rw[<- F];have h:=World.rowIs_alloc ((w.alloc (.cells #[.slice a0 r0 c0,.slice a1 16 c1,.slice a2 r2 c2,.slice a3 r3 c3] 50)).alloc (.cells #[.slice none 0 0] 47)) (madeCells #[.int .i64 0,.slice none 0 0] ((m+1)*2)) 55 (fun j=>(madeCells #[.int .i64 0,.slice none 0 0] ((m+1)*2))[j]!) (fun i hi=>by simp[hi]);rw[size_madeCells,yr,yr] at h;exact h
  have XR:Hid (T.heap[w.heap.size]?=some (.cells #[.slice a0 r0 c0,.slice a1 16 c1,.slice a2 r2 c2,.slice a3 r3 c3] 50 (0,0))):=by rw[<- F];exact zaA (zaA (zcc _ _ _ _ _ _) (zaa _ _)) (zaa _ _)
  have XZ:Hid (T.heap[w.heap.size+1]?=some (.cells #[.slice none 0 0] 47 (0,0))):=by
   rw[<- F];have h:=yL (w.alloc (.cells #[.slice a0 r0 c0,.slice a1 16 c1,.slice a2 r2 c2,.slice a3 r3 c3] 50)) (.cells #[.slice none 0 0] 47);rw[yr] at h;exact zaA h (zaa _ _)
  have B3:Hid (Below w.heap.size w T):=by rw[<- F];exact(zaf _ _ _).alloc (by simp;omega) _
  rw[F];clear F;have g0:=RG.out.cell (i:=0) (by omega);have g1:=RG.out.cell (i:=1) (by omega);have gf:=fun o=>RG.out.frozen o;have gl:w.heap.size+1+1<T.heap.size:=RG.out.lt
  go_upto_region 5 with fail
  obtain⟨V4,a7⟩:∃ V4,((T.setCell ⟨w.heap.size+1+1,0,none⟩ (.int .i64 (m:Int))).setCell ⟨w.heap.size+1+1,1,none⟩ (.slice (some ⟨T.heap.size,0,none⟩) m m)).alloc (.cells (madeCells #[.int .i64 0] m) 3)=V4:=⟨_,rfl⟩;have I0:Hid (MkI w ⟨a0,a1,a2,a3,c0,c1,c2,c3⟩ R m 0 V4):=zwJ (by rw[b3.out,HL.out,b6.out,b7.out];exact XR.out) XZ.out SZ.out B3.out RG.out a7.symm;rw[a7,SZ.out];clear a7 g0 g1 gf gl XR XZ B3 RG SZ T DW
  go_wp2_with fail
  go_loopg [24] m (fun q s24 wr=>∃ k:Nat,k<=m/\m-k<=q/\s24=.int .i64 k/\Hid (MkI w ⟨a0,a1,a2,a3,c0,c1,c2,c3⟩ R m k wr))
  case atStart=>exact⟨0,by omega,by omega,rfl,I0⟩
  case round =>
   obtain⟨k,hk,hg,rfl,O⟩:=hrel;clear I0;by_cases a5:k<m
   ·have d7:(k:Int)<(m:Int):=(by omega);have d6:(k:Int)<16:=(by omega);have hw:=HW.out.below O.out.bel;obtain⟨hb,ho,rfl,u0,u1,ul⟩:=O.out.read a5 HL.out h8 hw.2.1;have D:Hid (∀ V,Below wr.heap.size wr V->Calls _ _ _ _ _):=fun V hV=>zfJ R.s (hd R (k:Int)).1 (hd R (k:Int)).2 a0 c0 V b8.out (hw.1.below hV);have KO:Hid (∀ V,Below wr.heap.size wr V->zaG R.s (hd R (k:Int)).1 (hd R (k:Int)).2=0->MkI w ⟨a0,some ⟨hb,ho,none⟩,a2,a3,c0,c1,c2,c3⟩ R m (k+1) _):=fun V hV h=>(O.out.below hV).step a5 h;have KN:Hid (zaG R.s (hd R (k:Int)).1 (hd R (k:Int)).2≠0->zbu R m=zaG R.s (hd R (k:Int)).1 (hd R (k:Int)).2):=fun h=>zwG h8 a5 O.out.ok h;clear hw;generalize hd R (k:Int)=hh at *;obtain⟨P,U⟩:=hh;dsimp only at u0 u1 D KO KN;obtain⟨E,hE⟩:∃ E,zaG R.s P U=E:=⟨_,rfl⟩;rw[hE] at D KO KN;clear hE;obtain⟨l0,l1,l2,l3,lf,ll⟩:=zak O.out.r;dsimp only at l0 l1 l2 l3;rw[b3.out] at D l0;rw[HL.out] at l1;have s1:w.heap.size+1+1+1<wr.heap.size:=O.out.h.lt;have s0:w.heap.size<wr.heap.size:=ll
    go_upto_region 8 with fail
    have n1:¬ wr.heap.size=w.heap.size:=(by omega);have d4:¬ w.heap.size=wr.heap.size:=(by omega);have n2:¬ wr.heap.size=hb:=(by omega);have d5:¬ hb=wr.heap.size:=by omega
    go_cut [8,9,24] from 24 to 57 (fun s8 s9 s24 wx=>∃ (b:Nat) (mm pp:Int),s8=.pointer (some ⟨b,0,none⟩)/\s9=.int .i64 E/\s24=.int .i64 k/\Hid (Below wr.heap.size wr wx)/\wx.cell? ⟨b,3,none⟩=some (.int .i64 mm)/\wx.cell? ⟨b,4,none⟩=some (.int .i64 pp)/\wr.heap.size<=b/\Hid (E=0->mm=(nd R.s P.toNat).m/\pp=(nd R.s P.toNat).p))
    case first =>
     go_region_held3 (fun a6=>a6.cell? ⟨w.heap.size,0,none⟩=some (.slice a0 r0 c0)/\a6.cell? ⟨w.heap.size,1,none⟩=some (.slice (some ⟨hb,ho,none⟩) 16 c1)/\a6.cell? ⟨hb,ho+k*2,none⟩=some (.int .i64 P)/\a6.cell? ⟨hb,ho+k*2+1,none⟩=some (.int .i64 U)) (go_keep) (first|(go_at_call 14;refine ye (D.out wr.drew (yk _ _).drew) ?_;rintro e w5 ⟨nx,ka,kl,kc,rfl,I,Z,b2⟩;have M:Hid (Below wr.heap.size wr w5):=(yk _ _).drew.trans I;have HX:Hid _:=Z;have b9:=zab l0 M.out;have c6:=zab l1 M.out;have c7:=zab u0 M.out;have c8:=zab u1 M.out;clear I Z b2)|(go_at_call 14;refine ye (D.out (wr.alloc (.cells #[.bool false,.int .i64 0,.int .i64 0,.int .i64 0,.int .i64 0,.slice none 0 0,.int .i64 0,.bool false] 57)).drew (zaa wr _).drew) ?_;rintro e w5 ⟨nx,ka,kl,kc,rfl,I,Z,b2⟩;have M:Hid (Below wr.heap.size wr w5):=(zaa wr _).drew.trans (I.mono (by simp));have HX:Hid _:=Z;have b9:=zab l0 M.out;have c6:=zab l1 M.out;have c7:=zab u0 M.out;have c8:=zab u1 M.out;have X3:Hid (w5.heap[wr.heap.size]?=some (.cells #[.bool false,.int .i64 0,.int .i64 0,.int .i64 0,.int .i64 0,.slice none 0 0,.int .i64 0,.bool false] 57 (0,0))):=zaA (W:=(wr.alloc (.cells #[.bool false,.int .i64 0,.int .i64 0,.int .i64 0,.int .i64 0,.slice none 0 0,.int .i64 0,.bool false] 57)).drew) (yL wr _) I;obtain⟨x0,x1,x2,x3,x4,x5,x6,x7,xf,xl⟩:=zdi X3.out;clear I Z b2))
     ·go_wp2_with fail
      go_meet
      case rel =>
       have r:=zuC nx (.slice ka kl kc) 57 (yk wr.heap.size wr) M.out;exact⟨_,_,_,rfl,rfl,rfl,r.1,r.2.1,r.2.2.1,r.2.2.2,fun h=>by rw[HX.out h];exact⟨rfl,rfl⟩⟩
     ·go_wp2_with fail
      go_meet
      case rel =>
       have r:=zuD nx (.slice ka kl kc) (yk wr.heap.size wr) M.out X3.out;exact⟨_,_,_,rfl,rfl,rfl,r.1,r.2.1,r.2.2.1,r.2.2.2,fun h=>by rw[HX.out h];exact⟨rfl,rfl⟩⟩
    case rest =>
     obtain⟨b,mm,pp,rfl,rfl,rfl,HB,hm,c9,e2,HM⟩:=hcut;have J:Hid _:=O.out.below HB.out;have bl:b<wc.heap.size:=yd _ _ hm;clear l0 l1 l2 l3 lf ll u0 u1 ul D n1 d4 n2 d5 c9;by_cases hE:E=0
     ·subst hE;obtain⟨rfl,_⟩:=HM.out rfl;have KS:Hid _:=KO.out wc HB.out rfl;have g1:=J.out.g.cell (i:=1) (by omega);have g2:=J.out.g.cell (i:=(k+1)*2) (by omega);have g3:=J.out.g.cell (i:=(k+1)*2+1) (by omega);have gf:=fun o=>J.out.g.frozen o;have gl:=J.out.g.lt;have h1:=J.out.h.cell (i:=k) a5;have hf:=fun o=>J.out.h.frozen o;have hl:=J.out.h.lt;have e1:mkF R m (w.heap.size+1+1+1) k 1=.slice (some ⟨w.heap.size+1+1+1,0,none⟩) m m:=rfl;rw[e1] at g1;generalize mkF R m (w.heap.size+1+1+1) k ((k+1)*2)=v2 at g2;generalize mkF R m (w.heap.size+1+1+1) k ((k+1)*2+1)=v3 at g3;generalize kdF k k=v1 at h1;clear e1;have e5:¬ b=w.heap.size+1+1:=(by omega);have e6:¬ b=w.heap.size+1+1+1:=(by omega);have d9:¬ w.heap.size+1+1=b:=(by omega);have e0:¬ w.heap.size+1+1+1=b:=(by omega);have e3:((k:Int)+1)<((m:Int)+1):=(by omega);have e4:IntKind.i64.wrap ((k:Int)+1)=(k:Int)+1:=by rw[yI];omega
      go_wp2_with fail
      go_roundg (m-(k+1))
      case measure=>omega
      case rel=>exact⟨k+1,by omega,by omega,by go_num,KS⟩
     ·have hz:(E == 0)=false:=(by simp[hE]);have b5:Hid _:=KN.out hE;obtain⟨z0,zf,zl⟩:wc.cell? ⟨w.heap.size+1,0,none⟩=some (.slice none 0 0)/\(∀ o,wc.frozen? ⟨w.heap.size+1,o,none⟩=false)/\w.heap.size+1<wc.heap.size:=⟨zaJ J.out.z,fun o=>zaW J.out.z,zaw J.out.z⟩
      go_wp2
      exact yw (v:=.tuple #[.agg #[.slice none 0 0],.int .i64 E]) (by simp[results,Tryz.results139,go_sem,z0]) rfl (zia.no b5.out hE (J.out.bel.setCell (by simp) _))
   ·obtain rfl:k=m:=by omega
    obtain⟨z0,zf,zl⟩:wr.cell? ⟨w.heap.size+1,0,none⟩=some (.slice none 0 0)/\(∀ o,wr.frozen? ⟨w.heap.size+1,o,none⟩=false)/\w.heap.size+1<wr.heap.size:=⟨zaJ O.out.z,fun o=>zaW O.out.z,zaw O.out.z⟩
    go_wp2
    exact yw (v:=.tuple #[.agg #[.slice (some ⟨w.heap.size+1+1,0,none⟩) (k+1) (k+1)],.int .i64 0]) (by simp[results,Tryz.results139,go_sem,z0]) rfl (zia.ok h8 O.out)
theorem zxz{a b c:Int}:zan [a,b,c]=if a=0 then (if b=0 then c else b) else a:=by
 show (if a=0 then (if b=0 then (if c=0 then 0 else c) else b) else a)=_;by_cases h:c=0
 ·rw[yb h,h]
 ·rw[ya h]
theorem zjZ.no{M:W0}{d me:Nat}{W:Wl}{E F:Int}{L:List Pt}{s:SD}{V D:World}(I:SW M d me W s D)(T:Below V.heap.size V D)(J:E=F)(O:F≠0):zjZ M d me W W E L s.g1 V (.returned (.tuple #[.slice none 0 0,.int .i64 F])) D :=
 ⟨none,0,[],s,by rw[J];rfl,zaq.of_below T,fun h=>absurd (J.symm.trans h) O,fun _=>I⟩
theorem zyU(me:Nat)(W:Wl)(x:Ac):PBy 121 me W x W (zan [if bits .and .i64 (zjo W me) 2=0 then 7 else 0,zbu (rlm W me) x.a,zhP W.pt (many W) x.n me (zaD W me) (zbg (rlm W me) x.a.toNat)]) (zix W.pt x.n (zbg (rlm W me) x.a.toNat)):=fun w0 d s V I=>by
 rw[zxz];obtain⟨xk,T,xb,xc,xn⟩:=x;have II:Hid (SW w0 d me W s V):=I;have c6:=I.lt;have d4:Hid _:=c6;obtain⟨l0,l1,l2,l3,l4,lf,ll⟩:=zal I.box;have g0:d<V.heap.size:=ll;have n8:W.fs.length<=8:=I.rt.fs.few;have e4:me<W.fs.length:=I.sf;clear c6;dsimp only;have b5:∀ V2,Below V.heap.size V V2->∀ b,SX w0.heap.size d s b->b<V2.heap.size:=fun V2 hV b hb=>yz (d4.out b hb) hV.size;have a8:=I.big;obtain⟨fb,fo,ea,fm,_,fl⟩:=I.fcell I.sf;rw[ea] at l0;clear ea;have e0:zjo W me=(fr W.fs me).m:=rfl;rw[e0];obtain⟨mm,b7⟩:∃ t,(fr W.fs me).m=t:=⟨_,rfl⟩;rw[b7] at fm |-;clear b7 e0;obtain⟨k0,k1,k2,k3,kf,kl⟩:=I.rcells I.sf;have D:Hid (∀ V2,Below V.heap.size V V2->Calls _ _ _ _ _):=fun V2 hV=>znf (s.R me) (rlm W me) T V2 (I.rt.rs me I.sf) ((I.rat I.sf).below hV)
 have DP:Hid (∀ V2 ga gc G,G=zbg (rlm W me) T.toNat->zbu (rlm W me) T=0->Below V.heap.size V V2->zaI V2 ga G->Calls _ _ _ _ _):=fun V2 ga gc G hG hE hV hc=>zuw (SX w0.heap.size d s) s.a4 s.c4 W.pt (many W) xn me (zaD W me) ga gc G V2 (b5 V2 hV) a8.1 a8.2 I.dp.pc (I.dp.pt.off (zaq.of_below hV)) (by
  obtain⟨m,rfl,h8,hf⟩:=zgw hE;rw[hG,yi,zcG];omega) (by
  obtain⟨m,rfl,h8,hf⟩:=zgw hE;rw[hG,yi];exact(zdj (zbF.2 (zjn h8 hf))).2) hc
 have EP:Hid (zhP W.pt (many W) xn me (zaD W me) (zbg (rlm W me) T.toNat)=0->zhT W.pt (many W) xn me (zaD W me) (zbg (rlm W me) T.toNat)=zix W.pt xn (zbg (rlm W me) T.toNat)):=fun h=>yb h;dsimp only[rlV] at D;show yM _ #[.pointer (some ⟨d,0,none⟩),.int .i64 (me:Int),.int .i64 (zaD W me),.agg #[.int .i64 xk,.int .i64 T,.int .i64 xb,.int .i64 xc,.int .i64 xn]] V _;obtain⟨n,hn⟩:∃ n,W.fs.length=n:=⟨_,rfl⟩;have HN:Hid (W.fs.length=n):=hn;obtain⟨nt,b1⟩:∃ n,W.pt.length=n:=⟨_,rfl⟩;have c9:Hid (W.pt.length=nt):=b1;rw[b1] at l4 DP;rw[hn] at l0 l1 l2 l3 n8 e4;rw[show many W=(n:Int) from by rw[<- hn];rfl] at DP EP |-;have MG:Hid (zbu (rlm W me) T=0->mkG (rlm W me) T=zbg (rlm W me) T.toNat):=fun h=>yb h;generalize (rlm W me).s.length=r0 at *;generalize (rlm W me).hs.length=r1 at *;generalize (rlm W me).i.length=r2 at *;generalize (rlm W me).t.length=r3 at *;clear hn b1 I b5 a8;have e6:(me:Int)<(n:Int):=by omega
 generalize zaD W me=tn at *;generalize zix W.pt xn (zbg (rlm W me) T.toNat)=LL at EP |-;obtain⟨bb,e3⟩:∃ b,bits .and .i64 mm 2=b:=⟨_,rfl⟩;rw[e3];obtain⟨E1,a9⟩:∃ E,zbu (rlm W me) T=E:=⟨_,rfl⟩;have b2:Hid (zbu (rlm W me) T=E1):=a9;rw[a9] at DP MG |-;clear a9;obtain⟨F,hF⟩:∃ F:Int,(if (if bb=0 then (7:Int) else 0)=0 then (if E1=0 then zhP W.pt n xn me tn (zbg (rlm W me) T.toNat) else E1) else (if bb=0 then 7 else 0))=F:=⟨_,rfl⟩;have HF:Hid (_=F):=hF;rw[hF];clear hF
 go_enter Tryz.func121,Tryz.ntmps121
 go_upto_region 1 with fail
 obtain⟨J,b4,Z,y0,y1,y2,y3,y4,sV⟩:=zcz V xk T xb xc xn;rw[b4];clear b4;replace l0:=zab l0 Z.out;replace l1:=zab l1 Z.out;replace l2:=zab l2 Z.out;replace l3:=zab l3 Z.out;replace l4:=zab l4 Z.out;replace fm:=zab fm Z.out;replace k0:=zab k0 Z.out;replace k1:=zab k1 Z.out;replace k2:=zab k2 Z.out;replace k3:=zab k3 Z.out;have g4:fb<J.heap.size:=by omega
 have I1:Hid _:=II.out.below Z.out;by_cases b0:bb=0
 ·subst b0;rw[show (if (0:Int)=0 then (7:Int) else 0)=7 from rfl,ya (by decide)] at HF
  go_wp2
  exact yw (v:=.tuple #[.slice none 0 0,.int .i64 7]) (by simp[results,Tryz.results121,go_sem]) rfl (zjZ.no I1.out Z.out HF.out.symm (by decide))
 ·have e9:(bb == 0)=false:=by simp[b0]
  rw[show (if bb=0 then (7:Int) else 0)=0 from ya b0,yb rfl] at HF
  go_upto_region 3 with fail
  have n0:¬ J.heap.size=d:=by omega
  have o0:¬ d=J.heap.size:=by omega
  have n1:¬ J.heap.size=s.g1:=by omega
  have o1:¬ s.g1=J.heap.size:=by omega
  have n2:¬ J.heap.size=V.heap.size:=by omega
  have o2:¬ V.heap.size=J.heap.size:=by omega
  have g5:d<J.heap.size:=by omega
  have g6:s.g1<J.heap.size:=by omega
  obtain⟨GG,b3⟩:∃ G,mkG (rlm W me) T=G:=⟨_,rfl⟩;have a7:Hid (mkG (rlm W me) T=GG):=b3;clear b3
  go_cut [10,11] (fun s10 s11 wx=>∃ (b:Nat) (ga:Option Addr) (gc:Nat),s10=.pointer (some ⟨b,0,none⟩)/\s11=.int .i64 E1/\Hid (Below J.heap.size J wx)/\Hid (wx.heap[b]?=some (.cells #[.slice ga GG.length gc] 47 (0,0)))/\J.heap.size<=b/\Hid (zaI wx ga GG))
  case first =>
   go_region_held3 (fun O=>O.cell? ⟨d,1,none⟩=some (.slice (some ⟨s.g1,0,none⟩) n n)/\O.cell? ⟨s.g1,me*4,none⟩=some (.slice (s.R me).a0 r0 (s.R me).c0)/\O.cell? ⟨s.g1,me*4+1,none⟩=some (.slice (s.R me).a1 r1 (s.R me).c1)/\O.cell? ⟨s.g1,me*4+2,none⟩=some (.slice (s.R me).a2 r2 (s.R me).c2)/\O.cell? ⟨s.g1,me*4+3,none⟩=some (.slice (s.R me).a3 r3 (s.R me).c3)/\O.cell? ⟨V.heap.size,1,none⟩=some (.int .i64 T)) (go_keep) (first|(go_at_call 139;refine ye (D.out J.drew Z.out.drew) ?_;rintro e w3 ⟨ga,gc,rfl,a6,a5⟩;rw[a7.out,b2.out];rw[a7.out] at a5;have U:Hid (Below J.heap.size J w3):=(yk _ _).drew.trans a6;have C3:Hid (St (fun b=>b<J.heap.size) (fun V=>zaI V ga GG) w3):=a5;have e1:=zab l1 U.out;have d6:=zab k0 U.out;have d7:=zab k1 U.out;have d8:=zab k2 U.out;have d9:=zab k3 U.out;have e2:=zab y1 U.out;clear a6 a5)|(go_at_call 139;refine ye (D.out (J.alloc (.cells #[.slice none 0 0] 47)).drew (Z.out.trans ((zaa J _).mono Z.out.size)).drew) ?_;rintro e w3 ⟨ga,gc,rfl,a6,a5⟩;rw[a7.out,b2.out];rw[a7.out] at a5;have U:Hid (Below J.heap.size J w3):=(zaa J _).drew.trans (a6.mono (by simp));have C3:Hid (St (fun b=>b<J.heap.size+1) (fun V=>zaI V ga GG) w3):=(by have h:=a5;simp only[yr,World.size_drew] at h;exact h);have e1:=zab l1 U.out;have d6:=zab k0 U.out;have d7:=zab k1 U.out;have d8:=zab k2 U.out;have d9:=zab k3 U.out;have e2:=zab y1 U.out;have X3:Hid (w3.heap[J.heap.size]?=some (.cells #[.slice none 0 0] 47 (0,0))):=zaA (W:=(J.alloc (.cells #[.slice none 0 0] 47)).drew) (yL J _) a6;have x0:=zaJ X3.out;have xf:=zaW (o:=0) X3.out;have xl:J.heap.size<w3.heap.size:=zaw X3.out;clear a6 a5))
   ·go_wp2_with fail
    go_meet
    case rel=>exact⟨_,ga,gc,rfl,rfl,U.out.trans ((zaa _ _).mono U.out.size),yL _ _,U.out.size,C3.out.at.below (zaa _ _)⟩
   ·go_wp2_with fail
    go_meet
    case rel=>exact⟨_,ga,gc,rfl,rfl,U.out.setCell (yj _) _,ziT X3.out,yj _,C3.out _ (zaq.set _ _ (Nat.lt_succ_self _))⟩
  case rest =>
   obtain⟨b,ga,gc,rfl,rfl,HB,HX,e8,HC⟩:=hcut;have BW:Hid (Below V.heap.size V wc):=Z.out.trans (HB.out.mono Z.out.size);have I2:Hid _:=II.out.below BW.out;clear l0 l1 l2 l3 l4 k0 k1 k2 k3 D fm;by_cases hE:E1=0
   ·subst hE;rw[yb rfl] at HF;have eG:GG=zbg (rlm W me) T.toNat:=a7.out.symm.trans (MG.out rfl);have e7:Hid _:=eG;have DQ:Hid (∀ V2,Below wc.heap.size wc V2->Calls _ _ _ _ _):=fun V2 hV=>DP.out V2 ga gc GG eG rfl (BW.out.trans (hV.mono BW.out.size)) (HC.out.below hV);rw[<- eG] at HF EP;obtain⟨c7,g7,g8,g9,c8,h2,h3⟩:=zal I2.out.box;rw[HN.out] at c7;rw[c9.out] at c8;have x0:=zaJ HX.out;have e5:=zab y4 HB.out;have bl:b<wc.heap.size:=zaw HX.out;obtain⟨M,hM⟩:∃ M,zhT W.pt n xn me tn GG=M:=⟨_,rfl⟩;have HM:Hid _:=hM;rw[hM] at DQ EP;clear hM eG DP;generalize zhP W.pt n xn me tn GG=E2 at *;obtain rfl:=HF.out;generalize GG.length=gl at *
    go_wp2_with fail
    go_region_held3 (fun O=>O.cell? ⟨d,0,none⟩=some (.slice s.a0 n s.c0)/\O.cell? ⟨d,4,none⟩=some (.slice s.a4 nt s.c4)/\O.cell? ⟨V.heap.size,4,none⟩=some (.int .i64 xn)/\O.cell? ⟨b,0,none⟩=some (.slice ga gl gc)) (go_keep) (first|(go_at_call 145;refine ye (DQ.out wc.drew (yk _ _).drew) ?_;rintro e w5 ⟨va,vc,rfl,b6,b9,b8⟩;have B5:Hid (Below wc.heap.size wc w5):=(yk _ _).drew.trans b6;have j0:=zab c7 B5.out;have j4:=zab c8 B5.out;have jy:=zab e5 B5.out;have jx:=zab x0 B5.out;have d5:Hid _:=b9;have HP:Hid _:=b8;clear b6 b9 b8))
    have BY:Hid (Below V.heap.size V w5):=BW.out.trans (B5.out.mono BW.out.size)
    go_wp2
    exact yw (v:=.tuple #[.slice va M.length vc,.int .i64 E2]) (by simp[results,Tryz.results121,go_sem]) rfl (zjZ.mk (II.out.below BY.out) BY.out EP.out HP.out d5.out)
   ·rw[ya hE] at HF;have hz:(E1 == 0)=false:=by simp[hE]
    go_wp2
    exact yw (v:=.tuple #[.slice none 0 0,.int .i64 E1]) (by simp[results,Tryz.results121,go_sem]) rfl (zjZ.no I2.out BW.out HF.out.symm hE)
theorem zgz(m:Ml)(r:List Ml)(G:Nat->Option Addr × Nat):zcR (m :: r) G=[Value.int .i64 m.f,.slice (G 0).1 m.g.length (G 0).2] ++ zcR r (fun j=>G (j+1)):=by
 unfold zcR;rw[List.length_cons,List.range_succ_eq_map,List.flatMap_cons,List.flatMap_map];rfl
theorem zqE{W:Wl}(H:zao W){k:Nat}(D:k<W.fs.length):zao { W with qs:=W.qs.set k ((que W k).drop 1) }:=by
 obtain⟨I,F⟩:=zbJ.1 (H.qs k D);exact zao.queue (q:=(que W k).drop 1) H D (zbJ.2 ⟨by rw[List.length_drop];omega,fun m E=>F m (List.mem_of_mem_drop E)⟩)
theorem SW.no_row3{M:W0}{d me:Nat}{W:Wl}{s:SD}{V:World}(I:SW M d me W s V){b o:Nat}{v:Value}(h:V.cell? ⟨b,o,none⟩=some v)(J:∀ a n c,v≠.slice a n c):¬ s.g3=b:=fun e=>by
 subst e;obtain⟨c,hc,hl,F⟩:=I.r3;simp only[World.cell?,hc] at h
 have D:o<W.fs.length:=by
  rcases Nat.lt_or_ge o W.fs.length with E|E
  ·exact E
  ·rw[Array.getElem?_eq_none (by omega)] at h;cases h
 rw[F o D] at h;cases h;exact J _ _ _ rfl
theorem SW.take{J:W0}{d me:Nat}{W:Wl}{s:SD}{V:World}(I:SW J d me W s V)(hq:s.q me=none)(hl:(que W me).length≠0) :
  ∃ b o,s.Q me=(some ⟨b,o,none⟩,(que W me).length)/\¬ s.g3=b/\V.cell? ⟨b,o+1,none⟩=some (.slice (s.G me 0).1 ((que W me).getD 0 ⟨0,[]⟩).g.length (s.G me 0).2)/\St (SX J.heap.size d s) (fun V=>zaI V (s.G me 0).1 ((que W me).getD 0 ⟨0,[]⟩).g) V /\
   ∀ E M,SW J d me W s E->(M=some ⟨b,o+2,none⟩\/((que W me).length=1/\∀ D,M=some D->∃ b o,D=⟨b,o,none⟩)) ->
    ∃ U,SW J d me { W with qs:=W.qs.set me ((que W me).drop 1) } U (E.setCell ⟨s.g3,me,none⟩ (.slice M ((que W me).length-1) ((que W me).length-1)))/\U.g1=s.g1/\U.R=s.R/\∀ b,SX J.heap.size d U b->SX J.heap.size d s b:=by
 have HR:=zqE I.rt I.sf;have hg:=fun E (h:SW J d me W s E)=>h.dp.qg me I.sf;have hA:=fun E (h:SW J d me W s E)=>(h.dp.qs me I.sf).2
 have key:∀ E,SW J d me W s E->(s.Q me).2=(que W me).length/\(((s.Q me).1=none->(que W me).length=0)/\∀ D,(s.Q me).1=some D->∃ b o,D=⟨b,o,none⟩)/\St (SX J.heap.size d s) (fun V=>∀ D,(s.Q me).1=some D->∀ j u,(zcR (que W me) (s.G me))[j]?=some u->V.cell? (D.add j)=some u) E:=fun E h=>by
  rcases hA E h with ⟨_,O,h3,h4⟩ |⟨b,h1,_⟩
  ·exact⟨O,h3,h4⟩
  ·rw[hq] at h1;cases h1
 obtain⟨k1,k2,k3⟩:=key V I
 obtain⟨D,F⟩:∃ D,(s.Q me).1=some D:=by
  cases h:(s.Q me).1 with
  | none=>exact absurd (k2.1 h) hl
  | some D=>exact⟨D,rfl⟩
 obtain⟨b,o,rfl⟩:=k2.2 D F
 obtain⟨m,r,Z⟩:∃ m r,que W me=m :: r:=by
  cases h:que W me with
  | nil=>rw[h] at hl;exact absurd rfl hl
  | cons m r=>exact⟨m,r,rfl⟩
 rw[Z] at hg key k1 k3 HR |-;refine⟨b,o,Prod.ext F k1,I.no_row3 (k3.at _ F 0 (.int .i64 m.f) (by rw[zgz];rfl)) (fun _ _ _ h=>by cases h),?_,hg V I 0 (by simp),fun E M O T=>?_⟩
 ·have:=k3.at _ F 1 (.slice (s.G me 0).1 m.g.length (s.G me 0).2) (by rw[zgz];rfl);exact this
 ·have hs:=O.queue (k:=me) (c:=r.length) (a:=M) (q:=r) (G:=fun j=>s.G me (j+1)) I.sf ?_ ?_ rfl (fun j hj=>hg E O (j+1) (by simp;omega)) HR
  ·refine⟨_,hs,rfl,rfl,fun b hb=>?_⟩;rcases hb with h|h|h|h|h|h |⟨i,h⟩
   ·exact .inl h
   ·exact .inr (.inl h)
   ·exact .inr (.inr (.inl h))
   ·exact .inr (.inr (.inr (.inl h)))
   ·exact .inr (.inr (.inr (.inr (.inl h))))
   ·exact .inr (.inr (.inr (.inr (.inr (.inl h)))))
   ·refine .inr (.inr (.inr (.inr (.inr (.inr ⟨i,?_⟩)))));dsimp only at h
    split at h
    ·cases h
    ·exact h
  ·intro V3 ho D hd j u hu;rcases T with rfl |⟨hr,_⟩
   ·cases hd;have:=(key E O).2.2 V3 ho _ F (j+2) u (by rw[zgz,List.getElem?_append_right (by simp)];exact hu)
    have e:(⟨b,o,none⟩:Addr).add (j+2)=(⟨b,o+2,none⟩:Addr).add j:=by
     have e1:o+(j+2)=o+2+j:=by omega
     first|(show (⟨b,o+(j+2),none⟩:Addr)=⟨b,o+2+j,none⟩;rw[e1])|(unfold Addr.add;simp[e1])
    rw[<- e];exact this
   ·have:r=[]:=by
     cases r with
     | nil=>rfl
     | cons _ _=>simp at hr
    subst this;simp[zcR] at hu
  ·rcases T with rfl |⟨hr,hs⟩
   ·exact⟨(fun h=>by cases h),fun D h=>by cases h;exact⟨_,_,rfl⟩⟩
   ·exact⟨fun _=>by simpa using hr,hs⟩
theorem zwc{A B:List (Int × Int)}(hl:A.length=B.length)(h:∀ i,i<A.length->A.getD i (0,0)=B.getD i (0,0)):A=B:=by
 refine List.ext_getElem hl fun i h1 D=>?_;have:=h i h1
 rwa [zae _ _ h1,zae _ _ D] at this
theorem zkh(a T:Option Addr)(c c' : Nat)(A B:List (Int × Int))(w:World)(hN:A.length<=9223372036854775807)(h1:zas w a A)(U:zas w T B) :
  yM 49 #[.slice a A.length c,.slice T B.length c'] w fun e w' => ∃ r:Bool,e=.returned (.bool r)/\Below w.heap.size w w' /\(r=true↔A=B):=by
 by_cases hl:A.length=B.length
 ·have E1:Hid ((∀ i,i<A.length->A.getD i (0,0)=B.getD i (0,0))->A=B):=fun h=>zwc hl h;have E2:Hid (∀ i,A.getD i (0,0)≠B.getD i (0,0)->A≠B):=fun i h e=>h (by rw[e]);have H1:Hid (zas w a A):=h1;have H2:Hid (zas w T B):=U;have HL:Hid (B.length=A.length):=hl.symm;rw[<- hl];clear h1 U hl;obtain⟨n,hn⟩:∃ n,A.length=n:=⟨_,rfl⟩;have HN:Hid (A.length=n):=hn;rw[hn] at hN E1 HL |-;clear hn
  go_enter Tryz.func49,Tryz.ntmps49
  go_wp2
  go_loopg [13] n (fun g s13 wr=>∃ k:Nat,k<=n/\n-k<=g/\s13=.int .i64 k/\Below w.heap.size w wr/\Hid (∀ i,i<k->A.getD i (0,0)=B.getD i (0,0)))
  case atStart=>exact⟨0,by omega,by omega,rfl,yk _ _,fun i hi=>by omega⟩
  case round =>
   obtain⟨k,hk,hg,rfl,D,AA⟩:=hrel;by_cases E:k<n
   ·have a5:(k:Int)<(n:Int):=(by omega);obtain⟨b,o,rfl,c0,c1⟩:=(H1.out.below D) k (by rw[HN.out];exact E);obtain⟨b', o', rfl,e0,e1⟩:=(H2.out.below D) k (by rw[HL.out];exact E)
    have KK:Hid (A.getD k (0,0)=B.getD k (0,0)->∀ i,i<k+1->A.getD i (0,0)=B.getD i (0,0)):=fun h i hi=>by
     by_cases e:i=k
     ·subst e;exact h
     ·exact AA.out i (by omega)
    have EE:Hid _:=E2.out k;generalize A.getD k (0,0)=x at *;generalize B.getD k (0,0)=y at *;obtain⟨Z,x1⟩:=x;obtain⟨y0,y1⟩:=y;dsimp only at c0 c1 e0 e1;by_cases I:Z=y0
    ·subst I;by_cases J:x1=y1
     ·subst J
      go_wp2_with fail
      go_quiet (fail)
      go_wp2
      go_roundg (n-(k+1))
      case measure=>omega
      case rel=>exact⟨k+1,by omega,by omega,by go_num,znW D _,KK.out trivial⟩
     ·have q2:(x1 == y1)=false:=beq_eq_false_iff_ne.2 J;have q3:decide (x1=y1)=false:=yF J;have O:Hid (A≠B):=EE.out (fun h=>J (congrArg Prod.snd h))
      go_wp2_with fail
      go_quiet (fail)
      go_wp2
      go_ret;exact⟨false,rfl,znW D _,⟨fun h=>(by cases h),fun h=>absurd h O.out⟩⟩
    ·have q2:(Z == y0)=false:=beq_eq_false_iff_ne.2 I;have q3:decide (Z=y0)=false:=yF I;have O:Hid (A≠B):=EE.out (fun h=>I (congrArg Prod.fst h))
     go_wp2_with fail
     go_quiet (fail)
     go_wp2
     go_ret;exact⟨false,rfl,znW D _,⟨fun h=>(by cases h),fun h=>absurd h O.out⟩⟩
   ·have:k=n:=(by omega);subst this;have Y:Hid (A=B):=E1.out AA.out
    go_wp2
    go_ret;exact⟨true,rfl,D,⟨fun _=>Y.out,fun _=>rfl⟩⟩
 ·have F:A≠B:=fun e=>hl (by rw[e]);have M:Hid (A≠B):=F;have a6:decide ((A.length:Int)=(B.length:Int))=false:=yF (by omega);have a7:((A.length:Int) ==(B.length:Int))=false:=beq_eq_false_iff_ne.2 (by omega);have a8:(A.length == B.length)=false:=beq_eq_false_iff_ne.2 hl;clear h1 U F;generalize A.length=n at *;generalize B.length=m at *
  go_enter Tryz.func49,Tryz.ntmps49
  go_wp2
  go_ret;exact⟨false,rfl,yk _ _,⟨fun h=>(by cases h),fun h=>absurd h M.out⟩⟩
theorem zAs{R Q:Rl}:R=Q↔R.s=Q.s/\R.hs=Q.hs/\R.i=Q.i/\R.t=Q.t:=by
 cases R;cases Q;simp
end Go.Proofs.YtcbcpomacdngmaaGreat
