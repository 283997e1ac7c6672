/-
  x
-/
import Derived.Test.YtcbcpomacdngmaaGreatQ43
namespace Go.Proofs.YtcbcpomacdngmaaGreat
set_option maxRecDepth 100000
set_option maxHeartbeats 4000000
set_option linter.unusedVariables false
open Go.RowKit Go.ChangeShapes Go.WideShapes
theorem zkg.mk{O:W0}{d me:Nat}{W:Wl}{E:Int}{L M:List Pt}{s:SD}{V D:World}{F:Option Addr}{J:Nat}(I:SW O d me W s D)(Z:Below V.heap.size V D)(U:E=0->M=L)(T:zbJ (SX O.heap.size d s) D F M)(hs:SlA F M.length J):zkg O d me W W E L s.g1 V (.returned (.tuple #[.slice F M.length J,.int .i64 E])) D :=
 ⟨F,J,M,s,rfl,zaq.of_below Z,fun h=>by have e:=U h;rw[e] at T hs;exact⟨e,I,T,hs⟩,fun _=>I⟩
theorem zyW(me:Nat)(W:Wl)(x:Ac):PBy 123 me W x W (zaT W.pt (many W) x.n me (zax W me)) (zhX W.pt x.n):=fun w0 d s V I=>by
 obtain⟨xk,xa,xb,xc,T⟩:=x;have II:Hid (SW w0 d me W s V):=I;have b1:=I.lt;have b2:Hid _:=b1;obtain⟨l0,l1,l2,l3,l4,lf,ll⟩:=zak I.box;have c6:d<V.heap.size:=ll;have n8:W.fs.length<=8:=I.rt.fs.few;have b4:me<W.fs.length:=I.sf;clear b1;dsimp only;have a7:∀ Z,Below V.heap.size V Z->∀ b,SX w0.heap.size d s b->b<Z.heap.size:=fun Z hV b hb=>yx (b2.out b hb) hV.size;have O:=I.big;have D:Hid (∀ Z,Below V.heap.size V Z->Calls _ _ _ _ _):=fun Z hV=>zuO (SX w0.heap.size d s) s.a4 s.c4 W.pt (many W) T me (zax W me) Z (a7 Z hV) O.1 O.2 I.dp.pc (I.dp.pt.off (zaq.of_below hV));have EP:Hid (zaT W.pt (many W) T me (zax W me)=0->zeN W.pt (many W) T me (zax W me)=zhX W.pt T):=fun h=>yb h;show Calls Tryz.prog _ #[.pointer (some ⟨d,0,none⟩),.int .i64 (me:Int),.int .i64 (zax W me),.agg #[.int .i64 xk,.int .i64 xa,.int .i64 xb,.int .i64 xc,.int .i64 T]] V _;obtain⟨n,hn⟩:∃ n,W.fs.length=n:=⟨_,rfl⟩;have HN:Hid (W.fs.length=n):=hn;obtain⟨nt,a5⟩:∃ n,W.pt.length=n:=⟨_,rfl⟩;have b6:Hid (W.pt.length=nt):=a5;rw[a5] at l4 D;rw[hn] at l0 l1 l2 l3 n8 b4;rw[show many W=(n:Int) from by rw[<- hn];rfl] at D EP |-;generalize zax W me=tn at *;generalize zaT W.pt n T me tn=E at *;generalize zeN W.pt n T me tn=M at *;generalize zhX W.pt T=L at *;clear hn a5 I a7 O;have b5:(me:Int)<(n:Int):=by omega
 go_enter Tryz.func123,Tryz.ntmps123
 go_upto_region 1 with fail
 obtain⟨J,F⟩:∃ J,V.alloc (.cells #[.int .i64 xk,.int .i64 xa,.int .i64 xb,.int .i64 xc,.int .i64 T] 36)=J:=⟨_,rfl⟩;have U:Hid (Below V.heap.size V J):=by rw[<- F];exact zaa _ _
 have y0:J.cell? ⟨V.heap.size,0,none⟩=some (.int .i64 xk):=by rw[<- F];exact zac _ _ _ 0 rfl
 have y1:J.cell? ⟨V.heap.size,1,none⟩=some (.int .i64 xa):=by rw[<- F];exact zac _ _ _ 1 rfl
 have y2:J.cell? ⟨V.heap.size,2,none⟩=some (.int .i64 xb):=by rw[<- F];exact zac _ _ _ 2 rfl
 have y3:J.cell? ⟨V.heap.size,3,none⟩=some (.int .i64 xc):=by rw[<- F];exact zac _ _ _ 3 rfl
 have y4:J.cell? ⟨V.heap.size,4,none⟩=some (.int .i64 T):=by rw[<- F];exact zac _ _ _ 4 rfl
 have sV:V.heap.size<J.heap.size:=yd _ _ y0;rw[F];clear F;replace l0:=zab l0 U.out;replace l1:=zab l1 U.out;replace l2:=zab l2 U.out;replace l3:=zab l3 U.out;replace l4:=zab l4 U.out
 go_region_held3 (fun a6=>a6.cell? ⟨d,0,none⟩=some (.slice s.a0 n s.c0)/\a6.cell? ⟨d,4,none⟩=some (.slice s.a4 nt s.c4)/\a6.cell? ⟨V.heap.size,4,none⟩=some (.int .i64 T)) (go_keep) (first|(go_at_call 147;refine ye (D.out J.drew U.out.drew) ?_;rintro e w3 ⟨va,vc,rfl,a8,b0,a9⟩;have B3:Hid (Below J.heap.size J w3):=(yk _ _).drew.trans a8;have b7:=zab l0 B3.out;have b8:=zab l4 B3.out;have b9:=zab y4 B3.out;have b3:Hid _:=b0;have HP:Hid _:=a9;clear a8 b0 a9))
 have BW:Hid (Below V.heap.size V w3):=U.out.trans (B3.out.mono U.out.size)
 go_wp2
 exact yv (v:=.tuple #[.slice va M.length vc,.int .i64 E]) (by simp[results,Tryz.results123,go_sem]) rfl (zkg.mk (II.out.below BW.out) BW.out EP.out HP.out b3.out)
theorem zyO(me:Nat)(W:Wl)(x:Ac)(hm:zaA W.fs x.a=0):PBy 120 me W x W (zjA W.pt (many W) x.n me (zax W me) x.a (zax W x.a)) (zhQ W.pt x.n x.a (zax W x.a)):=fun w0 d s V I=>by
 obtain⟨xk,xa,xb,xc,U⟩:=x;have II:Hid (SW w0 d me W s V):=I;have b1:=I.lt;have b3:Hid _:=b1;obtain⟨l0,l1,l2,l3,l4,lf,ll⟩:=zak I.box;have d4:d<V.heap.size:=ll;have n8:W.fs.length<=8:=I.rt.fs.few;have b5:me<W.fs.length:=I.sf;clear b1;dsimp only;have a6:∀ V2,Below V.heap.size V V2->∀ b,SX w0.heap.size d s b->b<V2.heap.size:=fun V2 hV b hb=>yx (b3.out b hb) hV.size;have O:=I.big;obtain⟨qa,a9,b6,_⟩:=zdt hm;dsimp only at a9;subst a9;obtain⟨fb,fo,ea,_,ft,fl⟩:=I.fcell b6;rw[ea] at l0;have TA:=zmk W qa;obtain⟨ta,b2⟩:∃ t,(fr W.fs qa).t=t:=⟨_,rfl⟩;rw[b2] at ft TA;clear b2 ea hm;have D:Hid (∀ V2,Below V.heap.size V V2->Calls _ _ _ _ _):=fun V2 hV=>zuq (SX w0.heap.size d s) s.a4 s.c4 W.pt (many W) U me (zax W me) qa ta V2 (a6 V2 hV) O.1 O.2 I.dp.pc (I.dp.pt.off (zaq.of_below hV));have EP:Hid (zjA W.pt (many W) U me (zax W me) qa ta=0->zeK W.pt (many W) U me (zax W me) qa ta=zhQ W.pt U qa ta):=fun h=>yb h;rw[TA];show Calls Tryz.prog _ #[.pointer (some ⟨d,0,none⟩),.int .i64 (me:Int),.int .i64 (zax W me),.agg #[.int .i64 xk,.int .i64 qa,.int .i64 xb,.int .i64 xc,.int .i64 U]] V _;obtain⟨n,hn⟩:∃ n,W.fs.length=n:=⟨_,rfl⟩;have HN:Hid (W.fs.length=n):=hn;obtain⟨nt,a5⟩:∃ n,W.pt.length=n:=⟨_,rfl⟩;have b8:Hid (W.pt.length=nt):=a5;rw[a5] at l4 D;rw[hn] at l0 l1 l2 l3 n8 b5;rw[show many W=(n:Int) from by rw[<- hn];rfl] at D EP |-;have d6:(qa:Int)<(n:Int):=by omega
 generalize zax W me=tn at *;generalize zjA W.pt n U me tn qa ta=E at *;generalize zeK W.pt n U me tn qa ta=M at *;generalize zhQ W.pt U qa ta=L at *;clear hn a5 I a6 O;have b7:(me:Int)<(n:Int):=by omega
 go_enter Tryz.func120,Tryz.ntmps120
 go_upto_region 1 with fail
 obtain⟨J,F⟩:∃ J,V.alloc (.cells #[.int .i64 xk,.int .i64 qa,.int .i64 xb,.int .i64 xc,.int .i64 U] 36)=J:=⟨_,rfl⟩;have Z:Hid (Below V.heap.size V J):=by rw[<- F];exact zaa _ _
 have y0:J.cell? ⟨V.heap.size,0,none⟩=some (.int .i64 xk):=by rw[<- F];exact zac _ _ _ 0 rfl
 have y1:J.cell? ⟨V.heap.size,1,none⟩=some (.int .i64 qa):=by rw[<- F];exact zac _ _ _ 1 rfl
 have y2:J.cell? ⟨V.heap.size,2,none⟩=some (.int .i64 xb):=by rw[<- F];exact zac _ _ _ 2 rfl
 have y3:J.cell? ⟨V.heap.size,3,none⟩=some (.int .i64 xc):=by rw[<- F];exact zac _ _ _ 3 rfl
 have y4:J.cell? ⟨V.heap.size,4,none⟩=some (.int .i64 U):=by rw[<- F];exact zac _ _ _ 4 rfl
 have sV:V.heap.size<J.heap.size:=yd _ _ y0;rw[F];clear F;replace l0:=zab l0 Z.out;replace l1:=zab l1 Z.out;replace l2:=zab l2 Z.out;replace l3:=zab l3 Z.out;replace l4:=zab l4 Z.out;replace ft:=zab ft Z.out;have d5:fb<J.heap.size:=by omega
 go_region_held3 (fun T=>T.cell? ⟨d,0,none⟩=some (.slice (some ⟨fb,fo,none⟩) n s.c0)/\T.cell? ⟨d,4,none⟩=some (.slice s.a4 nt s.c4)/\T.cell? ⟨V.heap.size,1,none⟩=some (.int .i64 qa)/\T.cell? ⟨V.heap.size,4,none⟩=some (.int .i64 U)/\T.cell? ⟨fb,fo+qa*5+3,none⟩=some (.int .i64 ta)) (go_keep) (first|(go_at_call 144;refine ye (D.out J.drew Z.out.drew) ?_;rintro e w3 ⟨va,vc,rfl,a7,b0,a8⟩;have B3:Hid (Below J.heap.size J w3):=(yk _ _).drew.trans a7;have c6:=zab l0 B3.out;have c7:=zab l4 B3.out;have c8:=zab y1 B3.out;have c9:=zab y4 B3.out;have b9:=zab ft B3.out;have b4:Hid _:=b0;have HP:Hid _:=a8;clear a7 b0 a8))
 have BW:Hid (Below V.heap.size V w3):=Z.out.trans (B3.out.mono Z.out.size)
 go_wp2
 exact yv (v:=.tuple #[.slice va M.length vc,.int .i64 E]) (by simp[results,Tryz.results120,go_sem]) rfl (zkg.mk (II.out.below BW.out) BW.out EP.out HP.out b4.out)
theorem zAk{w E:World}{R:Rl}{m:Nat}(hg:E.rowIs (w.heap.size+1+1) 55 ((m+1)*2) (mkF R m (w.heap.size+1+1+1) m))(hh:E.rowIs (w.heap.size+1+1+1) 3 m (kdF m)):zaG E (some ⟨w.heap.size+1+1,0,none⟩) (zbf R m):=fun i hi=>by
 rw[zcn] at hi;refine⟨w.heap.size+1+1,0,rfl,?_⟩;rw[yz]
 match i,hi with
 | 0,_ =>
  rw[zhf];refine⟨?_,some ⟨w.heap.size+1+1+1,0,none⟩,m,?_,fun j F=>?_⟩
  ·rw[hg.cell (by omega)];rfl
  ·rw[hg.cell (by omega)];show some (Value.slice _ m m)=some (.slice _ (List.map _ (List.range m)).length m);rw[List.length_map,List.length_range]
  ·have D:j<m:=by simpa using F
   refine⟨_,0,rfl,?_⟩;rw[yz,hh.cell D];unfold kdF;rw[yb D];simp[List.getD_eq_getElem?_getD,D]
 | i+1,hi =>
  rw[zhg (by omega)];refine⟨?_,none,0,?_,fun j F=>absurd F (yw _)⟩
  ·rw[hg.cell (by omega)];unfold mkF;rw[ya (by omega),ya (by omega),yb (by omega),show (i+1)*2 / 2-1=i by omega,yb (by omega)]
  ·rw[hg.cell (by omega)];unfold mkF;rw[ya (by omega),ya (by omega),ya (by omega)];rfl
theorem MkI.cls2{w:World}{A:RA}{R:Rl}{m:Nat}{V:World}(I:MkI w A R m m V)(E:World)(D:zaq (fun b=>b=w.heap.size+1) V E):St (fun b=>b<w.heap.size) (fun V=>zaG V (some ⟨w.heap.size+1+1,0,none⟩) (zbf R m)) E:=fun O F=>by
 have J:=I.g.lt;have M:=I.h.lt;exact zAk (I.g.of_block ((F.block _ (yx J D.size) (by show ¬ w.heap.size+1+1<w.heap.size;omega)).trans (D.block _ J (by show ¬ w.heap.size+1+1=w.heap.size+1;omega)))) (I.h.of_block ((F.block _ (yx M D.size) (by show ¬ w.heap.size+1+1+1<w.heap.size;omega)).trans (D.block _ M (by show ¬ w.heap.size+1+1+1=w.heap.size+1;omega))))
def zib(w:World)(R:Rl)(n:Int)(e:Ending)(V:World):Prop:=∃ (ga:Option Addr) (gc:Nat),e=.returned (.tuple #[.agg #[.slice ga (mkG R n).length gc],.int .i64 (zbv R n)])/\Below w.heap.size w V/\St (fun b=>b<w.heap.size) (fun V=>zaG V ga (mkG R n)) V
theorem zib.no{w V:World}{R:Rl}{n E:Int}(h:zbv R n=E)(D:E≠0)(F:Below w.heap.size w V):zib w R n (.returned (.tuple #[.agg #[.slice none 0 0],.int .i64 E])) V:=by
 have e:mkG R n=[]:=ya (by rw[h];exact D);refine⟨none,0,by rw[e,h];rfl,F,?_⟩;rw[e];exact fun I _ i hi=>absurd hi (yw _)
theorem zib.ok{w V:World}{R:Rl}{m:Nat}{A:RA}(D:m<=8)(I:MkI w A R m m V):zib w R m (.returned (.tuple #[.agg #[.slice (some ⟨w.heap.size+1+1,0,none⟩) (m+1) (m+1)],.int .i64 0])) (V.setCell ⟨w.heap.size+1,0,none⟩ (.slice (some ⟨w.heap.size+1+1,0,none⟩) (m+1) (m+1))):=by
 have h:=ztP D I.ok;have e:mkG R m=zbf R m:=by unfold mkG;rw[yb h,yi]
 refine⟨_,m+1,by rw[e,h,zcn],I.bel.setCell (by simp) _,?_⟩;rw[e];exact I.cls2 _ (zaq.set (X:=fun b=>b=w.heap.size+1) V _ rfl)
theorem MkI.read{w:World}{A:RA}{R:Rl}{m k:Nat}{V:World}(I:MkI w A R m k V)(M:k<m)(E:R.hs.length=16)(J:m<=8)(hh:zas V A.a1 R.hs):∃ b o,A.a1=some ⟨b,o,none⟩/\V.cell? ⟨b,o+k*2,none⟩=some (.int .i64 (hd R k).1)/\V.cell? ⟨b,o+k*2+1,none⟩=some (.int .i64 (hd R k).2)/\b<V.heap.size:=by
 obtain⟨b,o,e,h1,F⟩:=hh k (by omega);have D:hd R (k:Int)=R.hs.getD k (0,0):=by unfold hd;rw[yi]
 rw[D];exact⟨b,o,e,h1,F,yd _ _ h1⟩
theorem zwC{w D O:World}{A:RA}{R:Rl}{m:Nat}(xr:D.heap[w.heap.size]?=some (.cells #[.slice A.a0 R.s.length A.c0,.slice A.a1 R.hs.length A.c1,.slice A.a2 R.i.length A.c2,.slice A.a3 R.t.length A.c3] 50 (0,0)))(xz:D.heap[w.heap.size+1]?=some (.cells #[.slice none 0 0] 47 (0,0)))(sz:D.heap.size=w.heap.size+1+1+1)(b3:Below w.heap.size w D)(rg:D.rowIs (w.heap.size+1+1) 55 ((m+1)*2) (fun j=>(madeCells #[.int .i64 0,.slice none 0 0] ((m+1)*2))[j]!))
  (h4:O=((D.setCell ⟨w.heap.size+1+1,0,none⟩ (.int .i64 (m:Int))).setCell ⟨w.heap.size+1+1,1,none⟩ (.slice (some ⟨D.heap.size,0,none⟩) m m)).alloc (.cells (madeCells #[.int .i64 0] m) 3)):MkI w A R m 0 O:=by
 subst h4;obtain⟨V,M⟩:∃ V,(D.setCell ⟨w.heap.size+1+1,0,none⟩ (.int .i64 (m:Int))).setCell ⟨w.heap.size+1+1,1,none⟩ (.slice (some ⟨D.heap.size,0,none⟩) m m)=V:=⟨_,rfl⟩;have hs:V.heap.size=w.heap.size+1+1+1:=by rw[<- M];simpa using sz
 have T:∀ b,b≠w.heap.size+1+1->V.heap[b]?=D.heap[b]?:=fun b h=>by rw[<- M,ys _ _ _ _ h,ys _ _ _ _ h]
 have E:=(rg.set 0 (.int .i64 (m:Int))).set 1 (.slice (some ⟨D.heap.size,0,none⟩) m m);rw[M] at E |-;have F:=zaa V (.cells (madeCells #[.int .i64 0] m) 3);have Z:=World.rowIs_made V (.int .i64 0) m 3;rw[hs] at Z;refine⟨?_,zaD ((T _ (by omega)).trans xr) F,zaD ((T _ (by omega)).trans xz) F,yD (E.of_block (F.block _ E.lt)) (fun j U=>?_),yD Z (fun j U=>?_),fun i hi=>absurd hi (yw _)⟩
 ·refine Below.trans ?_ (F.mono (by omega));rw[<- M];exact(b3.setCell (by simp;omega) _).setCell (by simp;omega) _
 ·unfold mkF;by_cases J:j=1
  ·rw[yb J,ya (by omega),yb J,sz]
  ·rw[ya J];by_cases I:j=0
   ·rw[yb I,yb I]
   ·rw[ya I,ya I,ya J];have e2:(madeCells #[Value.int .i64 0,.slice none 0 0] ((m+1)*2))[j]! =(#[Value.int .i64 0,.slice none 0 0]:Array Value)[j % 2]!:=by simp[madeCells,U]
    rw[e2];by_cases e3:j % 2=0
    ·rw[e3,yb rfl,ya (yw _)];rfl
    ·rw[show j % 2=1 by omega,ya (by decide)];rfl
 ·unfold kdF;rw[ya (yw _)]
theorem znl(A:RA)(R:Rl)(n:Int)(w:World)(hR:zaF R=0)(hW:zcp w A R):Calls Tryz.prog 139 #[rlV A R,.int .i64 n] w (zib w R n):=by
 obtain⟨wf,hl,_,_⟩:=zaB hR;by_cases hn:0<=n/\n<=8;rotate_left
 ·have DW:Hid (∀ V,Calls _ _ _ _ _):=fun V=>zaQ n 0 8 V;rw[decide_eq_false hn] at DW;have HE:Hid (zbv R n=2):=ztQ hn;dsimp only[rlV];clear hn;generalize R.s.length=r0 at *;generalize R.hs.length=r1 at *;generalize R.i.length=r2 at *;generalize R.t.length=r3 at *
  go_enter Tryz.func139,Tryz.ntmps139
  go_wp2_with (go_at_call 66;refine(DW.out _).mono ?_;rintro e w3 ⟨rfl,b1⟩;subst b1)
  exact yv (v:=.tuple #[.agg #[.slice none 0 0],.int .i64 2]) (by simp[results,Tryz.results139,go_sem]) rfl (zib.no HE.out (by decide) (zam _ _ _))
 ·obtain⟨m,rfl⟩:∃ m:Nat,n=m:=⟨n.toNat,by omega⟩;have h8:m<=8:=by omega
  have DW:Hid (∀ V,Calls _ _ _ _ _):=fun V=>zaQ (m:Int) 0 8 V;rw[decide_eq_true hn] at DW;have hq:IntKind.i64.wrap (1+(m:Int))=((m+1:Nat):Int):=by rw[IntKind.wrap_i64];omega
  have b4:=zxz (m+1) (by omega);have e1:((m+1:Nat):Int)=(m:Int)+1:=by omega
  rw[e1] at b4 hq;clear e1;have d8:=znj m (by omega);obtain⟨a0,a1,a2,a3,c0,c1,c2,c3⟩:=A;have HW:Hid (zcp w ⟨a0,a1,a2,a3,c0,c1,c2,c3⟩ R):=hW;have HL:Hid (R.hs.length=16):=hl;have b8:Hid (WF R.s):=wf;dsimp only[rlV];rw[hl];clear hn hR hW wf hl;obtain⟨r0,a8⟩:∃ n,R.s.length=n:=⟨_,rfl⟩;have b3:Hid (R.s.length=r0):=a8;rw[a8];obtain⟨r2,a9⟩:∃ n,R.i.length=n:=⟨_,rfl⟩;have b6:Hid (R.i.length=r2):=a9;rw[a9];obtain⟨r3,b0⟩:∃ n,R.t.length=n:=⟨_,rfl⟩;have b7:Hid (R.t.length=r3):=b0;rw[b0];clear a8 a9 b0
  go_enter Tryz.func139,Tryz.ntmps139
  go_upto_region 4 with (go_at_call 66;refine(DW.out _).mono ?_;rintro e w3 ⟨rfl,b1⟩;subst b1)
  obtain⟨T,F⟩:∃ T,((w.alloc (.cells #[.slice a0 r0 c0,.slice a1 16 c1,.slice a2 r2 c2,.slice a3 r3 c3] 50)).alloc (.cells #[.slice none 0 0] 47)).alloc (.cells (madeCells #[.int .i64 0,.slice none 0 0] ((m+1)*2)) 55)=T:=⟨_,rfl⟩;have SZ:Hid (T.heap.size=w.heap.size+1+1+1):=by show _=_;rw[<- F];simp
  have RG:Hid (T.rowIs (w.heap.size+1+1) 55 ((m+1)*2) (fun j=>(madeCells #[.int .i64 0,.slice none 0 0] ((m+1)*2))[j]!)):=by
   rw[<- F];have h:=World.rowIs_alloc ((w.alloc (.cells #[.slice a0 r0 c0,.slice a1 16 c1,.slice a2 r2 c2,.slice a3 r3 c3] 50)).alloc (.cells #[.slice none 0 0] 47)) (madeCells #[.int .i64 0,.slice none 0 0] ((m+1)*2)) 55 (fun j=>(madeCells #[.int .i64 0,.slice none 0 0] ((m+1)*2))[j]!) (fun i hi=>by simp[hi]);rw[size_madeCells,yr,yr] at h;exact h
  have XR:Hid (T.heap[w.heap.size]?=some (.cells #[.slice a0 r0 c0,.slice a1 16 c1,.slice a2 r2 c2,.slice a3 r3 c3] 50 (0,0))):=by rw[<- F];exact zaD (zaD (zcc _ _ _ _ _ _) (zaa _ _)) (zaa _ _)
  have XZ:Hid (T.heap[w.heap.size+1]?=some (.cells #[.slice none 0 0] 47 (0,0))):=by
   rw[<- F];have h:=heap_alloc_new (w.alloc (.cells #[.slice a0 r0 c0,.slice a1 16 c1,.slice a2 r2 c2,.slice a3 r3 c3] 50)) (.cells #[.slice none 0 0] 47);rw[yr] at h;exact zaD h (zaa _ _)
  have B3:Hid (Below w.heap.size w T):=by rw[<- F];exact(zam _ _ _).alloc (by simp;omega) _
  rw[F];clear F;have g0:=RG.out.cell (i:=0) (by omega);have g1:=RG.out.cell (i:=1) (by omega);have gf:=fun o=>RG.out.frozen o;have gl:w.heap.size+1+1<T.heap.size:=RG.out.lt
  go_upto_region 5 with fail
  obtain⟨V4,a7⟩:∃ V4,((T.setCell ⟨w.heap.size+1+1,0,none⟩ (.int .i64 (m:Int))).setCell ⟨w.heap.size+1+1,1,none⟩ (.slice (some ⟨T.heap.size,0,none⟩) m m)).alloc (.cells (madeCells #[.int .i64 0] m) 3)=V4:=⟨_,rfl⟩;have I0:Hid (MkI w ⟨a0,a1,a2,a3,c0,c1,c2,c3⟩ R m 0 V4):=zwC (by rw[b3.out,HL.out,b6.out,b7.out];exact XR.out) XZ.out SZ.out B3.out RG.out a7.symm;rw[a7,SZ.out];clear a7 g0 g1 gf gl XR XZ B3 RG SZ T DW
  go_wp2_with fail
  go_loopg [24] m (fun q s24 wr=>∃ k:Nat,k<=m/\m-k<=q/\s24=.int .i64 k/\Hid (MkI w ⟨a0,a1,a2,a3,c0,c1,c2,c3⟩ R m k wr))
  case atStart=>exact⟨0,by omega,by omega,rfl,I0⟩
  case round =>
   obtain⟨k,hk,hg,rfl,O⟩:=hrel;clear I0;by_cases a5:k<m
   ·have d7:(k:Int)<(m:Int):=by omega
    have d6:(k:Int)<16:=by omega
    have hw:=HW.out.below O.out.bel;obtain⟨hb,ho,rfl,u0,u1,ul⟩:=O.out.read a5 HL.out h8 hw.2.1;have D:Hid (∀ V,Below wr.heap.size wr V->Calls _ _ _ _ _):=fun V hV=>zfK R.s (hd R (k:Int)).1 (hd R (k:Int)).2 a0 c0 V b8.out (hw.1.below hV);have KO:Hid (∀ V,Below wr.heap.size wr V->zaH R.s (hd R (k:Int)).1 (hd R (k:Int)).2=0->MkI w ⟨a0,some ⟨hb,ho,none⟩,a2,a3,c0,c1,c2,c3⟩ R m (k+1) _):=fun V hV h=>(O.out.below hV).step a5 h;have KN:Hid (zaH R.s (hd R (k:Int)).1 (hd R (k:Int)).2≠0->zbv R m=zaH R.s (hd R (k:Int)).1 (hd R (k:Int)).2):=fun h=>zwz h8 a5 O.out.ok h;clear hw;generalize hd R (k:Int)=hh at *;obtain⟨P,U⟩:=hh;dsimp only at u0 u1 D KO KN;obtain⟨E,hE⟩:∃ E,zaH R.s P U=E:=⟨_,rfl⟩;rw[hE] at D KO KN;clear hE;obtain⟨l0,l1,l2,l3,lf,ll⟩:=zai O.out.r;dsimp only at l0 l1 l2 l3;rw[b3.out] at D l0;rw[HL.out] at l1;have s1:w.heap.size+1+1+1<wr.heap.size:=O.out.h.lt;have s0:w.heap.size<wr.heap.size:=ll
    go_upto_region 8 with fail
    have n1:¬ wr.heap.size=w.heap.size:=by omega
    have d4:¬ w.heap.size=wr.heap.size:=by omega
    have n2:¬ wr.heap.size=hb:=by omega
    have d5:¬ hb=wr.heap.size:=by omega
    go_cut [8,9,24] from 24 to 57 (fun s8 s9 s24 wx=>∃ (b:Nat) (mm pp:Int),s8=.pointer (some ⟨b,0,none⟩)/\s9=.int .i64 E/\s24=.int .i64 k/\Hid (Below wr.heap.size wr wx)/\wx.cell? ⟨b,3,none⟩=some (.int .i64 mm)/\wx.cell? ⟨b,4,none⟩=some (.int .i64 pp)/\wr.heap.size<=b/\Hid (E=0->mm=(nd R.s P.toNat).m/\pp=(nd R.s P.toNat).p))
    case first =>
     go_region_held3 (fun a6=>a6.cell? ⟨w.heap.size,0,none⟩=some (.slice a0 r0 c0)/\a6.cell? ⟨w.heap.size,1,none⟩=some (.slice (some ⟨hb,ho,none⟩) 16 c1)/\a6.cell? ⟨hb,ho+k*2,none⟩=some (.int .i64 P)/\a6.cell? ⟨hb,ho+k*2+1,none⟩=some (.int .i64 U)) (go_keep) (first|(go_at_call 14;refine ye (D.out wr.drew (yk _ _).drew) ?_;rintro e w5 ⟨nx,ka,kl,kc,rfl,I,Z,b2⟩;have M:Hid (Below wr.heap.size wr w5):=(yk _ _).drew.trans I;have HX:Hid _:=Z;have b9:=zab l0 M.out;have c6:=zab l1 M.out;have c7:=zab u0 M.out;have c8:=zab u1 M.out;clear I Z b2)|(go_at_call 14;refine ye (D.out (wr.alloc (.cells #[.bool false,.int .i64 0,.int .i64 0,.int .i64 0,.int .i64 0,.slice none 0 0,.int .i64 0,.bool false] 57)).drew (zaa wr _).drew) ?_;rintro e w5 ⟨nx,ka,kl,kc,rfl,I,Z,b2⟩;have M:Hid (Below wr.heap.size wr w5):=(zaa wr _).drew.trans (I.mono (by simp));have HX:Hid _:=Z;have b9:=zab l0 M.out;have c6:=zab l1 M.out;have c7:=zab u0 M.out;have c8:=zab u1 M.out;have X3:Hid (w5.heap[wr.heap.size]?=some (.cells #[.bool false,.int .i64 0,.int .i64 0,.int .i64 0,.int .i64 0,.slice none 0 0,.int .i64 0,.bool false] 57 (0,0))):=zaD (W:=(wr.alloc (.cells #[.bool false,.int .i64 0,.int .i64 0,.int .i64 0,.int .i64 0,.slice none 0 0,.int .i64 0,.bool false] 57)).drew) (heap_alloc_new wr _) I;obtain⟨x0,x1,x2,x3,x4,x5,x6,x7,xf,xl⟩:=zdf X3.out;clear I Z b2))
     ·go_wp2_with fail
      go_meet
      case rel =>
       have r:=zuF nx (.slice ka kl kc) 57 (yk wr.heap.size wr) M.out;exact⟨_,_,_,rfl,rfl,rfl,r.1,r.2.1,r.2.2.1,r.2.2.2,fun h=>by rw[HX.out h];exact⟨rfl,rfl⟩⟩
     ·go_wp2_with fail
      go_meet
      case rel =>
       have r:=zuG nx (.slice ka kl kc) (yk wr.heap.size wr) M.out X3.out;exact⟨_,_,_,rfl,rfl,rfl,r.1,r.2.1,r.2.2.1,r.2.2.2,fun h=>by rw[HX.out h];exact⟨rfl,rfl⟩⟩
    case rest =>
     obtain⟨b,mm,pp,rfl,rfl,rfl,HB,hm,c9,e2,HM⟩:=hcut;have J:Hid _:=O.out.below HB.out;have bl:b<wc.heap.size:=yd _ _ hm;clear l0 l1 l2 l3 lf ll u0 u1 ul D n1 d4 n2 d5 c9;by_cases hE:E=0
     ·subst hE;obtain⟨rfl,_⟩:=HM.out rfl;have KS:Hid _:=KO.out wc HB.out rfl;have g1:=J.out.g.cell (i:=1) (by omega);have g2:=J.out.g.cell (i:=(k+1)*2) (by omega);have g3:=J.out.g.cell (i:=(k+1)*2+1) (by omega);have gf:=fun o=>J.out.g.frozen o;have gl:=J.out.g.lt;have h1:=J.out.h.cell (i:=k) a5;have hf:=fun o=>J.out.h.frozen o;have hl:=J.out.h.lt;have e1:mkF R m (w.heap.size+1+1+1) k 1=.slice (some ⟨w.heap.size+1+1+1,0,none⟩) m m:=rfl;rw[e1] at g1;generalize mkF R m (w.heap.size+1+1+1) k ((k+1)*2)=v2 at g2;generalize mkF R m (w.heap.size+1+1+1) k ((k+1)*2+1)=v3 at g3;generalize kdF k k=v1 at h1;clear e1;have e5:¬ b=w.heap.size+1+1:=by omega
      have e6:¬ b=w.heap.size+1+1+1:=by omega
      have d9:¬ w.heap.size+1+1=b:=by omega
      have e0:¬ w.heap.size+1+1+1=b:=by omega
      have e3:((k:Int)+1)<((m:Int)+1):=by omega
      have e4:IntKind.i64.wrap ((k:Int)+1)=(k:Int)+1:=by rw[IntKind.wrap_i64];omega
      go_wp2_with fail
      go_roundg (m-(k+1))
      case measure=>omega
      case rel=>exact⟨k+1,by omega,by omega,by go_num,KS⟩
     ·have hz:(E == 0)=false:=by simp[hE]
      have b5:Hid _:=KN.out hE;obtain⟨z0,zf,zl⟩:wc.cell? ⟨w.heap.size+1,0,none⟩=some (.slice none 0 0)/\(∀ o,wc.frozen? ⟨w.heap.size+1,o,none⟩=false)/\w.heap.size+1<wc.heap.size:=⟨zaJ J.out.z,fun o=>zaX J.out.z,zaw J.out.z⟩
      go_wp2
      exact yv (v:=.tuple #[.agg #[.slice none 0 0],.int .i64 E]) (by simp[results,Tryz.results139,go_sem,z0]) rfl (zib.no b5.out hE (J.out.bel.setCell (by simp) _))
   ·obtain rfl:k=m:=by omega
    obtain⟨z0,zf,zl⟩:wr.cell? ⟨w.heap.size+1,0,none⟩=some (.slice none 0 0)/\(∀ o,wr.frozen? ⟨w.heap.size+1,o,none⟩=false)/\w.heap.size+1<wr.heap.size:=⟨zaJ O.out.z,fun o=>zaX O.out.z,zaw O.out.z⟩
    go_wp2
    exact yv (v:=.tuple #[.agg #[.slice (some ⟨w.heap.size+1+1,0,none⟩) (k+1) (k+1)],.int .i64 0]) (by simp[results,Tryz.results139,go_sem,z0]) rfl (zib.ok h8 O.out)
theorem zyR(me:Nat)(W:Wl)(x:Ac):PBy 122 me W x (setR W me { rlm W me with i:=gr (pt W.pt x.n.toNat).cm 0 }) (zfe W.pt (many W) x.n me (zax W me)) (zhU W.pt x.n):=fun w0 d s V I=>by
 obtain⟨xk,xa,xb,xc,J⟩:=x;have II:Hid (SW w0 d me W s V):=I;have b2:=I.lt;have b4:Hid _:=b2;obtain⟨l0,l1,l2,l3,l4,lf,ll⟩:=zak I.box;have d4:d<V.heap.size:=ll;have n8:W.fs.length<=8:=I.rt.fs.few;have b9:me<W.fs.length:=I.sf;clear b2;dsimp only;have b1:∀ V2,Below V.heap.size V V2->∀ b,SX w0.heap.size d s b->b<V2.heap.size:=fun V2 hV b hb=>yx (b4.out b hb) hV.size;have a5:=I.big;have D:Hid (∀ V2 z,Below V.heap.size V V2->V.heap.size<=z->z<V2.heap.size->Calls _ _ _ _ _):=fun V2 z hV hz d6=>zuy (fun b=>SX w0.heap.size d s b\/b=z) s.a4 s.c4 W.pt (many W) J me (zax W me) V2 (fun b hb=>hb.elim (b1 V2 hV b) (fun e=>by omega)) a5.1 a5.2 I.dp.pc (I.dp.pt.grow (zaq.of_below hV) (fun b hb hy=>hy.elim id (fun e=>by omega)));have EP:Hid (zfe W.pt (many W) J me (zax W me)=0->zeL W.pt (many W) J me (zax W me)=zhU W.pt J/\zpb W.pt (many W) J me (zax W me)=gr (pt W.pt J.toNat).cm 0):=fun h=>⟨yb h,yb h⟩
 have HQ:Hid (zfe W.pt (many W) J me (zax W me)=0->zaF { rlm W me with i:=gr (pt W.pt J.toNat).cm 0 }=0):=fun h=>by
  have h1:=(zgC I.rt I.sf h).rs me I.sf;have h2:rlm (setR W me { rlm W me with i:=gr (pt W.pt J.toNat).cm 0 }) me={ rlm W me with i:=gr (pt W.pt J.toNat).cm 0 }:=by rw[zcK (by rw[I.rt.lr];exact I.sf),yb rfl]
  rw[<- h2];exact h1
 obtain⟨k0,k1,k2,k3,kf,kl⟩:=I.rcells I.sf;clear k0 k1 k3 kf;show Calls Tryz.prog _ #[.pointer (some ⟨d,0,none⟩),.int .i64 (me:Int),.int .i64 (zax W me),.agg #[.int .i64 xk,.int .i64 xa,.int .i64 xb,.int .i64 xc,.int .i64 J]] V _;obtain⟨n,hn⟩:∃ n,W.fs.length=n:=⟨_,rfl⟩;have HN:Hid (W.fs.length=n):=hn;obtain⟨nt,a9⟩:∃ n,W.pt.length=n:=⟨_,rfl⟩;have c8:Hid (W.pt.length=nt):=a9;rw[a9] at l4 D;rw[hn] at l0 l1 l2 l3 n8 b9;rw[show many W=(n:Int) from by rw[<- hn];rfl] at D EP HQ |-;clear hn a9 I b1 a5;have c7:(me:Int)<(n:Int):=by omega
 generalize zax W me=tn at *;generalize zfe W.pt n J me tn=E at *;generalize zeL W.pt n J me tn=M at *;generalize zpb W.pt n J me tn=G at *;generalize zhU W.pt J=L at *;generalize gr (pt W.pt J.toNat).cm 0=G0 at *
 go_enter Tryz.func122,Tryz.ntmps122
 go_upto_region 1 with fail
 obtain⟨F,O⟩:∃ F,V.alloc (.cells #[.int .i64 xk,.int .i64 xa,.int .i64 xb,.int .i64 xc,.int .i64 J] 36)=F:=⟨_,rfl⟩;have U:Hid (Below V.heap.size V F):=by rw[<- O];exact zaa _ _
 have y0:F.cell? ⟨V.heap.size,0,none⟩=some (.int .i64 xk):=by rw[<- O];exact zac _ _ _ 0 rfl
 have y1:F.cell? ⟨V.heap.size,1,none⟩=some (.int .i64 xa):=by rw[<- O];exact zac _ _ _ 1 rfl
 have y2:F.cell? ⟨V.heap.size,2,none⟩=some (.int .i64 xb):=by rw[<- O];exact zac _ _ _ 2 rfl
 have y3:F.cell? ⟨V.heap.size,3,none⟩=some (.int .i64 xc):=by rw[<- O];exact zac _ _ _ 3 rfl
 have y4:F.cell? ⟨V.heap.size,4,none⟩=some (.int .i64 J):=by rw[<- O];exact zac _ _ _ 4 rfl
 have sV:V.heap.size<F.heap.size:=yd _ _ y0;rw[O];clear O;replace l0:=zab l0 U.out;replace l1:=zab l1 U.out;replace l2:=zab l2 U.out;replace l3:=zab l3 U.out;replace l4:=zab l4 U.out;replace k2:=zab k2 U.out;have n0:¬ F.heap.size=d:=by omega
 have o0:¬ d=F.heap.size:=by omega
 have n2:¬ F.heap.size=V.heap.size:=by omega
 have o2:¬ V.heap.size=F.heap.size:=by omega
 have d5:d<F.heap.size:=by omega
 go_cut [10,11,12] (fun s10 s11 s12 wx=>∃ (b:Nat) (Z:Option Addr) (vc:Nat) (ga:Option Addr) (gc:Nat),s10=.slice Z M.length vc/\s11=.pointer (some ⟨b,0,none⟩)/\s12=.int .i64 E/\Hid (Below F.heap.size F wx)/\Hid (wx.heap[b]?=some (.cells #[.slice ga G.length gc] 47 (0,0)))/\F.heap.size<=b/\Hid (zbJ (SX w0.heap.size d s) wx Z M)/\Hid (SlA Z M.length vc)/\Hid (St (SX w0.heap.size d s) (fun V=>zaG V ga G) wx))
 case first =>
  go_region_held3 (fun b0=>b0.cell? ⟨d,0,none⟩=some (.slice s.a0 n s.c0)/\b0.cell? ⟨d,4,none⟩=some (.slice s.a4 nt s.c4)/\b0.cell? ⟨V.heap.size,4,none⟩=some (.int .i64 J)) (go_keep) (first|(go_at_call 146;refine ye (D.out F.drew V.heap.size U.out.drew (yj _) sV) ?_;rintro e w3 ⟨Z,vc,ga,gc,rfl,T,a8,a7,a6⟩;have B3:Hid (Below F.heap.size F w3):=(yk _ _).drew.trans T;have S3:Hid _:=a8;have P3:Hid (zbJ (fun b=>SX w0.heap.size d s b\/b=V.heap.size) w3 Z M):=a7;have C3:Hid (St (fun b=>SX w0.heap.size d s b\/b=V.heap.size) (fun V=>zaG V ga G) w3):=a6;have b6:=zab l0 B3.out;have b7:=zab l4 B3.out;have b8:=zab y4 B3.out;clear T a8 a7 a6)|(go_at_call 146;refine ye (D.out (F.alloc (.cells #[.slice none 0 0] 47)).drew F.heap.size (U.out.trans ((zaa F _).mono U.out.size)).drew U.out.size (by show F.heap.size<(F.alloc _).heap.size;simp)) ?_;rintro e w3 ⟨Z,vc,ga,gc,rfl,T,a8,a7,a6⟩;have B3:Hid (Below F.heap.size F w3):=(zaa F _).drew.trans (T.mono (by simp));have S3:Hid _:=a8;have P3:Hid (zbJ (fun b=>SX w0.heap.size d s b\/b=F.heap.size) w3 Z M):=a7;have C3:Hid (St (fun b=>SX w0.heap.size d s b\/b=F.heap.size) (fun V=>zaG V ga G) w3):=a6;have b6:=zab l0 B3.out;have b7:=zab l4 B3.out;have b8:=zab y4 B3.out;have X3:Hid (w3.heap[F.heap.size]?=some (.cells #[.slice none 0 0] 47 (0,0))):=zaD (W:=(F.alloc (.cells #[.slice none 0 0] 47)).drew) (heap_alloc_new F _) T;have x0:=zaJ X3.out;have xf:=zaX (o:=0) X3.out;have xl:F.heap.size<w3.heap.size:=zaw X3.out;clear T a8 a7 a6))
  ·go_wp2_with fail
   go_meet
   case rel=>exact⟨_,Z,vc,ga,gc,rfl,rfl,rfl,B3.out.trans ((zaa _ _).mono B3.out.size),heap_alloc_new _ _,B3.out.size,fun w' ho=>(P3.out.off (zaq.of_below (zaa _ _))) w' (ho.mono (fun b h=>Or.inl h)),S3.out,(C3.out.off (zaq.of_below (zaa _ _))).less (fun b h=>Or.inl h)⟩
  ·go_wp2_with fail
   go_meet
   case rel=>exact⟨_,Z,vc,ga,gc,rfl,rfl,rfl,B3.out.setCell (yj _) _,ziZ X3.out,yj _,fun w' ho=>(P3.out.off (zaq.set _ _ (Or.inr rfl))) w' (ho.mono (fun b h=>Or.inl h)),S3.out,(C3.out.off (zaq.set _ _ (Or.inr rfl))).less (fun b h=>Or.inl h)⟩
 case rest =>
  obtain⟨b,Z,vc,ga,gc,rfl,rfl,rfl,HB,HX,c9,HP,b5,HC⟩:=hcut;have BW:Hid (Below V.heap.size V wc):=U.out.trans (HB.out.mono U.out.size);have I2:Hid _:=II.out.below BW.out;clear l0 l1 l2 l3 l4 k2 D;by_cases hE:E=0
  ·subst hE;obtain⟨rfl,rfl⟩:=EP.out rfl;have hs:=I2.out.setIn (c:=gc) (HQ.out rfl) HC.out;have HS:Hid _:=hs;have b3:Hid _:=HP.out.off (zaq.set wc (o:=me*4+2) (.slice ga G.length gc) (show SX w0.heap.size d s s.g1 from .inr (.inr (.inl rfl))));have OX:Hid (zaq (fun b=>b=s.g1) V (wc.setCell ⟨s.g1,me*4+2,none⟩ (.slice ga G.length gc))):=(zaq.of_below BW.out).trans (zaq.set (X:=fun b=>b=s.g1) _ _ rfl);obtain⟨e3,c6,e4,e5,e6,e7,e8⟩:=zak I2.out.box;rw[HN.out] at c6;obtain⟨d7,d8,d9,e0,e1,e2⟩:=I2.out.rcells I2.out.sf;have x0:=zaJ HX.out;have bl:b<wc.heap.size:=zaw HX.out;have ng:¬ s.g1=b:=by omega
   have e9:¬ b=s.g1:=by omega
   clear hs
   go_wp2_with fail
   go_region
   go_wp2
   exact yv (v:=.tuple #[.slice Z M.length vc,.int .i64 0]) (by simp[results,Tryz.results122,go_sem]) rfl ⟨Z,vc,M,_,rfl,OX.out.trans (zaq.of_below (yk _ _).drew),fun _=>⟨rfl,HS.out.below (yk _ _).drew,zbJ.off (X:=SX w0.heap.size d s) b3.out (zaq.of_below (yk _ _).drew),b5.out⟩,fun h=>absurd rfl h⟩
  ·have hz:(E == 0)=false:=by simp[hE]
   go_wp2
   exact yv (v:=.tuple #[.slice none 0 0,.int .i64 E]) (by simp[results,Tryz.results122,go_sem]) rfl ⟨none,0,[],s,rfl,zaq.of_below BW.out,fun h=>absurd h hE,fun _=>I2.out⟩
end Go.Proofs.YtcbcpomacdngmaaGreat
