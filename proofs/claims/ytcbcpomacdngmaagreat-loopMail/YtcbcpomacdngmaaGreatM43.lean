/-
  x
-/
import Derived.Test.YtcbcpomacdngmaaGreatM42
import Derived.ProofKit
import Derived.OpenShut
import Derived.ChangeOld
import Derived.Below
import Derived.Deep.Slices
import Derived.Lib.SmallJoins
namespace Go.Proofs.YtcbcpomacdngmaaGreat
set_option maxRecDepth 100000
set_option maxHeartbeats 4000000
set_option linter.unusedVariables false
open Go.RowKit Go.ChangeShapes Go.WideShapes Go.ChangeAt
theorem zxk{a b c:Int}:zao [a,b,c]=if a=0 then (if b=0 then c else b) else a:=by
 show (if a=0 then (if b=0 then (if c=0 then 0 else c) else b) else a)=_;by_cases h:c=0
 ·rw[yb h,h]
 ·rw[ya h]
theorem zjV.no{M:W0}{d me:Nat}{W:Wl}{E F:Int}{L:List Pt}{s:SD}{V D:World}(I:SW M d me W s D)(T:Below V.heap.size V D)(J:E=F)(O:F≠0):zjV M d me W W E L s.g1 V (.returned (.tuple #[.slice none 0 0,.int .i64 F])) D :=
 ⟨none,0,[],s,by rw[J];rfl,zar.of_below T,fun h=>absurd (J.symm.trans h) O,fun _=>I⟩
theorem zyC(me:Nat)(W:Wl)(x:Ac):PBy 121 me W x W (zao [if bits .and .i64 (ziu W me) 2=0 then 7 else 0,zbk (rlm W me) x.a,zhL W.pt (many W) x.n me (zaB W me) (zaW (rlm W me) x.a.toNat)]) (ziv W.pt x.n (zaW (rlm W me) x.a.toNat)):=fun w0 d s V I=>by
 rw[zxk];obtain⟨xk,T,xb,xc,xn⟩:=x;have II:Hid (SW w0 d me W s V):=I;have c6:=I.lt;have d4:Hid _:=c6;obtain⟨l0,l1,l2,l3,l4,lf,ll⟩:=zaj I.box;have g0:d<V.heap.size:=ll;have n8:W.fs.length<=8:=I.rt.fs.few;have e4:me<W.fs.length:=I.sf;clear c6;dsimp only;have b5:∀ V2,Below V.heap.size V V2->∀ b,SX w0.heap.size d s b->b<V2.heap.size:=fun V2 hV b hb=>yx (d4.out b hb) hV.size;have a8:=I.big;obtain⟨fb,fo,ea,fm,_,fl⟩:=I.fcell I.sf;rw[ea] at l0;clear ea;have e0:ziu W me=(fr W.fs me).m:=rfl;rw[e0];obtain⟨mm,b7⟩:∃ t,(fr W.fs me).m=t:=⟨_,rfl⟩;rw[b7] at fm |-;clear b7 e0;obtain⟨k0,k1,k2,k3,kf,kl⟩:=I.rcells I.sf;have D:Hid (∀ V2,Below V.heap.size V V2->Calls _ _ _ _ _):=fun V2 hV=>zna (s.R me) (rlm W me) T V2 (I.rt.rs me I.sf) ((I.rat I.sf).below hV)
 have DP:Hid (∀ V2 ga gc G,G=zaW (rlm W me) T.toNat->zbk (rlm W me) T=0->Below V.heap.size V V2->zaF V2 ga G->Calls _ _ _ _ _):=fun V2 ga gc G hG hE hV hc=>zui (SX w0.heap.size d s) s.a4 s.c4 W.pt (many W) xn me (zaB W me) ga gc G V2 (b5 V2 hV) a8.1 a8.2 I.dp.pc (I.dp.pt.off (zar.of_below hV)) (by
  obtain⟨m,rfl,h8,hf⟩:=zeG hE;rw[hG,yi,zcF];omega) (by
  obtain⟨m,rfl,h8,hf⟩:=zeG hE;rw[hG,yi];exact(zcA (zbx.2 (zgs h8 hf))).2) hc
 have EP:Hid (zhL W.pt (many W) xn me (zaB W me) (zaW (rlm W me) T.toNat)=0->zhP W.pt (many W) xn me (zaB W me) (zaW (rlm W me) T.toNat)=ziv W.pt xn (zaW (rlm W me) T.toNat)):=fun h=>yb h;dsimp only[rlV] at D;show yL _ #[.pointer (some ⟨d,0,none⟩),.int .i64 (me:Int),.int .i64 (zaB W me),.agg #[.int .i64 xk,.int .i64 T,.int .i64 xb,.int .i64 xc,.int .i64 xn]] V _;obtain⟨n,hn⟩:∃ n,W.fs.length=n:=⟨_,rfl⟩;have HN:Hid (W.fs.length=n):=hn;obtain⟨nt,b1⟩:∃ n,W.pt.length=n:=⟨_,rfl⟩;have c9:Hid (W.pt.length=nt):=b1;rw[b1] at l4 DP;rw[hn] at l0 l1 l2 l3 n8 e4;rw[show many W=(n:Int) from by rw[<- hn];rfl] at DP EP |-;have MG:Hid (zbk (rlm W me) T=0->mkG (rlm W me) T=zaW (rlm W me) T.toNat):=fun h=>yb h;generalize (rlm W me).s.length=r0 at *;generalize (rlm W me).hs.length=r1 at *;generalize (rlm W me).i.length=r2 at *;generalize (rlm W me).t.length=r3 at *;clear hn b1 I b5 a8;have e6:(me:Int)<(n:Int):=by omega
 generalize zaB W me=tn at *;generalize ziv W.pt xn (zaW (rlm W me) T.toNat)=LL at EP |-;obtain⟨bb,e3⟩:∃ b,bits .and .i64 mm 2=b:=⟨_,rfl⟩;rw[e3];obtain⟨E1,a9⟩:∃ E,zbk (rlm W me) T=E:=⟨_,rfl⟩;have b2:Hid (zbk (rlm W me) T=E1):=a9;rw[a9] at DP MG |-;clear a9;obtain⟨F,hF⟩:∃ F:Int,(if (if bb=0 then (7:Int) else 0)=0 then (if E1=0 then zhL W.pt n xn me tn (zaW (rlm W me) T.toNat) else E1) else (if bb=0 then 7 else 0))=F:=⟨_,rfl⟩;have HF:Hid (_=F):=hF;rw[hF];clear hF
 go_enter Tryz.func121,Tryz.ntmps121
 go_upto_region 1 with fail
 obtain⟨J,b4,Z,y0,y1,y2,y3,y4,sV⟩:=zcx V xk T xb xc xn;rw[b4];clear b4;replace l0:=zab l0 Z.out;replace l1:=zab l1 Z.out;replace l2:=zab l2 Z.out;replace l3:=zab l3 Z.out;replace l4:=zab l4 Z.out;replace fm:=zab fm Z.out;replace k0:=zab k0 Z.out;replace k1:=zab k1 Z.out;replace k2:=zab k2 Z.out;replace k3:=zab k3 Z.out;have g4:fb<J.heap.size:=by omega
 have I1:Hid _:=II.out.below Z.out;by_cases b0:bb=0
 ·subst b0;rw[show (if (0:Int)=0 then (7:Int) else 0)=7 from rfl,ya (by decide)] at HF
  go_wp2
  exact yv (v:=.tuple #[.slice none 0 0,.int .i64 7]) (by simp[results,Tryz.results121,go_sem]) rfl (zjV.no I1.out Z.out HF.out.symm (by decide))
 ·have e9:(bb == 0)=false:=by simp[b0]
  rw[show (if bb=0 then (7:Int) else 0)=0 from ya b0,yb rfl] at HF
  go_upto_region 3 with fail
  have n0:¬ J.heap.size=d:=by omega
  have o0:¬ d=J.heap.size:=by omega
  have n1:¬ J.heap.size=s.g1:=by omega
  have o1:¬ s.g1=J.heap.size:=by omega
  have n2:¬ J.heap.size=V.heap.size:=by omega
  have o2:¬ V.heap.size=J.heap.size:=by omega
  have g5:d<J.heap.size:=by omega
  have g6:s.g1<J.heap.size:=by omega
  obtain⟨GG,b3⟩:∃ G,mkG (rlm W me) T=G:=⟨_,rfl⟩;have a7:Hid (mkG (rlm W me) T=GG):=b3;clear b3
  go_cut [10,11] (fun s10 s11 wx=>∃ (b:Nat) (ga:Option Addr) (gc:Nat),s10=.pointer (some ⟨b,0,none⟩)/\s11=.int .i64 E1/\Hid (Below J.heap.size J wx)/\Hid (wx.heap[b]?=some (.cells #[.slice ga GG.length gc] 47 (0,0)))/\J.heap.size<=b/\Hid (zaF wx ga GG))
  case first =>
   go_region_held3 (fun O=>O.cell? ⟨d,1,none⟩=some (.slice (some ⟨s.g1,0,none⟩) n n)/\O.cell? ⟨s.g1,me*4,none⟩=some (.slice (s.R me).a0 r0 (s.R me).c0)/\O.cell? ⟨s.g1,me*4+1,none⟩=some (.slice (s.R me).a1 r1 (s.R me).c1)/\O.cell? ⟨s.g1,me*4+2,none⟩=some (.slice (s.R me).a2 r2 (s.R me).c2)/\O.cell? ⟨s.g1,me*4+3,none⟩=some (.slice (s.R me).a3 r3 (s.R me).c3)/\O.cell? ⟨V.heap.size,1,none⟩=some (.int .i64 T)) (go_keep) (first|(go_at_call 139;refine ye (D.out J.drew Z.out.drew) ?_;rintro e w3 ⟨ga,gc,rfl,a6,a5⟩;rw[a7.out,b2.out];rw[a7.out] at a5;have U:Hid (Below J.heap.size J w3):=(yk _ _).drew.trans a6;have C3:Hid (St (fun b=>b<J.heap.size) (fun V=>zaF V ga GG) w3):=a5;have e1:=zab l1 U.out;have d6:=zab k0 U.out;have d7:=zab k1 U.out;have d8:=zab k2 U.out;have d9:=zab k3 U.out;have e2:=zab y1 U.out;clear a6 a5)|(go_at_call 139;refine ye (D.out (J.alloc (.cells #[.slice none 0 0] 47)).drew (Z.out.trans ((zaa J _).mono Z.out.size)).drew) ?_;rintro e w3 ⟨ga,gc,rfl,a6,a5⟩;rw[a7.out,b2.out];rw[a7.out] at a5;have U:Hid (Below J.heap.size J w3):=(zaa J _).drew.trans (a6.mono (by simp));have C3:Hid (St (fun b=>b<J.heap.size+1) (fun V=>zaF V ga GG) w3):=(by have h:=a5;simp only[yr,World.size_drew] at h;exact h);have e1:=zab l1 U.out;have d6:=zab k0 U.out;have d7:=zab k1 U.out;have d8:=zab k2 U.out;have d9:=zab k3 U.out;have e2:=zab y1 U.out;have X3:Hid (w3.heap[J.heap.size]?=some (.cells #[.slice none 0 0] 47 (0,0))):=zav (W:=(J.alloc (.cells #[.slice none 0 0] 47)).drew) (yK J _) a6;have x0:=zaI X3.out;have xf:=zaY (o:=0) X3.out;have xl:J.heap.size<w3.heap.size:=zau X3.out;clear a6 a5))
   ·go_wp2_with fail
    go_meet
    case rel=>exact⟨_,ga,gc,rfl,rfl,U.out.trans ((zaa _ _).mono U.out.size),yK _ _,U.out.size,C3.out.at.below (zaa _ _)⟩
   ·go_wp2_with fail
    go_meet
    case rel=>exact⟨_,ga,gc,rfl,rfl,U.out.setCell (yj _) _,ziN X3.out,yj _,C3.out _ (zar.set _ _ (Nat.lt_succ_self _))⟩
  case rest =>
   obtain⟨b,ga,gc,rfl,rfl,HB,HX,e8,HC⟩:=hcut;have BW:Hid (Below V.heap.size V wc):=Z.out.trans (HB.out.mono Z.out.size);have I2:Hid _:=II.out.below BW.out;clear l0 l1 l2 l3 l4 k0 k1 k2 k3 D fm;by_cases hE:E1=0
   ·subst hE;rw[yb rfl] at HF;have eG:GG=zaW (rlm W me) T.toNat:=a7.out.symm.trans (MG.out rfl);have e7:Hid _:=eG;have DQ:Hid (∀ V2,Below wc.heap.size wc V2->Calls _ _ _ _ _):=fun V2 hV=>DP.out V2 ga gc GG eG rfl (BW.out.trans (hV.mono BW.out.size)) (HC.out.below hV);rw[<- eG] at HF EP;obtain⟨c7,g7,g8,g9,c8,h2,h3⟩:=zaj I2.out.box;rw[HN.out] at c7;rw[c9.out] at c8;have x0:=zaI HX.out;have e5:=zab y4 HB.out;have bl:b<wc.heap.size:=zau HX.out;obtain⟨M,hM⟩:∃ M,zhP W.pt n xn me tn GG=M:=⟨_,rfl⟩;have HM:Hid _:=hM;rw[hM] at DQ EP;clear hM eG DP;generalize zhL W.pt n xn me tn GG=E2 at *;obtain rfl:=HF.out;generalize GG.length=gl at *
    go_wp2_with fail
    go_region_held3 (fun O=>O.cell? ⟨d,0,none⟩=some (.slice s.a0 n s.c0)/\O.cell? ⟨d,4,none⟩=some (.slice s.a4 nt s.c4)/\O.cell? ⟨V.heap.size,4,none⟩=some (.int .i64 xn)/\O.cell? ⟨b,0,none⟩=some (.slice ga gl gc)) (go_keep) (first|(go_at_call 145;refine ye (DQ.out wc.drew (yk _ _).drew) ?_;rintro e w5 ⟨va,vc,rfl,b6,b9,b8⟩;have B5:Hid (Below wc.heap.size wc w5):=(yk _ _).drew.trans b6;have j0:=zab c7 B5.out;have j4:=zab c8 B5.out;have jy:=zab e5 B5.out;have jx:=zab x0 B5.out;have d5:Hid _:=b9;have HP:Hid _:=b8;clear b6 b9 b8))
    have BY:Hid (Below V.heap.size V w5):=BW.out.trans (B5.out.mono BW.out.size)
    go_wp2
    exact yv (v:=.tuple #[.slice va M.length vc,.int .i64 E2]) (by simp[results,Tryz.results121,go_sem]) rfl (zjV.mk (II.out.below BY.out) BY.out EP.out HP.out d5.out)
   ·rw[ya hE] at HF;have hz:(E1 == 0)=false:=by simp[hE]
    go_wp2
    exact yv (v:=.tuple #[.slice none 0 0,.int .i64 E1]) (by simp[results,Tryz.results121,go_sem]) rfl (zjV.no I2.out BW.out HF.out.symm hE)
theorem zgv(m:Ml)(r:List Ml)(G:Nat->Option Addr × Nat):zcv (m :: r) G=[Value.int .i64 m.f,.slice (G 0).1 m.g.length (G 0).2] ++ zcv r (fun j=>G (j+1)):=by
 unfold zcv;rw[List.length_cons,List.range_succ_eq_map,List.flatMap_cons,List.flatMap_map];rfl
theorem zqs{W:Wl}(H:zan W){k:Nat}(D:k<W.fs.length):zan { W with qs:=W.qs.set k ((que W k).drop 1) }:=by
 obtain⟨I,F⟩:=zbs.1 (H.qs k D);exact zan.queue (q:=(que W k).drop 1) H D (zbs.2 ⟨by rw[List.length_drop];omega,fun m E=>F m (List.mem_of_mem_drop E)⟩)
theorem SW.no_row3{M:W0}{d me:Nat}{W:Wl}{s:SD}{V:World}(I:SW M d me W s V){b o:Nat}{v:Value}(h:V.cell? ⟨b,o,none⟩=some v)(J:∀ a n c,v≠.slice a n c):¬ s.g3=b:=fun e=>by
 subst e;obtain⟨c,hc,hl,F⟩:=I.r3;simp only[World.cell?,hc] at h
 have D:o<W.fs.length:=by
  rcases Nat.lt_or_ge o W.fs.length with E|E
  ·exact E
  ·rw[Array.getElem?_eq_none (by omega)] at h;cases h
 rw[F o D] at h;cases h;exact J _ _ _ rfl
theorem SW.take{J:W0}{d me:Nat}{W:Wl}{s:SD}{V:World}(I:SW J d me W s V)(hq:s.q me=none)(hl:(que W me).length≠0) :
  ∃ b o,s.Q me=(some ⟨b,o,none⟩,(que W me).length)/\¬ s.g3=b/\V.cell? ⟨b,o+1,none⟩=some (.slice (s.G me 0).1 ((que W me).getD 0 ⟨0,[]⟩).g.length (s.G me 0).2)/\St (SX J.heap.size d s) (fun V=>zaF V (s.G me 0).1 ((que W me).getD 0 ⟨0,[]⟩).g) V /\
   ∀ E M,SW J d me W s E->(M=some ⟨b,o+2,none⟩\/((que W me).length=1/\∀ D,M=some D->∃ b o,D=⟨b,o,none⟩)) ->
    ∃ U,SW J d me { W with qs:=W.qs.set me ((que W me).drop 1) } U (E.setCell ⟨s.g3,me,none⟩ (.slice M ((que W me).length-1) ((que W me).length-1)))/\U.g1=s.g1/\U.R=s.R/\∀ b,SX J.heap.size d U b->SX J.heap.size d s b:=by
 have HR:=zqs I.rt I.sf;have hg:=fun E (h:SW J d me W s E)=>h.dp.qg me I.sf;have hA:=fun E (h:SW J d me W s E)=>(h.dp.qs me I.sf).2
 have key:∀ E,SW J d me W s E->(s.Q me).2=(que W me).length/\(((s.Q me).1=none->(que W me).length=0)/\∀ D,(s.Q me).1=some D->∃ b o,D=⟨b,o,none⟩)/\St (SX J.heap.size d s) (fun V=>∀ D,(s.Q me).1=some D->∀ j u,(zcv (que W me) (s.G me))[j]?=some u->V.cell? (D.add j)=some u) E:=fun E h=>by
  rcases hA E h with ⟨_,O,h3,h4⟩ |⟨b,h1,_⟩
  ·exact⟨O,h3,h4⟩
  ·rw[hq] at h1;cases h1
 obtain⟨k1,k2,k3⟩:=key V I
 obtain⟨D,F⟩:∃ D,(s.Q me).1=some D:=by
  cases h:(s.Q me).1 with
  | none=>exact absurd (k2.1 h) hl
  | some D=>exact⟨D,rfl⟩
 obtain⟨b,o,rfl⟩:=k2.2 D F
 obtain⟨m,r,Z⟩:∃ m r,que W me=m :: r:=by
  cases h:que W me with
  | nil=>rw[h] at hl;exact absurd rfl hl
  | cons m r=>exact⟨m,r,rfl⟩
 rw[Z] at hg key k1 k3 HR |-;refine⟨b,o,Prod.ext F k1,I.no_row3 (k3.at _ F 0 (.int .i64 m.f) (by rw[zgv];rfl)) (fun _ _ _ h=>by cases h),?_,hg V I 0 (by simp),fun E M O T=>?_⟩
 ·have:=k3.at _ F 1 (.slice (s.G me 0).1 m.g.length (s.G me 0).2) (by rw[zgv];rfl);exact this
 ·have hs:=O.queue (k:=me) (c:=r.length) (a:=M) (q:=r) (G:=fun j=>s.G me (j+1)) I.sf ?_ ?_ rfl (fun j hj=>hg E O (j+1) (by simp;omega)) HR
  ·refine⟨_,hs,rfl,rfl,fun b hb=>?_⟩;rcases hb with h|h|h|h|h|h |⟨i,h⟩
   ·exact .inl h
   ·exact .inr (.inl h)
   ·exact .inr (.inr (.inl h))
   ·exact .inr (.inr (.inr (.inl h)))
   ·exact .inr (.inr (.inr (.inr (.inl h))))
   ·exact .inr (.inr (.inr (.inr (.inr (.inl h)))))
   ·refine .inr (.inr (.inr (.inr (.inr (.inr ⟨i,?_⟩)))));dsimp only at h
    split at h
    ·cases h
    ·exact h
  ·intro V3 ho D hd j u hu;rcases T with rfl |⟨hr,_⟩
   ·cases hd;have:=(key E O).2.2 V3 ho _ F (j+2) u (by rw[zgv,List.getElem?_append_right (by simp)];exact hu)
    have e:(⟨b,o,none⟩:Addr).add (j+2)=(⟨b,o+2,none⟩:Addr).add j:=by
     have e1:o+(j+2)=o+2+j:=by omega
     first|(show (⟨b,o+(j+2),none⟩:Addr)=⟨b,o+2+j,none⟩;rw[e1])|(unfold Addr.add;simp[e1])
    rw[<- e];exact this
   ·have:r=[]:=by
     cases r with
     | nil=>rfl
     | cons _ _=>simp at hr
    subst this;simp[zcv] at hu
  ·rcases T with rfl |⟨hr,hs⟩
   ·exact⟨(fun h=>by cases h),fun D h=>by cases h;exact⟨_,_,rfl⟩⟩
   ·exact⟨fun _=>by simpa using hr,hs⟩
variable {H:Type} {enc:TypeId × Value->H} {w:World} {base:Nat} {spare:Nat->Bool} {held:Bool}
theorem zsl:Tryz.prog.cellsOf 3=1:=by kernel_rfl
theorem zhq:Tryz.prog.cellsOf 55=2:=by kernel_rfl
theorem ziP:Tryz.prog.cellsOf 47=1:=by kernel_rfl
theorem zkN{fuel:Nat}{I:List Value}{x:DataW H × List MemPlace}(h:DataW.trod enc Tryz.prog w base spare held fuel 48 I=some x) :
  ∃ ka kc,∃ ks:List Int,I=[.slice ka ks.length kc]/\ks.length<=kc/\kc<=9223372036854775807/\zal w ka ks:=by
 rcases open_ints Tryz.underlying48 Tryz.underlying3 zsl h with ⟨rfl,_⟩ |⟨a,len,cap,F,rfl,_,hl,M,O,_,D,_⟩
 ·exact⟨none,0,[],rfl,by simp,by omega,fun i hi=>absurd hi (yw _)⟩
 ·have J:len<=F.length:=by rw[O];split <;> omega
  have E:(F.take len).length=len:=by rw[List.length_take];omega
  refine⟨some a,cap,F.take len,by rw[E],by rw[E];exact hl,by unfold maxLen at M;omega,fun i hi=>?_⟩;rw[E] at hi;obtain⟨b,off,rfl,hc⟩:=ints_at D (by omega);refine⟨b,off,rfl,?_⟩;rw[hc i (by omega),zae F 0 (by omega),zae (F.take len) 0 (by omega),List.getElem_take]
theorem ztO{fuel b o:Nat}{D:List Value}{x:DataW H × List MemPlace}(h:DataW.trod enc Tryz.prog w base spare held fuel 55 D=some x)(hc:∀ j,j<2->w.cell? ⟨b,o+j,none⟩=D[j]?) :
  ∃ y:Cl,zyP w b o y/\y.ks.length<=9223372036854775807:=by
 obtain⟨xs,n,_,_,hl,E,F⟩:=DataW.trod_struct Tryz.underlying55 h;rw[zhq] at hl
 match D,hl with
 | [a0,a1],_ =>
  match xs,E with
  | [x0,x1],_ =>
   have M:=F 0 _ rfl;have g1:=F 1 _ rfl;obtain⟨Z,I,_⟩:=DataW.trod_int Tryz.underlying3 M;obtain⟨ka,kc,ks,J,T,U,O⟩:=zkN g1
   cases I;cases J
   exact⟨⟨Z,ks⟩,⟨hc 0 (by omega),ka,kc,hc 1 (by omega),O⟩,by show ks.length<=_;omega⟩
theorem zwi(len:Nat)(P:Nat->Cl->Prop)(h:∀ i,i<len->∃ x,P i x):∃ S:List Cl,S.length=len/\∀ i,i<len->P i (cl S i):=by
 induction len with
 | zero=>exact⟨[],rfl,fun i hi=>absurd hi (yw _)⟩
 | succ n I =>
  obtain⟨S,hl,E⟩:=I (fun i hi=>h i (by omega));obtain⟨x,F⟩:=h n (by omega);refine⟨S++[x],by simp[hl],fun i hi=>?_⟩;by_cases e:i=n
  ·subst e;rw[zco (by simp[hl])];simpa [hl] using F
  ·have D:i<S.length:=(by omega);have:=E i (by omega);rw[zco D] at this;rw[zco (by simp;omega),List.getElem_append_left D];exact this
theorem zhF{fuel:Nat}{cs:List Value}{x:DataW H × List MemPlace}(h:DataW.trod enc Tryz.prog w base spare held fuel 45 cs=some x) :
  ∃ a c,∃ S:List Cl,cs=[.slice a S.length c]/\S.length<=9223372036854775807/\zlb S/\zaF w a S:=by
 rcases Go.Deep.open_slice Tryz.underlying45 h with ⟨rfl,_⟩ |⟨a,len,cap,m,n,D,Pl,rfl,_,hl,hm,Z,_,hx⟩
 ·exact⟨none,0,[],rfl,by simp,fun i hi=>absurd hi (yw _),fun i hi=>absurd hi (yw _)⟩
 ·have a6:len<=m:=by rw[Z];split <;> omega
  obtain⟨M,O,J⟩:=a;by_cases h0:len=0
  ·subst h0;exact⟨_,cap,[],rfl,by simp,fun i hi=>absurd hi (yw _),fun i hi=>absurd hi (yw _)⟩
  ·have a5:J=none:=by
    obtain⟨T,hc,ht⟩:=hx 0 (by omega);rw[zhq] at hc;obtain⟨_,U,E⟩:=World.cells?_some hc;have h1:=E 0 (by omega);rw[List.getElem?_eq_getElem (by omega)] at h1;simpa [Addr.add] using World.cell?_spot h1
   subst a5
   obtain⟨S,F,I⟩:=zwi len (fun i x=>zyP w M (O+i*2) x/\x.ks.length<=9223372036854775807) (fun i hi=>by
    obtain⟨T,hc,ht⟩:=hx i (by omega);rw[zhq] at hc;obtain⟨_,U,E⟩:=World.cells?_some hc;refine ztO ht (fun j hj=>?_);have h1:=E j hj
    rwa [add_plain,add_plain] at h1)
   exact⟨some ⟨M,O,none⟩,cap,S,by rw[F],by rw[F];unfold maxLen at hm;omega,fun i hi=>(I i (by omega)).2,fun i hi=>⟨M,O,rfl,(I i (by omega)).1⟩⟩
end Go.Proofs.YtcbcpomacdngmaaGreat
