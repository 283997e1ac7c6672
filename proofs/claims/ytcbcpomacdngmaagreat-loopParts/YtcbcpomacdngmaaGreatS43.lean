/-
  x
-/
import Derived.Test.YtcbcpomacdngmaaGreatS42
namespace Go.Proofs.YtcbcpomacdngmaaGreat
set_option maxRecDepth 100000
set_option maxHeartbeats 4000000
set_option linter.unusedVariables false
open Go.RowKit Go.ChangeShapes Go.WideShapes
theorem zxf(w:World){D E:Nat}(I J:Nat)(v1 v2:Value)(h:D≠E):(w.setCell ⟨D,I,none⟩ v1).setCell ⟨E,J,none⟩ v2=(w.setCell ⟨E,J,none⟩ v2).setCell ⟨D,I,none⟩ v1:=by
 unfold World.setCell
 congr 1
 apply Array.ext
 ·simp
 ·intro i h1 O;simp only[Array.getElem_modify];by_cases F:D=i
  ·have M:¬ E=i:=fun e=>h (F.trans e.symm);simp[F,M]
  ·simp[F]
def zzu(E:W0)(d me:Nat)(W:Wl)(st:Bool)(s:SD)(e:Ending)(w' : World):Prop:=∃ ga gc D,e=.returned (.agg #[.slice ga (if st then [] else ((que W me).getD 0 ⟨0,[]⟩).g).length gc])/\SW E d me (if st then W else { W with qs:=W.qs.set me ((que W me).drop 1) }) D w' /\ D.g1=s.g1/\St (SX E.heap.size d D) (fun V=>zaI V ga (if st then [] else ((que W me).getD 0 ⟨0,[]⟩).g)) w'
theorem zxl(me:Nat)(W:Wl)(st:Bool)(M:W0)(d:Nat)(s:SD)(V:World)(I:SW M d me W s V)(hq:s.q me=none)(hl:st=false->(que W me).length≠0):yM 40 #[.pointer (some ⟨d,0,none⟩),.agg #[.int .i64 (me:Int),.bool st]] V (zzu M d me W st s):=by
 have Z:Hid (SW M d me W s V):=I;have b0:Hid _:=I.lt;obtain⟨l0,l1,l2,l3,l4,lf,ll⟩:=zal I.box;have n8:W.fs.length<=8:=I.rt.fs.few;have a8:me<W.fs.length:=I.sf;have r3:V.cell? ⟨s.g3,me,none⟩=some (.slice (s.Q me).1 (que W me).length (s.Q me).2):=(I.r3.cell a8);clear l0 l1 l2 l4;cases st
 ·obtain⟨b,o,hQ,a6,hc,HS,HT⟩:=I.take hq (hl rfl);rw[hQ] at r3;have U:Hid _:=HT;have F:Hid _:=HS;have b6:=hl rfl;clear HT HS hl hq I;have b1:b<V.heap.size:=yd _ _ hc;have b2:s.g3<V.heap.size:=yd _ _ r3;have HN:Hid _:=n8;generalize W.fs.length=n at *;generalize s.G me 0=g0 at *;obtain⟨G,hG⟩:∃ G,((que W me).getD 0 ⟨0,[]⟩).g=G:=⟨_,rfl⟩;have HG:Hid _:=hG;rw[hG] at hc F;clear hG;obtain⟨ga,gc⟩:=g0;dsimp only at hc F
  go_enter Tryz.func40,Tryz.ntmps40
  go_upto_region 1 with fail
  obtain⟨E,D⟩:∃ E,(V.alloc (.cells #[.int .i64 me,.bool false] 40)).alloc (.cells #[.slice none 0 0] 47)=E:=⟨_,rfl⟩;have O:Hid (Below V.heap.size V E):=by rw[<- D];exact(zaa _ _).trans ((zaa _ _).mono (by simp))
  have y0:E.cell? ⟨V.heap.size,0,none⟩=some (.int .i64 me):=by rw[<- D];exact zax _ _ _ 0 _ rfl
  have y1:E.cell? ⟨V.heap.size,1,none⟩=some (.bool false):=by rw[<- D];exact zax _ _ _ 1 _ rfl
  have z0:E.cell? ⟨V.heap.size+1,0,none⟩=some (.slice none 0 0):=by rw[<- D];exact zay _ _ _ 0 _ rfl
  have zf:E.frozen? ⟨V.heap.size+1,0,none⟩=false:=by
   rw[<- D];have h:=zaW (o:=0) (yL (V.alloc (.cells #[.int .i64 me,.bool false] 40)) (.cells #[.slice none 0 0] 47));rw[show (V.alloc (.cells #[.int .i64 me,.bool false] 40)).heap.size=V.heap.size+1 from by simp] at h;exact h
  have T:Hid (∀ J,(J=some ⟨b,o+2,none⟩\/((que W me).length=1/\∀ ad,J=some ad->∃ b o,ad=⟨b,o,none⟩))->zzu M d me W false s (.returned (.agg #[.slice ga G.length gc])) ((E.setCell ⟨s.g3,me,none⟩ (.slice J ((que W me).length-1) ((que W me).length-1))).setCell ⟨V.heap.size+1,0,none⟩ (.slice ga G.length gc)).drew.drew):=fun J a5=>by
   have HB:Below V.heap.size V (E.setCell ⟨V.heap.size+1,0,none⟩ (.slice ga G.length gc)):=O.out.setCell (by show V.heap.size<=V.heap.size+1;omega) _;obtain⟨s', h1,h2,_,h4⟩:=U.out _ J (Z.out.below HB) a5;rw[zxf E me 0 _ _ (show s.g3≠V.heap.size+1 by omega)];refine⟨ga,gc,s', ?_,h1.below (yk _ _).drew.drew,h2,?_⟩
   ·rw[<- HG.out];rfl
   ·have h5:=(St.off (show St (SX M.heap.size d s) (fun V=>zaI V ga G) V from F.out) (((zaq.of_below HB).trans (zaq.set (X:=SX M.heap.size d s) (o:=me) _ (.slice J ((que W me).length-1) ((que W me).length-1)) (.inr (.inr (.inr (.inr (.inl rfl))))))).trans (zaq.of_below (yk _ _).drew.drew))).less h4;show St _ (fun V=>zaI V ga ((que W me).getD 0 ⟨0,[]⟩).g) _;rw[HG.out];exact h5
  rw[D];clear D;replace l3:=zab l3 O.out;replace r3:=zab r3 O.out;replace hc:=zab hc O.out;have b3:(me:Int)<(n:Int):=by omega
  have f3:E.frozen? ⟨s.g3,me,none⟩=false:=(Z.out.below O.out).r3.frozen _
  go_wp2_with fail
  have b7:¬ s.g3=V.heap.size:=by omega
  have b8:¬ s.g3=V.heap.size+1:=by omega
  have b9:¬ V.heap.size+1=s.g3:=by omega
  have c6:¬ V.heap.size=s.g3:=by omega
  have a9:¬ b=s.g3:=fun e=>a6 e.symm;generalize (que W me).length=m at *;by_cases a7:m=1
  ·subst a7
   go_region
   go_wp2_with fail
   go_region
   go_wp2
   exact yw (v:=.agg #[.slice ga G.length gc]) (by simp[results,Tryz.results40,go_sem,z0]) rfl (T.out (some ⟨b,o,none⟩) (.inr ⟨by trivial,fun ad h=>by cases h;exact⟨_,_,rfl⟩⟩))
  ·have b4:¬ ((m:Int)=1):=(by omega);have b5:(1:Int)<=(m:Int):=by omega
   go_region
   go_wp2_with fail
   go_region
   go_wp2
   exact yw (v:=.agg #[.slice ga G.length gc]) (by simp[results,Tryz.results40,go_sem,z0]) rfl (T.out (some ⟨b,o+2,none⟩) (.inl rfl))
 ·clear hl hq I r3 l3
  go_enter Tryz.func40,Tryz.ntmps40
  go_wp2
  refine yw (v:=.agg #[.slice none 0 0]) (by simp[results,Tryz.results40,go_sem]) rfl ⟨none,0,s,rfl,Z.out.below ?_,rfl,fun _ _ i hi=>absurd hi (yx i)⟩;exact(zaa _ _).trans ((zaa _ _).mono (by simp))
theorem ziB{α:Type}{z:α}{A B:List α}(hl:A.length=B.length)(h:∀ i,i<A.length->A.getD i z=B.getD i z):A=B:=by
 refine List.ext_getElem hl fun i h1 D=>?_;have:=h i h1
 rwa [zae _ _ h1,zae _ _ D] at this
theorem zmC(a a' : Option Addr)(c c' : Nat)(A B:List Ac)(w:World)(hN:A.length<=9223372036854775807)(h1:zbX w a A)(h2:zbX w a' B) :
  yM 18 #[.slice a A.length c,.slice a' B.length c'] w fun e w' => ∃ r:Bool,e=.returned (.bool r)/\Below w.heap.size w w' /\(r=true↔A=B):=by
 by_cases hl:A.length=B.length
 ·have E1:Hid ((∀ i,i<A.length->ac A i=ac B i)->A=B):=fun h=>ziB hl h;have E2:Hid (∀ i,ac A i≠ac B i->A≠B):=fun i h e=>h (by rw[e]);have H1:Hid (zbX w a A):=h1;have H2:Hid (zbX w a' B):=h2;have HL:Hid (B.length=A.length):=hl.symm;rw[<- hl];clear h1 h2 hl;obtain⟨n,hn⟩:∃ n,A.length=n:=⟨_,rfl⟩;have HN:Hid (A.length=n):=hn;rw[hn] at hN E1 HL |-;clear hn
  go_enter Tryz.func18,Tryz.ntmps18
  go_wp2
  go_loopg [13] n (fun g s13 wr=>∃ k:Nat,k<=n/\n-k<=g/\s13=.int .i64 k/\Below w.heap.size w wr/\Hid (∀ i,i<k->ac A i=ac B i))
  case atStart=>exact⟨0,by omega,by omega,rfl,yk _ _,fun i hi=>by omega⟩
  case round =>
   obtain⟨k,hk,hg,rfl,E,AA⟩:=hrel;by_cases I:k<n
   ·have a6:(k:Int)<(n:Int):=(by omega);obtain⟨b,o,rfl,c0,c1,c2,c3,c4⟩:=(H1.out.below E) k (by rw[HN.out];exact I);obtain⟨b', o', rfl,e0,e1,e2,e3,e4⟩:=(H2.out.below E) k (by rw[HL.out];exact I)
    have KK:Hid (ac A k=ac B k->∀ i,i<k+1->ac A i=ac B i):=fun h i hi=>by
     by_cases e:i=k
     ·subst e;exact h
     ·exact AA.out i (by omega)
    have F:Hid _:=E2.out k;generalize ac A k=x at *;generalize ac B k=y at *;obtain⟨x0,x1,x2,x3,x4⟩:=x;obtain⟨y0,y1,y2,y3,y4⟩:=y;dsimp only at c0 c1 c2 c3 c4 e0 e1 e2 e3 e4;by_cases M:x0=y0
    ·subst M;by_cases O:x1=y1
     ·subst O;by_cases T:x2=y2
      ·subst T;by_cases U:x3=y3
       ·subst U;by_cases Z:x4=y4
        ·subst Z
         go_wp2_with fail
         go_quiet (fail)
         go_wp2
         go_roundg (n-(k+1))
         case measure=>omega
         case rel=>exact⟨k+1,by omega,by omega,by go_num,zbL E _,KK.out trivial⟩
        ·have r2:(x4 == y4)=false:=beq_eq_false_iff_ne.2 Z;have r3:decide (x4=y4)=false:=yF Z;have D:Hid (A≠B):=F.out (fun h=>Z (congrArg Ac.n h))
         go_wp2_with fail
         go_quiet (fail)
         go_wp2
         go_ret;exact⟨false,rfl,zbL E _,⟨fun h=>(by cases h),fun h=>absurd h D.out⟩⟩
       ·have r2:(x3 == y3)=false:=beq_eq_false_iff_ne.2 U;have r3:decide (x3=y3)=false:=yF U;have D:Hid (A≠B):=F.out (fun h=>U (congrArg Ac.c h))
        go_wp2_with fail
        go_quiet (fail)
        go_wp2
        go_ret;exact⟨false,rfl,zbL E _,⟨fun h=>(by cases h),fun h=>absurd h D.out⟩⟩
      ·have r2:(x2 == y2)=false:=beq_eq_false_iff_ne.2 T;have r3:decide (x2=y2)=false:=yF T;have D:Hid (A≠B):=F.out (fun h=>T (congrArg Ac.b h))
       go_wp2_with fail
       go_quiet (fail)
       go_wp2
       go_ret;exact⟨false,rfl,zbL E _,⟨fun h=>(by cases h),fun h=>absurd h D.out⟩⟩
     ·have r2:(x1 == y1)=false:=beq_eq_false_iff_ne.2 O;have r3:decide (x1=y1)=false:=yF O;have D:Hid (A≠B):=F.out (fun h=>O (congrArg Ac.a h))
      go_wp2_with fail
      go_quiet (fail)
      go_wp2
      go_ret;exact⟨false,rfl,zbL E _,⟨fun h=>(by cases h),fun h=>absurd h D.out⟩⟩
    ·have r2:(x0 == y0)=false:=beq_eq_false_iff_ne.2 M;have r3:decide (x0=y0)=false:=yF M;have D:Hid (A≠B):=F.out (fun h=>M (congrArg Ac.k h))
     go_wp2_with fail
     go_quiet (fail)
     go_wp2
     go_ret;exact⟨false,rfl,zbL E _,⟨fun h=>(by cases h),fun h=>absurd h D.out⟩⟩
   ·have:k=n:=(by omega);subst this;have Y:Hid (A=B):=E1.out AA.out
    go_wp2
    go_ret;exact⟨true,rfl,E,⟨fun _=>Y.out,fun _=>rfl⟩⟩
 ·have J:A≠B:=fun e=>hl (by rw[e]);have a5:Hid (A≠B):=J;have a7:decide ((A.length:Int)=(B.length:Int))=false:=yF (by omega);have a8:((A.length:Int) ==(B.length:Int))=false:=beq_eq_false_iff_ne.2 (by omega);have a9:(A.length == B.length)=false:=beq_eq_false_iff_ne.2 hl;clear h1 h2 J;generalize A.length=n at *;generalize B.length=m at *
  go_enter Tryz.func18,Tryz.ntmps18
  go_wp2
  go_ret;exact⟨false,rfl,yk _ _,⟨fun h=>(by cases h),fun h=>absurd h a5.out⟩⟩
theorem zmD(a a' : Option Addr)(c c' : Nat)(A B:List Fr)(w:World)(hN:A.length<=9223372036854775807)(h1:zaP w a A)(h2:zaP w a' B) :
  yM 26 #[.slice a A.length c,.slice a' B.length c'] w fun e w' => ∃ r:Bool,e=.returned (.bool r)/\Below w.heap.size w w' /\(r=true↔A=B):=by
 by_cases hl:A.length=B.length
 ·have E1:Hid ((∀ i,i<A.length->fr A i=fr B i)->A=B):=fun h=>ziB hl h;have E2:Hid (∀ i,fr A i≠fr B i->A≠B):=fun i h e=>h (by rw[e]);have H1:Hid (zaP w a A):=h1;have H2:Hid (zaP w a' B):=h2;have HL:Hid (B.length=A.length):=hl.symm;rw[<- hl];clear h1 h2 hl;obtain⟨n,hn⟩:∃ n,A.length=n:=⟨_,rfl⟩;have HN:Hid (A.length=n):=hn;rw[hn] at hN E1 HL |-;clear hn
  go_enter Tryz.func26,Tryz.ntmps26
  go_wp2
  go_loopg [13] n (fun g s13 wr=>∃ k:Nat,k<=n/\n-k<=g/\s13=.int .i64 k/\Below w.heap.size w wr/\Hid (∀ i,i<k->fr A i=fr B i))
  case atStart=>exact⟨0,by omega,by omega,rfl,yk _ _,fun i hi=>by omega⟩
  case round =>
   obtain⟨k,hk,hg,rfl,E,AA⟩:=hrel;by_cases I:k<n
   ·have a6:(k:Int)<(n:Int):=(by omega);obtain⟨b,o,rfl,c0,c1,c2,c3,c4⟩:=(H1.out.below E) k (by rw[HN.out];exact I);obtain⟨b', o', rfl,e0,e1,e2,e3,e4⟩:=(H2.out.below E) k (by rw[HL.out];exact I)
    have KK:Hid (fr A k=fr B k->∀ i,i<k+1->fr A i=fr B i):=fun h i hi=>by
     by_cases e:i=k
     ·subst e;exact h
     ·exact AA.out i (by omega)
    have F:Hid _:=E2.out k;generalize fr A k=x at *;generalize fr B k=y at *;obtain⟨x0,x1,x2,x3,x4⟩:=x;obtain⟨y0,y1,y2,y3,y4⟩:=y;dsimp only at c0 c1 c2 c3 c4 e0 e1 e2 e3 e4;by_cases M:x0=y0
    ·subst M;by_cases O:x1=y1
     ·subst O;by_cases T:x2=y2
      ·subst T;by_cases U:x3=y3
       ·subst U;by_cases Z:x4=y4
        ·subst Z
         go_wp2_with fail
         go_quiet (fail)
         go_wp2
         go_roundg (n-(k+1))
         case measure=>omega
         case rel=>exact⟨k+1,by omega,by omega,by go_num,zbL E _,KK.out trivial⟩
        ·have r2:(x4 == y4)=false:=beq_eq_false_iff_ne.2 Z;have r3:decide (x4=y4)=false:=yF Z;have D:Hid (A≠B):=F.out (fun h=>Z (congrArg Fr.g h))
         go_wp2_with fail
         go_quiet (fail)
         go_wp2
         go_ret;exact⟨false,rfl,zbL E _,⟨fun h=>(by cases h),fun h=>absurd h D.out⟩⟩
       ·have r2:(x3 == y3)=false:=beq_eq_false_iff_ne.2 U;have r3:decide (x3=y3)=false:=yF U;have D:Hid (A≠B):=F.out (fun h=>U (congrArg Fr.t h))
        go_wp2_with fail
        go_quiet (fail)
        go_wp2
        go_ret;exact⟨false,rfl,zbL E _,⟨fun h=>(by cases h),fun h=>absurd h D.out⟩⟩
      ·have r2:(x2 == y2)=false:=beq_eq_false_iff_ne.2 T;have r3:decide (x2=y2)=false:=yF T;have D:Hid (A≠B):=F.out (fun h=>T (congrArg Fr.m h))
       go_wp2_with fail
       go_quiet (fail)
       go_wp2
       go_ret;exact⟨false,rfl,zbL E _,⟨fun h=>(by cases h),fun h=>absurd h D.out⟩⟩
     ·have r2:(x1 == y1)=false:=beq_eq_false_iff_ne.2 O;have r3:decide (x1=y1)=false:=yF O;have D:Hid (A≠B):=F.out (fun h=>O (congrArg Fr.o h))
      go_wp2_with fail
      go_quiet (fail)
      go_wp2
      go_ret;exact⟨false,rfl,zbL E _,⟨fun h=>(by cases h),fun h=>absurd h D.out⟩⟩
    ·have r2:(x0 == y0)=false:=beq_eq_false_iff_ne.2 M;have r3:decide (x0=y0)=false:=yF M;have D:Hid (A≠B):=F.out (fun h=>M (congrArg Fr.p h))
     go_wp2_with fail
     go_quiet (fail)
     go_wp2
     go_ret;exact⟨false,rfl,zbL E _,⟨fun h=>(by cases h),fun h=>absurd h D.out⟩⟩
   ·have:k=n:=(by omega);subst this;have Y:Hid (A=B):=E1.out AA.out
    go_wp2
    go_ret;exact⟨true,rfl,E,⟨fun _=>Y.out,fun _=>rfl⟩⟩
 ·have J:A≠B:=fun e=>hl (by rw[e]);have a5:Hid (A≠B):=J;have a7:decide ((A.length:Int)=(B.length:Int))=false:=yF (by omega);have a8:((A.length:Int) ==(B.length:Int))=false:=beq_eq_false_iff_ne.2 (by omega);have a9:(A.length == B.length)=false:=beq_eq_false_iff_ne.2 hl;clear h1 h2 J;generalize A.length=n at *;generalize B.length=m at *
  go_enter Tryz.func26,Tryz.ntmps26
  go_wp2
  go_ret;exact⟨false,rfl,yk _ _,⟨fun h=>(by cases h),fun h=>absurd h a5.out⟩⟩
def zAQ(q:List Ml):Prop:=∀ j,j<q.length->(ml q j).g.length<=9223372036854775807/\zjV (ml q j).g
def zse(K:Nat):Prop:=∀ (x y:Ml) (ka D:Option Addr) (kc E:Nat) (W:World),x.g.length<=9223372036854775807->zjV x.g->zaI W ka x.g->zaI W D y.g ->
 yM K #[.agg #[.int .i64 x.f,.slice ka x.g.length kc],.agg #[.int .i64 y.f,.slice D y.g.length E]] W fun e w' => ∃ r:Bool,e=.returned (.bool r)/\Below W.heap.size W w' /\(r=true↔x=y)
theorem zmF(K:Nat)(eg:∀ args w,(callFunc K args).run Tryz.prog w=.ok (.enter K args) w)(hK:zse K)(a a' : Option Addr)(c c' : Nat)(S D:List Ml)(w:World)(hN:S.length<=9223372036854775807)(hB:zAQ S)(h1:zeW w a S)(h2:zeW w a' D) :
  yM 50 #[.slice a S.length c,.slice a' D.length c', .func (.func K) #[] #[]] w fun e w' => ∃ r:Bool,e=.returned (.bool r)/\Below w.heap.size w w' /\(r=true↔S=D):=by
 by_cases hl:S.length=D.length
 ·have E1:Hid ((∀ i,i<S.length->ml S i=ml D i)->S=D):=fun h=>ziB hl h;have E2:Hid (∀ i,ml S i≠ml D i->S≠D):=fun i h e=>h (by rw[e]);have H1:Hid (zeW w a S):=h1;have H2:Hid (zeW w a' D):=h2;have HB:Hid (zAQ S):=hB;have HK:Hid (zse K):=hK;have HL:Hid (D.length=S.length):=hl.symm;rw[<- hl];clear h1 h2 hB hl hK;generalize hn:S.length=n at *;have U:Hid _:=hn;clear hn
  go_enter Tryz.func50,Tryz.ntmps50
  go_wp2
  go_loopg [17] n (fun g s17 wr=>∃ k:Nat,k<=n/\n-k<=g/\s17=.int .i64 k/\Below w.heap.size w wr/\Hid (∀ i,i<k->ml S i=ml D i))
  case atStart=>exact⟨0,by omega,by omega,rfl,yk _ _,fun i hi=>by omega⟩
  case round =>
   obtain⟨k,hk,hg,rfl,E,A⟩:=hrel;by_cases F:k<n
   ·have a8:(k:Int)<(n:Int):=(by omega);obtain⟨b,o,ka,kc,rfl,cf,c0,J⟩:=(H1.out.below E) k (by rw[U.out];exact F);obtain⟨b', o', a5,a6,rfl,ef,e0,M⟩:=(H2.out.below E) k (by rw[HL.out];exact F);have a9:=yd _ _ c0;have a7:=yd _ _ e0;have d1:=fun o1 o2=>HK.out (ml S k) (ml D k) ka a5 kc a6 ((wr.alloc o1).alloc o2) (HB.out k (by rw[U.out];exact F)).1 (HB.out k (by rw[U.out];exact F)).2 (J.below (zaf _ _ _)) (M.below (zaf _ _ _));have T:Hid _:=E2.out k
    have KK:Hid (ml S k=ml D k->∀ i,i<k+1->ml S i=ml D i):=fun h i hi=>by
     by_cases e:i=k
     ·subst e;exact h
     ·exact A.out i (by omega)
    clear J M;have D1:Hid _:=d1;clear d1;generalize ml S k=x at *;generalize ml D k=y at *
    go_wp2_with fail
    refine(D1.out _ _).mono ?_;rintro e w3 ⟨r,rfl,I,O⟩
    cases r with
    | true =>
     have HR:Hid _:=O.1 rfl;clear O
     go_wp2
     go_roundg (n-(k+1))
     case measure=>omega
     case rel=>exact⟨k+1,by omega,by omega,by go_num,(E.trans ((zaf _ _ _).mono E.size)).trans (I.mono (by simp;have:=E.size;omega)),KK.out HR.out⟩
    | false =>
     have HR:Hid (S≠D):=T.out fun e=>by have:=O.2 e;cases this
     clear O
     go_wp2
     go_ret;exact⟨false,rfl,(E.trans ((zaf _ _ _).mono E.size)).trans (I.mono (by simp;have:=E.size;omega)),⟨fun h=>(by cases h),fun h=>absurd h HR.out⟩⟩
   ·have:k=n:=(by omega);subst this
    go_wp2
    go_ret;exact⟨true,rfl,E,⟨fun _=>E1.out A.out,fun _=>rfl⟩⟩
 ·have b0:¬ ((S.length:Int)=(D.length:Int)):=by omega
  have Z:Hid (S≠D):=fun e=>hl (by rw[e]);clear h1 h2 hB hK;generalize S.length=n at *;generalize D.length=n' at *
  go_enter Tryz.func50,Tryz.ntmps50
  go_wp2
  go_ret;exact⟨false,rfl,yk _ _,⟨fun h=>(by cases h),fun h=>absurd h Z.out⟩⟩
theorem zAm(x y:Ml):x=y↔x.f=y.f/\x.g=y.g:=by
 cases x;cases y;simp
theorem zrD(A B:RA)(R Q:Rl)(w:World)(hB:zvf R)(h1:zcZ w A R)(h2:zcZ w B Q) :
  yM 17 #[rlV A R,rlV B Q] w fun e w' => ∃ r:Bool,e=.returned (.bool r)/\Below w.heap.size w w' /\(r=true↔R=Q):=by
 obtain⟨a0,a1,a2,a3,c0,c1,c2,c3⟩:=A;obtain⟨Z,b1,b2,U,d0,d1,d2,d3⟩:=B;have EX:Hid (R=Q↔R.s=Q.s/\R.hs=Q.hs/\R.i=Q.i/\R.t=Q.t):=zAs;obtain⟨g1,g2,g3,g4,g5,g6⟩:=hB;have D1:Hid (∀ W,Below w.heap.size w W->_):=fun W O=>zxa a0 Z c0 d0 R.s Q.s W g1 g2 (h1.1.below O) (h2.1.below O);have D2:Hid (∀ W,Below w.heap.size w W->_):=fun W O=>zkh a1 b1 c1 d1 R.hs Q.hs W g3 (h1.2.1.below O) (h2.2.1.below O);have D3:Hid (∀ W,Below w.heap.size w W->_):=fun W O=>zjc a2 b2 c2 d2 R.i Q.i W g4 g5 (h1.2.2.1.below O) (h2.2.2.1.below O);have D4:Hid (∀ W,Below w.heap.size w W->yM 29 #[.slice a3 R.t.length c3,.slice U Q.t.length d3] W fun e w' => ∃ r:Bool,e=.returned (.bool r)/\Below W.heap.size W w' /\(r=true↔R.t=Q.t)):=fun W O=>(zgO a3 U c3 d3 R.t Q.t W g6 (h1.2.2.2.below O) (h2.2.2.2.below O)).mono fun e w' ⟨e1,D⟩=>⟨_,e1,D,decide_eq_true_iff⟩;clear h1 h2 g1 g2 g3 g4 g5 g6;dsimp only[rlV];generalize R.s=x0 at *;generalize Q.s=y0 at *;generalize R.hs=x1 at *;generalize Q.hs=y1 at *;generalize R.i=x2 at *;generalize Q.i=y2 at *;generalize R.t=x3 at *;generalize Q.t=y3 at *;generalize x0.length=m0 at *;generalize y0.length=n0 at *;generalize x1.length=m1 at *;generalize y1.length=n1 at *;generalize x2.length=m2 at *;generalize y2.length=n2 at *;generalize x3.length=m3 at *;generalize y3.length=n3 at *
 go_enter Tryz.func17,Tryz.ntmps17
 go_wp2_with fail
 refine ye (D1.out _ (zaf _ _ _)) ?_;rintro e W1 ⟨r1,rfl,D,T⟩;have a5:Hid _:=T;clear T;have E:Hid (Below w.heap.size w W1):=(zaf w _ _).trans (D.mono (by simp;omega));have l0:=zab (zax w #[.slice a0 m0 c0,.slice a1 m1 c1,.slice a2 m2 c2,.slice a3 m3 c3] 50 0 (.cells #[.slice Z n0 d0,.slice b1 n1 d1,.slice b2 n2 d2,.slice U n3 d3] 50) rfl) D;have F:=zab (zay w #[.slice Z n0 d0,.slice b1 n1 d1,.slice b2 n2 d2,.slice U n3 d3] 50 0 (.cells #[.slice a0 m0 c0,.slice a1 m1 c1,.slice a2 m2 c2,.slice a3 m3 c3] 50) rfl) D;have l1:=zab (zax w #[.slice a0 m0 c0,.slice a1 m1 c1,.slice a2 m2 c2,.slice a3 m3 c3] 50 1 (.cells #[.slice Z n0 d0,.slice b1 n1 d1,.slice b2 n2 d2,.slice U n3 d3] 50) rfl) D;have I:=zab (zay w #[.slice Z n0 d0,.slice b1 n1 d1,.slice b2 n2 d2,.slice U n3 d3] 50 1 (.cells #[.slice a0 m0 c0,.slice a1 m1 c1,.slice a2 m2 c2,.slice a3 m3 c3] 50) rfl) D;have l2:=zab (zax w #[.slice a0 m0 c0,.slice a1 m1 c1,.slice a2 m2 c2,.slice a3 m3 c3] 50 2 (.cells #[.slice Z n0 d0,.slice b1 n1 d1,.slice b2 n2 d2,.slice U n3 d3] 50) rfl) D;have J:=zab (zay w #[.slice Z n0 d0,.slice b1 n1 d1,.slice b2 n2 d2,.slice U n3 d3] 50 2 (.cells #[.slice a0 m0 c0,.slice a1 m1 c1,.slice a2 m2 c2,.slice a3 m3 c3] 50) rfl) D;have l3:=zab (zax w #[.slice a0 m0 c0,.slice a1 m1 c1,.slice a2 m2 c2,.slice a3 m3 c3] 50 3 (.cells #[.slice Z n0 d0,.slice b1 n1 d1,.slice b2 n2 d2,.slice U n3 d3] 50) rfl) D
 have M:=zab (zay w #[.slice Z n0 d0,.slice b1 n1 d1,.slice b2 n2 d2,.slice U n3 d3] 50 3 (.cells #[.slice a0 m0 c0,.slice a1 m1 c1,.slice a2 m2 c2,.slice a3 m3 c3] 50) rfl) D;clear D D1;cases r1
 ·go_wp2_with fail
  go_ret;exact⟨_,rfl,E.out,⟨fun h=>(by cases h),fun h=>(by have:=a5.out.2 ((EX.out.1 h).1);cases this)⟩⟩
 go_wp2_with fail
 refine ye (D2.out _ E.out) ?_;rintro e W2 ⟨r2,rfl,D,T⟩;have a6:Hid _:=T;clear T;have E:Hid (Below w.heap.size w W2):=E.out.trans (D.mono E.out.size);have l0:=zab l0 D;have F:=zab F D;have l1:=zab l1 D;have I:=zab I D;have l2:=zab l2 D;have J:=zab J D;have l3:=zab l3 D;have M:=zab M D;clear D D2;cases r2
 ·go_wp2_with fail
  go_ret;exact⟨_,rfl,E.out,⟨fun h=>(by cases h),fun h=>(by have:=a6.out.2 ((EX.out.1 h).2.1);cases this)⟩⟩
 go_wp2_with fail
 refine ye (D3.out _ E.out) ?_;rintro e W3 ⟨r3,rfl,D,T⟩;have a7:Hid _:=T;clear T;have E:Hid (Below w.heap.size w W3):=E.out.trans (D.mono E.out.size);have l0:=zab l0 D;have F:=zab F D;have l1:=zab l1 D;have I:=zab I D;have l2:=zab l2 D;have J:=zab J D;have l3:=zab l3 D;have M:=zab M D;clear D D3;cases r3
 ·go_wp2_with fail
  go_ret;exact⟨_,rfl,E.out,⟨fun h=>(by cases h),fun h=>(by have:=a7.out.2 ((EX.out.1 h).2.2.1);cases this)⟩⟩
 go_wp2_with fail
 refine ye (D4.out _ E.out) ?_;rintro e W4 ⟨r4,rfl,D,T⟩;have a8:Hid _:=T;clear T;have E:Hid (Below w.heap.size w W4):=E.out.trans (D.mono E.out.size);have l0:=zab l0 D;have F:=zab F D;have l1:=zab l1 D;have I:=zab I D;have l2:=zab l2 D;have J:=zab J D;have l3:=zab l3 D;have M:=zab M D;clear D D4
 go_wp2_with fail
 go_ret;exact⟨_,rfl,E.out,⟨fun h=>EX.out.2 ⟨a5.out.1 trivial,a6.out.1 trivial,a7.out.1 trivial,a8.out.1 h⟩,fun h=>a8.out.2 (EX.out.1 h).2.2.2⟩⟩
end Go.Proofs.YtcbcpomacdngmaaGreat
