/-
  x
-/
import Derived.Test.YtcbcpomacdngmaaGreatA43
namespace Go.Proofs.YtcbcpomacdngmaaGreat
set_option maxRecDepth 100000
set_option maxHeartbeats 4000000
set_option linter.unusedVariables false
open Go.RowKit Go.ChangeShapes Go.WideShapes Go.ChangeAt Tryz
theorem Yt(w:Wd){D E:Nat}(I J:Nat)(v1 v2:Value)(h:D≠E):(w.setCell ⟨D,I,none⟩ v1).setCell ⟨E,J,none⟩ v2=(w.setCell ⟨E,J,none⟩ v2).setCell ⟨D,I,none⟩ v1:=by
 unfold World.setCell
 congr 1
 apply Array.ext
 ·simp
 ·intro i h1 O;simp only[Array.getElem_modify];by_cases F:D=i
  ·have M:¬ E=i:=fun e=>h (F.trans e.symm);simp[F,M]
  ·simp[F]
def ZQ(E:W0)(d me:Nat)(W:Wl)(st:Bool)(s:SD)(e:Ending)(w' : World):Prop:=∃ ga gc D,e=.returned (.agg #[.slice ga (if st then [] else ((que W me).getD 0 ⟨0,[]⟩).g).length gc])/\SW E d me (if st then W else { W with qs:=W.qs.set me ((que W me).drop 1) }) D w' /\ D.g1=s.g1/\St (SX E.heap.size d D) (fun V=>aO V ga (if st then [] else ((que W me).getD 0 ⟨0,[]⟩).g)) w'
theorem Yu(me:Nat)(W:Wl)(st:Bool)(M:W0)(d:Nat)(s:SD)(V:Wd)(I:SW M d me W s V)(hq:s.q me=none)(hl:st=false->(que W me).length≠0):yO 40 #[.pointer (some ⟨d,0,none⟩),.agg #[.int .i64 (me:Int),.bool st]] V (ZQ M d me W st s):=by
 have Z:Hid (SW M d me W s V):=I;have b0:Hid _:=I.lt;obtain⟨l0,l1,l2,l3,l4,lf,ll⟩:=bH I.box;have n8:W.fs.length<=8:=I.rt.fs.few;have a8:me<W.fs.length:=I.sf;have r3:V.cell? ⟨s.g3,me,none⟩=some (.slice (s.Q me).1 (que W me).length (s.Q me).2):=(I.r3.cell a8);clear l0 l1 l2 l4;cases st
 ·obtain⟨b,o,hQ,a6,hc,HS,HT⟩:=I.take hq (hl rfl);rw[hQ] at r3;have U:Hid _:=HT;have F:Hid _:=HS;have b6:=hl rfl;clear HT HS hl hq I;have b1:b<V.heap.size:=yi _ _ hc;have b2:s.g3<V.heap.size:=yi _ _ r3;have HN:Hid _:=n8;generalize W.fs.length=n at *;generalize s.G me 0=g0 at *;obtain⟨G,hG⟩:∃ G,((que W me).getD 0 ⟨0,[]⟩).g=G:=⟨_,rfl⟩;have HG:Hid _:=hG;rw[hG] at hc F;clear hG;obtain⟨ga,gc⟩:=g0;dsimp only at hc F
  go_enter func40,ntmps40
  go_upto_region 1 with fail
  obtain⟨E,D⟩:∃ E,(V.alloc (.cells #[.int .i64 me,.bool false] 40)).alloc (.cells #[.slice none 0 0] 47)=E:=⟨_,rfl⟩;have O:Hid (Bl V E):=by rw[<- D];exact(aB _ _).trans ((aB _ _).mono oac)
  have y0:E.cell? ⟨V.heap.size,0,none⟩=some (.int .i64 me):=by rw[<- D];exact fE _ _ _ 0 _ rfl
  have y1:E.cell? ⟨V.heap.size,1,none⟩=some (.bool false):=by rw[<- D];exact fE _ _ _ 1 _ rfl
  have z0:E.cell? ⟨V.heap.size+1,0,none⟩=some (.slice none 0 0):=by rw[<- D];exact fF _ _ _ 0 _ rfl
  have zf:E.frozen? ⟨V.heap.size+1,0,none⟩=false:=by
   rw[<- D];have h:=iB (o:=0) (yN (V.alloc (.cells #[.int .i64 me,.bool false] 40)) (.cells #[.slice none 0 0] 47));rw[show (V.alloc (.cells #[.int .i64 me,.bool false] 40)).heap.size=V.heap.size+1 from by simp] at h;exact h
  have T:Hid (∀ J,(J=some ⟨b,o+2,none⟩\/((que W me).length=1/\∀ ad,J=some ad->∃ b o,ad=⟨b,o,none⟩))->ZQ M d me W false s (.returned (.agg #[.slice ga G.length gc])) ((E.setCell ⟨s.g3,me,none⟩ (.slice J ((que W me).length-1) ((que W me).length-1))).setCell ⟨V.heap.size+1,0,none⟩ (.slice ga G.length gc)).drew.drew):=fun J a5=>by
   have HB:Bl V (E.setCell ⟨V.heap.size+1,0,none⟩ (.slice ga G.length gc)):=O.setCell (by show V.heap.size<=V.heap.size+1;omega) _;obtain⟨s', h1,h2,_,h4⟩:=U.out _ J (Z.below HB) a5;rw[Yt E me 0 _ _ (show s.g3≠V.heap.size+1 by omega)];refine⟨ga,gc,s', ?_,h1.below (yv _ _).drew.drew,h2,?_⟩
   ·rw[<- HG.out];rfl
   ·have h5:=(St.off (show St (SX M.heap.size d s) (fun V=>aO V ga G) V from F.out) (((aC.of_below HB).trans (aC.set (X:=SX M.heap.size d s) (o:=me) _ (.slice J ((que W me).length-1) ((que W me).length-1)) (.inr (.inr (.inr (.inr (.inl rfl))))))).trans (aC.of_below (yv _ _).drew.drew))).less h4;show St _ (fun V=>aO V ga ((que W me).getD 0 ⟨0,[]⟩).g) _;rw[HG.out];exact h5
  rw[D];clear D;replace l3:=aA l3 O;replace r3:=aA r3 O;replace hc:=aA hc O;have b3:(me:Int)<(n:Int):=oaa
  have f3:E.frozen? ⟨s.g3,me,none⟩=false:=(Z.below O).r3.frozen _
  go_wp2_with fail
  have b7:¬ s.g3=V.heap.size:=oaa
  have b8:¬ s.g3=V.heap.size+1:=oaa
  have b9:¬ V.heap.size+1=s.g3:=oaa
  have c6:¬ V.heap.size=s.g3:=oaa
  have a9:¬ b=s.g3:=fun e=>a6 e.symm;generalize (que W me).length=m at *;by_cases a7:m=1
  ·subst a7
   go_region
   go_wp2_with fail
   go_region
   go_wp2
   exact yz (v:=.agg #[.slice ga G.length gc]) (by simp[results,results40,go_sem,z0]) rfl (T (some ⟨b,o,none⟩) (.inr ⟨by trivial,fun ad h=>by cases h;exact⟨_,_,rfl⟩⟩))
  ·have b4:¬ ((m:Int)=1):=oaa;have b5:(1:Int)<=(m:Int):=oaa
   go_region
   go_wp2_with fail
   go_region
   go_wp2
   exact yz (v:=.agg #[.slice ga G.length gc]) (by simp[results,results40,go_sem,z0]) rfl (T (some ⟨b,o+2,none⟩) (.inl rfl))
 ·clear hl hq I r3 l3
  go_enter func40,ntmps40
  go_wp2
  refine yz (v:=.agg #[.slice none 0 0]) (by simp[results,results40,go_sem]) rfl ⟨none,0,s,rfl,Z.below ?_,rfl,fun _ _ i hi=>absurd hi (yB i)⟩;exact(aB _ _).trans ((aB _ _).mono oac)
variable {H:Type} {enc:TypeId × Value->H} {w:Wd} {base:Nat} {spare:Nat->Bool} {held:Bool}
theorem zzc:prog.cellsOf 3=1:=oad
theorem OV:prog.cellsOf 57=8:=oad
theorem zrX{fuel:Nat}{I:List Value}{x:DataW H × List MemPlace}(h:DataW.trod enc prog w base spare held fuel 48 I=some x) :
  ∃ ka kc,∃ ks:List Int,I=[.slice ka ks.length kc]/\ks.length<=9223372036854775807/\aG w ka ks:=by
 rcases open_ints underlying48 underlying3 zzc h with ⟨rfl,_⟩ |⟨a,len,cap,F,rfl,_,hl,M,O,_,D,_⟩
 ·exact⟨none,0,[],rfl,oac,fun i hi=>absurd hi (yB _)⟩
 ·have J:len<=F.length:=by rw[O];split <;> omega
  have E:(F.take len).length=len:=by rw[List.length_take];omega
  refine⟨some a,cap,F.take len,by rw[E],by rw[E];unfold maxLen at M;omega,fun i hi=>?_⟩;rw[E] at hi;obtain⟨b,off,rfl,hc⟩:=ints_at D oaa;refine⟨b,off,rfl,?_⟩;rw[hc i oaa,aJ F 0 oaa,aJ (F.take len) 0 oaa,List.getElem_take]
theorem zrY{fuel b o:Nat}{E:List Value}{x:DataW H × List MemPlace}(h:DataW.trod enc prog w base spare held fuel 57 E=some x)(hc:∀ j,j<8->w.cell? ⟨b,o+j,none⟩=E[j]?) :
  ∃ nd:Nd,nM w b o nd/\nd.ks.length<=9223372036854775807:=by
 obtain⟨xs,n,_,_,hl,I,D⟩:=DataW.trod_struct underlying57 h;rw[OV] at hl
 match E,hl with
 | [a0,a1,a2,a3,a4,a5,a6,a7],_ =>
  match xs,I with
  | [x0,x1,x2,x3,x4,x5,x6,x7],_ =>
   have g0:=D 0 _ rfl;have g1:=D 1 _ rfl;have g2:=D 2 _ rfl;have g3:=D 3 _ rfl;have g4:=D 4 _ rfl;have g5:=D 5 _ rfl;have g6:=D 6 _ rfl;have g7:=D 7 _ rfl;obtain⟨u,J,_⟩:=DataW.trod_bool underlying4 g0;obtain⟨n1,M,_⟩:=DataW.trod_int underlying3 g1;obtain⟨n2,O,_⟩:=DataW.trod_int underlying3 g2;obtain⟨n3,T,_⟩:=DataW.trod_int underlying3 g3;obtain⟨n4,U,_⟩:=DataW.trod_int underlying3 g4;obtain⟨ka,kc,ks,Z,F,hI⟩:=zrX g5;obtain⟨n6,e6,_⟩:=DataW.trod_int underlying3 g6;obtain⟨u7,e7,_⟩:=DataW.trod_bool underlying4 g7
   cases J;cases M;cases O;cases T;cases U;cases Z;cases e6;cases e7
   refine⟨⟨u,n1,n2,n3,n4,ks,n6,u7⟩,⟨?_,?_,?_,?_,?_,⟨ka,kc,?_,hI⟩,?_,?_⟩,F⟩
   ·exact hc 0 oaa
   ·exact hc 1 oaa
   ·exact hc 2 oaa
   ·exact hc 3 oaa
   ·exact hc 4 oaa
   ·exact hc 5 oaa
   ·exact hc 6 oaa
   ·exact hc 7 oaa
theorem zxD(len:Nat)(P:Nat->Nd->Prop)(h:∀ i,i<len->∃ x,P i x):∃ S:List Nd,S.length=len/\∀ i,i<len->P i (nd S i):=by
 induction len with
 | zero=>exact⟨[],rfl,fun i hi=>absurd hi (yB _)⟩
 | succ n I =>
  obtain⟨S,hl,E⟩:=I (fun i hi=>h i oaa);obtain⟨x,F⟩:=h n oaa;refine⟨S++[x],by simp[hl],fun i hi=>?_⟩;by_cases e:i=n
  ·subst e;rw[eQ (by simp[hl])];simpa [hl] using F
  ·have D:i<S.length:=oaa;have:=E i oaa;rw[eQ D] at this;rw[eQ oab,List.getElem_append_left D];exact this
theorem zpi{fuel:Nat}{cs:List Value}{x:DataW H × List MemPlace}(h:DataW.trod enc prog w base spare held fuel 41 cs=some x) :
  ∃ a c,∃ S:List Nd,cs=[.slice a S.length c]/\S.length<=9223372036854775807/\Big S/\aD w a S:=by
 rcases Go.Deep.open_slice underlying41 h with ⟨rfl,_⟩ |⟨a,len,cap,m,n,D,Pl,rfl,_,hl,hm,Z,_,hx⟩
 ·exact⟨none,0,[],rfl,oac,fun i hi=>absurd hi (yB _),fun i hi=>absurd hi (yB _)⟩
 ·have a6:len<=m:=by rw[Z];split <;> omega
  obtain⟨M,O,J⟩:=a;by_cases h0:len=0
  ·subst h0;exact⟨_,cap,[],rfl,oac,fun i hi=>absurd hi (yB _),fun i hi=>absurd hi (yB _)⟩
  ·have a5:J=none:=by
    obtain⟨T,hc,ht⟩:=hx 0 oaa;rw[OV] at hc;obtain⟨_,U,E⟩:=World.cells?_some hc;have h1:=E 0 oaa;rw[List.getElem?_eq_getElem oaa] at h1;simpa [Addr.add] using World.cell?_spot h1
   subst a5
   obtain⟨S,F,I⟩:=zxD len (fun i x=>nM w M (O+i*8) x/\x.ks.length<=9223372036854775807) (fun i hi=>by
    obtain⟨T,hc,ht⟩:=hx i oaa;rw[OV] at hc;obtain⟨_,U,E⟩:=World.cells?_some hc;refine zrY ht (fun j hj=>?_);have h1:=E j hj
    rwa [add_plain,add_plain] at h1)
   exact⟨some ⟨M,O,none⟩,cap,S,by rw[F],by rw[F];unfold maxLen at hm;omega,fun i hi=>(I i oaa).2,fun i hi=>⟨M,O,rfl,(I i oaa).1⟩⟩
theorem Aj:prog.cellsOf 61=2:=oad
theorem zun(len:Nat)(P:Nat->Int × Int->Prop)(h:∀ i,i<len->∃ x,P i x):∃ S:List (Int × Int),S.length=len/\∀ i,i<len->P i (S.getD i (0,0)):=by
 induction len with
 | zero=>exact⟨[],rfl,fun i hi=>absurd hi (yB _)⟩
 | succ n I =>
  obtain⟨S,hl,E⟩:=I (fun i hi=>h i oaa);obtain⟨x,F⟩:=h n oaa;refine⟨S++[x],by simp[hl],fun i hi=>?_⟩;by_cases e:i=n
  ·subst e;rw[aJ _ _ (by simp[hl])];simpa [hl] using F
  ·have D:i<S.length:=oaa;have:=E i oaa;rw[aJ _ _ D] at this;rw[aJ _ _ oab,List.getElem_append_left D];exact this
theorem Ak:prog.cellsOf 50=4:=oad
theorem OY:prog.cellsOf 36=5:=oad
theorem zpg{fuel:Nat}{cs:List Value}{x:DataW H × List MemPlace}(h:DataW.trod enc prog w base spare held fuel 44 cs=some x) :
  ∃ a c,∃ S:List (Int × Int),cs=[.slice a S.length c]/\S.length<=9223372036854775807/\aZ w a S:=by
 rcases Go.Deep.open_slice underlying44 h with ⟨rfl,_⟩ |⟨a,len,cap,m,n,D,Pl,rfl,_,hl,hm,a5,_,hx⟩
 ·exact⟨none,0,[],rfl,oac,fun i hi=>absurd hi (yB _)⟩
 ·have b0:len<=m:=by rw[a5];split <;> omega
  obtain⟨T,U,O⟩:=a;by_cases h0:len=0
  ·subst h0;exact⟨_,cap,[],rfl,oac,fun i hi=>absurd hi (yB _)⟩
  ·have a6:O=none:=by
    obtain⟨F,hc,ht⟩:=hx 0 oaa;rw[Aj] at hc;obtain⟨_,a9,E⟩:=World.cells?_some hc;have h1:=E 0 oaa;rw[List.getElem?_eq_getElem oaa] at h1;simpa [Addr.add] using World.cell?_spot h1
   subst a6
   obtain⟨S,I,J⟩:=zun len (fun i x=>w.cell? ⟨T,U+i*2,none⟩=some (.int .i64 x.1)/\w.cell? ⟨T,U+i*2+1,none⟩=some (.int .i64 x.2)) (fun i hi=>by
    obtain⟨F,hc,ht⟩:=hx i oaa;rw[Aj] at hc;obtain⟨_,Z,E⟩:=World.cells?_some hc;obtain⟨xs,n', _,_,a8,a7,M⟩:=DataW.trod_struct underlying61 ht
    match F,Z with
    | [a0,a1],_ =>
     match xs,a7 with
     | [x0,x1],_ =>
      have g0:=M 0 _ rfl;have g1:=M 1 _ rfl;obtain⟨n0,e0,_⟩:=DataW.trod_int underlying3 g0;obtain⟨n1,e1,_⟩:=DataW.trod_int underlying3 g1
      cases e0;cases e1
      refine⟨(n0,n1),?_,?_⟩
      ·have h1:=E 0 oaa
       rwa [add_plain,add_plain] at h1
      ·have h1:=E 1 oaa
       rwa [add_plain,add_plain] at h1)
   exact⟨some ⟨T,U,none⟩,cap,S,by rw[I],by rw[I];unfold maxLen at hm;omega,fun i hi=>⟨T,U,rfl,(J i oaa).1,(J i oaa).2⟩⟩
theorem zxB(len:Nat)(P:Nat->Ac->Prop)(h:∀ i,i<len->∃ x,P i x):∃ S:List Ac,S.length=len/\∀ i,i<len->P i (ac S i):=by
 induction len with
 | zero=>exact⟨[],rfl,fun i hi=>absurd hi (yB _)⟩
 | succ n I =>
  obtain⟨S,hl,E⟩:=I (fun i hi=>h i oaa);obtain⟨x,F⟩:=h n oaa;refine⟨S++[x],by simp[hl],fun i hi=>?_⟩;unfold ac;by_cases e:i=n
  ·subst e;rw[aJ _ _ (by simp[hl])];simpa [hl] using F
  ·have D:i<S.length:=oaa;have:=E i oaa;unfold ac at this;rw[aJ _ _ D] at this;rw[aJ _ _ oab,List.getElem_append_left D];exact this
theorem zuY{fuel:Nat}{E:List Value}{x:DataW H × List MemPlace}(h:DataW.trod enc prog w base spare held fuel 36 E=some x) :
  ∃ y:Ac,E=[.int .i64 y.k,.int .i64 y.a,.int .i64 y.b,.int .i64 y.c,.int .i64 y.n]:=by
 obtain⟨xs,n,_,_,hl,F,D⟩:=DataW.trod_struct underlying36 h;rw[OY] at hl
 match E,hl with
 | [a0,a1,a2,a3,a4],_ =>
  match xs,F with
  | [x0,x1,x2,x3,x4],_ =>
   obtain⟨U,I,_⟩:=DataW.trod_int underlying3 (D 0 _ rfl);obtain⟨Z,J,_⟩:=DataW.trod_int underlying3 (D 1 _ rfl);obtain⟨n2,M,_⟩:=DataW.trod_int underlying3 (D 2 _ rfl);obtain⟨n3,O,_⟩:=DataW.trod_int underlying3 (D 3 _ rfl);obtain⟨n4,T,_⟩:=DataW.trod_int underlying3 (D 4 _ rfl)
   cases I;cases J;cases M;cases O;cases T
   exact⟨⟨U,Z,n2,n3,n4⟩,rfl⟩
theorem zrV{fuel:Nat}{cs:List Value}{x:DataW H × List MemPlace}(h:DataW.trod enc prog w base spare held fuel 34 cs=some x) :
  ∃ a c,∃ S:List Ac,cs=[.slice a S.length c]/\S.length<=c/\c<=9223372036854775807/\dY w a S:=by
 rcases Go.Deep.open_slice underlying34 h with ⟨rfl,_⟩ |⟨a,len,cap,m,n,D,Pl,rfl,_,hl,hm,a5,_,hx⟩
 ·exact⟨none,0,[],rfl,oac,oaa,fun i hi=>absurd hi (yB _)⟩
 ·have a7:len<=m:=by rw[a5];split <;> omega
  have M:cap<=9223372036854775807:=by unfold maxLen at hm;omega
  obtain⟨F,I,O⟩:=a;by_cases h0:len=0
  ·subst h0;exact⟨_,cap,[],rfl,oac,M,fun i hi=>absurd hi (yB _)⟩
  ·have a6:O=none:=by
    obtain⟨T,hc,ht⟩:=hx 0 oaa;rw[OY] at hc;obtain⟨_,Z,E⟩:=World.cells?_some hc;have h1:=E 0 oaa;rw[List.getElem?_eq_getElem oaa] at h1;simpa [Addr.add] using World.cell?_spot h1
   subst a6
   obtain⟨S,J,U⟩:=zxB len (fun i x=>w.cell? ⟨F,I+i*5,none⟩=some (.int .i64 x.k)/\w.cell? ⟨F,I+i*5+1,none⟩=some (.int .i64 x.a)/\w.cell? ⟨F,I+i*5+2,none⟩=some (.int .i64 x.b)/\w.cell? ⟨F,I+i*5+3,none⟩=some (.int .i64 x.c)/\w.cell? ⟨F,I+i*5+4,none⟩=some (.int .i64 x.n)) (fun i hi=>by
    obtain⟨T,hc,ht⟩:=hx i oaa;rw[OY] at hc;obtain⟨_,Z,E⟩:=World.cells?_some hc;obtain⟨y,e⟩:=zuY ht;subst e;have k0:=E 0 oaa;have k1:=E 1 oaa;have k2:=E 2 oaa;have k3:=E 3 oaa;have k4:=E 4 oaa;rw[add_plain,add_plain] at k0 k1 k2 k3 k4;exact⟨y,k0,k1,k2,k3,k4⟩)
   exact⟨some ⟨F,I,none⟩,cap,S,by rw[J],by rw[J];exact hl,M,fun i hi=>⟨F,I,rfl,U i oaa⟩⟩
theorem zpl{fuel:Nat}{E:List Value}{x:DataW H × List MemPlace}(h:DataW.trod enc prog w base spare held fuel 50 E=some x) :
  ∃ (A:RA) (R:Rl),E=[.slice A.a0 R.s.length A.c0,.slice A.a1 R.hs.length A.c1,.slice A.a2 R.i.length A.c2,.slice A.a3 R.t.length A.c3]/\iG R/\aU w A R:=by
 obtain⟨xs,n,_,_,hl,F,D⟩:=DataW.trod_struct underlying50 h;rw[Ak] at hl
 match E,hl with
 | [v0,v1,v2,v3],_ =>
  match xs,F with
  | [x0,x1,x2,x3],_ =>
   have g0:=D 0 _ rfl;have g1:=D 1 _ rfl;have g2:=D 2 _ rfl;have g3:=D 3 _ rfl;obtain⟨_,_,_,_,s0⟩:=trod_struct1 underlying43 g0;obtain⟨_,_,_,_,s2⟩:=trod_struct1 underlying47 g2;obtain⟨a0,c0,S,U,n0,M,h0⟩:=zpi s0;obtain⟨a1,c1,J,Z,n1,h1⟩:=zpg g1;obtain⟨a2,c2,I,e2,n2,T,h2⟩:=OU s2;obtain⟨a3,c3,O,e3,n3,m3,h3⟩:=Ai g3
   cases U;cases Z;cases e2;cases e3
   exact⟨⟨a0,a1,a2,a3,c0,c1,c2,c3⟩,⟨S,J,I,O⟩,rfl,⟨n0,M,n1,n2,T,by show O.length<=_;omega⟩,h0,h1,h2,h3⟩
variable {H:Type} {enc:TypeId × Value->H} {w:Wd} {base:Nat} {spare:Nat->Bool} {held:Bool}
theorem OZ:prog.cellsOf 121=5:=oad
theorem zxE(len:Nat)(P:Nat->List Cl->Prop)(h:∀ i,i<len->∃ x,P i x):∃ S:List (List Cl),S.length=len/\∀ i,i<len->P i (gr S i):=by
 induction len with
 | zero=>exact⟨[],rfl,fun i hi=>absurd hi (yB _)⟩
 | succ n F =>
  obtain⟨S,hl,D⟩:=F (fun i hi=>h i oaa);obtain⟨x,E⟩:=h n oaa;refine⟨S++[x],by simp[hl],fun i hi=>?_⟩;by_cases e:i=n
  ·subst e;rw[<- hl,KD];rw[hl];exact E
  ·rw[KC oaa];exact D i oaa
theorem zxF(len:Nat)(P:Nat->Pt->Prop)(h:∀ i,i<len->∃ x,P i x):∃ S:List Pt,S.length=len/\∀ i,i<len->P i (pt S i):=by
 induction len with
 | zero=>exact⟨[],rfl,fun i hi=>absurd hi (yB _)⟩
 | succ n F =>
  obtain⟨S,hl,D⟩:=F (fun i hi=>h i oaa);obtain⟨x,E⟩:=h n oaa;refine⟨S++[x],by simp[hl],fun i hi=>?_⟩;by_cases e:i=n
  ·subst e;rw[<- hl,UM];rw[hl];exact E
  ·rw[uW oaa];exact D i oaa
theorem znJ{fuel:Nat}{cs:List Value}{x:DataW H × List MemPlace}(h:DataW.trod enc prog w base spare held fuel 119 cs=some x) :
  ∃ a c,∃ S:List (List Cl),cs=[.slice a S.length c]/\S.length<=9223372036854775807/\mK S/\kQ w a c S:=by
 rcases Go.Deep.open_slice underlying119 h with ⟨rfl,_⟩ |⟨a,len,cap,m,n,D,Pl,rfl,_,hl,hm,a6,_,hx⟩
 ·exact⟨none,0,[],rfl,oac,fun i hi=>absurd hi (yB _),⟨fun _=>rfl,oac,oaa⟩,fun i hi=>absurd hi (yB _)⟩
 ·have a8:len<=m:=by rw[a6];split <;> omega
  have O:cap<=9223372036854775807:=by unfold maxLen at hm;omega
  obtain⟨U,Z,T⟩:=a;by_cases h0:len=0
  ·subst h0;exact⟨_,cap,[],rfl,oac,fun i hi=>absurd hi (yB _),⟨(fun e=>by cases e),oac,O⟩,fun i hi=>absurd hi (yB _)⟩
  ·have a7:T=none:=by
    obtain⟨I,hc,ht⟩:=hx 0 oaa;rw[Ah] at hc;obtain⟨_,M,F⟩:=World.cells?_some hc;have h1:=F 0 oaa;rw[List.getElem?_eq_getElem oaa] at h1;simpa [Addr.add] using World.cell?_spot h1
   subst a7
   obtain⟨S,E,J⟩:=zxE len (fun i x=>(∃ ga gc,w.cell? ⟨U,Z+i,none⟩=some (.slice ga x.length gc)/\aO w ga x)/\x.length<=9223372036854775807/\fK x) (fun i hi=>by
    obtain⟨I,hc,ht⟩:=hx i oaa;rw[Ah] at hc;obtain⟨_,M,F⟩:=World.cells?_some hc
    match I,M with
    | [a0],_ =>
     obtain⟨y0,n', _,_,g0⟩:=trod_struct1 underlying47 ht;obtain⟨ga,gc,G,e,h1,h2,h3⟩:=OU g0;cases e;refine⟨G,⟨ga,gc,?_,h3⟩,h1,h2⟩;have h4:=F 0 oaa;rw[add_plain,add_plain,Nat.mul_one,Nat.add_zero] at h4;exact h4)
   exact⟨some ⟨U,Z,none⟩,cap,S,by rw[E],by rw[E];omega,fun i hi=>(J i oaa).2,⟨(fun e=>by cases e),by rw[E];exact hl,O⟩,fun i hi=>by
    obtain⟨ga,gc,c0,a5⟩:=(J i oaa).1;exact⟨U,Z,ga,gc,rfl,c0,a5⟩⟩
theorem zsa{fuel b o:Nat}{E:List Value}{x:DataW H × List MemPlace}(h:DataW.trod enc prog w base spare held fuel 121 E=some x)(hc:∀ j,j<5->w.cell? ⟨b,o+j,none⟩=E[j]?) :
  ∃ y:Pt,vL w b o y/\y.cm.length<=9223372036854775807/\mK y.cm:=by
 obtain⟨xs,n,_,_,hl,J,D⟩:=DataW.trod_struct underlying121 h;rw[OZ] at hl
 match E,hl with
 | [a0,a1,a2,a3,a4],_ =>
  match xs,J with
  | [x0,x1,x2,x3,x4],_ =>
   have g0:=D 0 _ rfl;have g1:=D 1 _ rfl;have g2:=D 2 _ rfl;have g3:=D 3 _ rfl;have g4:=D 4 _ rfl;obtain⟨n0,T,_⟩:=DataW.trod_int underlying3 g0;obtain⟨n1,U,_⟩:=DataW.trod_int underlying3 g1;obtain⟨n2,Z,_⟩:=DataW.trod_int underlying3 g2;obtain⟨M,O,C,e3,F,I,hI⟩:=znJ g3;obtain⟨n4,e4,_⟩:=DataW.trod_bool underlying4 g4
   cases T;cases U;cases Z;cases e3;cases e4
   exact⟨⟨n0,n1,n2,C,n4⟩,⟨hc 0 oaa,hc 1 oaa,hc 2 oaa,M,O,hc 3 oaa,hI,hc 4 oaa⟩,F,I⟩
theorem zpk{fuel:Nat}{cs:List Value}{x:DataW H × List MemPlace}(h:DataW.trod enc prog w base spare held fuel 26 cs=some x) :
  ∃ a c,∃ S:List Pt,cs=[.slice a S.length c]/\S.length<=9223372036854775807/\iH S/\SlA a S.length c/\cK w a S:=by
 rcases Go.Deep.open_slice underlying26 h with ⟨rfl,_⟩ |⟨a,len,cap,m,n,D,Pl,rfl,_,hl,hm,a5,_,hx⟩
 ·exact⟨none,0,[],rfl,oac,fun i hi=>absurd hi (yB _),⟨fun _=>rfl,oac,oaa⟩,fun i hi=>absurd hi (yB _)⟩
 ·have a7:len<=m:=by rw[a5];split <;> omega
  have J:cap<=9223372036854775807:=by unfold maxLen at hm;omega
  obtain⟨O,T,M⟩:=a;by_cases h0:len=0
  ·subst h0;exact⟨_,cap,[],rfl,oac,fun i hi=>absurd hi (yB _),⟨(fun e=>by cases e),oac,J⟩,fun i hi=>absurd hi (yB _)⟩
  ·have a6:M=none:=by
    obtain⟨U,hc,ht⟩:=hx 0 oaa;rw[OZ] at hc;obtain⟨_,Z,F⟩:=World.cells?_some hc;have h1:=F 0 oaa;rw[List.getElem?_eq_getElem oaa] at h1;simpa [Addr.add] using World.cell?_spot h1
   subst a6
   obtain⟨S,E,I⟩:=zxF len (fun i x=>vL w O (T+i*5) x/\x.cm.length<=9223372036854775807/\mK x.cm) (fun i hi=>by
    obtain⟨U,hc,ht⟩:=hx i oaa;rw[OZ] at hc;obtain⟨_,Z,F⟩:=World.cells?_some hc;refine zsa ht (fun j hj=>?_);have h1:=F j hj
    rwa [add_plain,add_plain] at h1)
   exact⟨some ⟨O,T,none⟩,cap,S,by rw[E],by rw[E];omega,fun i hi=>(I i oaa).2,⟨(fun e=>by cases e),by rw[E];exact hl,J⟩,fun i hi=>⟨O,T,rfl,(I i oaa).1⟩⟩
