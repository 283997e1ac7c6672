/-
  x
-/
import Derived.Test.YtcbcpomacdngmaaGreatA43
namespace Go.Proofs.YtcbcpomacdngmaaGreat
set_option maxRecDepth 100000
set_option maxHeartbeats 4000000
set_option linter.unusedVariables false
open Go.RowKit Go.ChangeShapes Go.WideShapes Go.ChangeAt Tryz
theorem Yp(w:Wd){D E:Nat}(I J:Nat)(v1 v2:Value)(h:D≠E):(w.setCell ⟨D,I,none⟩ v1).setCell ⟨E,J,none⟩ v2=(w.setCell ⟨E,J,none⟩ v2).setCell ⟨D,I,none⟩ v1:=by
 unfold World.setCell
 congr 1
 apply Array.ext
 ·simp
 ·intro i h1 O;simp only[Array.getElem_modify];by_cases F:D=i
  ·have M:¬ E=i:=fun e=>h (F.trans e.symm);simp[F,M]
  ·simp[F]
def ZP(E:W0)(d me:Nat)(W:Wl)(st:Bool)(s:SD)(e:Ending)(w' : World):Prop:=∃ ga gc D,e=.returned (.agg #[.slice ga (if st then [] else ((que W me).getD 0 ⟨0,[]⟩).g).length gc])/\SW E d me (if st then W else { W with qs:=W.qs.set me ((que W me).drop 1) }) D w' /\ D.g1=s.g1/\St (SX E.heap.size d D) (fun V=>aO V ga (if st then [] else ((que W me).getD 0 ⟨0,[]⟩).g)) w'
theorem Yq(me:Nat)(W:Wl)(st:Bool)(M:W0)(d:Nat)(s:SD)(V:Wd)(I:SW M d me W s V)(hq:s.q me=none)(hl:st=false->(que W me).length≠0):yO 40 #[.pointer (some ⟨d,0,none⟩),.agg #[.int .i64 (me:Int),.bool st]] V (ZP M d me W st s):=by
 have Z:Hid (SW M d me W s V):=I;have b0:Hid _:=I.lt;obtain⟨l0,l1,l2,l3,l4,lf,ll⟩:=bH I.box;have n8:W.fs.length<=8:=I.rt.fs.few;have a8:me<W.fs.length:=I.sf;have r3:V.cell? ⟨s.g3,me,none⟩=some (.slice (s.Q me).1 (que W me).length (s.Q me).2):=(I.r3.cell a8);clear l0 l1 l2 l4;cases st
 ·obtain⟨b,o,hQ,a6,hc,HS,HT⟩:=I.take hq (hl rfl);rw[hQ] at r3;have U:Hid _:=HT;have F:Hid _:=HS;have b6:=hl rfl;clear HT HS hl hq I;have b1:b<V.heap.size:=yi _ _ hc;have b2:s.g3<V.heap.size:=yi _ _ r3;have HN:Hid _:=n8;generalize W.fs.length=n at *;generalize s.G me 0=g0 at *;obtain⟨G,hG⟩:∃ G,((que W me).getD 0 ⟨0,[]⟩).g=G:=⟨_,rfl⟩;have HG:Hid _:=hG;rw[hG] at hc F;clear hG;obtain⟨ga,gc⟩:=g0;dsimp only at hc F
  go_enter func40,ntmps40
  go_upto_region 1 with fail
  obtain⟨E,D⟩:∃ E,(V.alloc (.cells #[.int .i64 me,.bool false] 40)).alloc (.cells #[.slice none 0 0] 47)=E:=⟨_,rfl⟩;have O:Hid (Bl V E):=by rw[<- D];exact(aB _ _).trans ((aB _ _).mono (by simp))
  have y0:E.cell? ⟨V.heap.size,0,none⟩=some (.int .i64 me):=by rw[<- D];exact fE _ _ _ 0 _ rfl
  have y1:E.cell? ⟨V.heap.size,1,none⟩=some (.bool false):=by rw[<- D];exact fE _ _ _ 1 _ rfl
  have z0:E.cell? ⟨V.heap.size+1,0,none⟩=some (.slice none 0 0):=by rw[<- D];exact fF _ _ _ 0 _ rfl
  have zf:E.frozen? ⟨V.heap.size+1,0,none⟩=false:=by
   rw[<- D];have h:=iB (o:=0) (yN (V.alloc (.cells #[.int .i64 me,.bool false] 40)) (.cells #[.slice none 0 0] 47));rw[show (V.alloc (.cells #[.int .i64 me,.bool false] 40)).heap.size=V.heap.size+1 from by simp] at h;exact h
  have T:Hid (∀ J,(J=some ⟨b,o+2,none⟩\/((que W me).length=1/\∀ ad,J=some ad->∃ b o,ad=⟨b,o,none⟩))->ZP M d me W false s (.returned (.agg #[.slice ga G.length gc])) ((E.setCell ⟨s.g3,me,none⟩ (.slice J ((que W me).length-1) ((que W me).length-1))).setCell ⟨V.heap.size+1,0,none⟩ (.slice ga G.length gc)).drew.drew):=fun J a5=>by
   have HB:Bl V (E.setCell ⟨V.heap.size+1,0,none⟩ (.slice ga G.length gc)):=O.setCell (by show V.heap.size<=V.heap.size+1;omega) _;obtain⟨s', h1,h2,_,h4⟩:=U.o _ J (Z.below HB) a5;rw[Yp E me 0 _ _ (show s.g3≠V.heap.size+1 by omega)];refine⟨ga,gc,s', ?_,h1.below (yv _ _).drew.drew,h2,?_⟩
   ·rw[<- HG.o];rfl
   ·have h5:=(St.off (show St (SX M.heap.size d s) (fun V=>aO V ga G) V from F.o) (((aC.of_below HB).trans (aC.set (X:=SX M.heap.size d s) (o:=me) _ (.slice J ((que W me).length-1) ((que W me).length-1)) (.inr (.inr (.inr (.inr (.inl rfl))))))).trans (aC.of_below (yv _ _).drew.drew))).less h4;show St _ (fun V=>aO V ga ((que W me).getD 0 ⟨0,[]⟩).g) _;rw[HG.o];exact h5
  rw[D];clear D;replace l3:=aA l3 O;replace r3:=aA r3 O;replace hc:=aA hc O;have b3:(me:Int)<(n:Int):=by omega
  have f3:E.frozen? ⟨s.g3,me,none⟩=false:=(Z.below O).r3.frozen _
  go_wp2_with fail
  have b7:¬ s.g3=V.heap.size:=by omega
  have b8:¬ s.g3=V.heap.size+1:=by omega
  have b9:¬ V.heap.size+1=s.g3:=by omega
  have c6:¬ V.heap.size=s.g3:=by omega
  have a9:¬ b=s.g3:=fun e=>a6 e.symm;generalize (que W me).length=m at *;by_cases a7:m=1
  ·subst a7
   go_region
   go_wp2_with fail
   go_region
   go_wp2
   exact yz (v:=.agg #[.slice ga G.length gc]) (by simp[results,results40,go_sem,z0]) rfl (T (some ⟨b,o,none⟩) (.inr ⟨by trivial,fun ad h=>by cases h;exact⟨_,_,rfl⟩⟩))
  ·have b4:¬ ((m:Int)=1):=(by omega);have b5:(1:Int)<=(m:Int):=by omega
   go_region
   go_wp2_with fail
   go_region
   go_wp2
   exact yz (v:=.agg #[.slice ga G.length gc]) (by simp[results,results40,go_sem,z0]) rfl (T (some ⟨b,o+2,none⟩) (.inl rfl))
 ·clear hl hq I r3 l3
  go_enter func40,ntmps40
  go_wp2
  refine yz (v:=.agg #[.slice none 0 0]) (by simp[results,results40,go_sem]) rfl ⟨none,0,s,rfl,Z.below ?_,rfl,fun _ _ i hi=>absurd hi (yB i)⟩;exact(aB _ _).trans ((aB _ _).mono (by simp))
def Sm(e:Int):Prop:=0<=e/\e<=20
theorem ZT:∀ {l:List Int},(∀ e ∈ l,Sm e)->Sm (aQ l)
 | [],_=>⟨Int.le_refl _,by decide⟩
 | e :: l,h=>by
  show Sm (if e=0 then aQ l else e);split
  ·exact ZT (fun e D=>h e (List.mem_cons_of_mem _ D))
  ·exact h e (List.mem_cons_self)
theorem aW{p:Prop}[Decidable p]{a b:Int}(ha:Sm a)(hb:Sm b):Sm (if p then a else b):=by split <;> assumption
theorem sm0:Sm 0:=⟨by decide,by decide⟩
theorem sm1:Sm 1:=⟨by decide,by decide⟩
theorem sm2:Sm 2:=⟨by decide,by decide⟩
theorem sm3:Sm 3:=⟨by decide,by decide⟩
theorem sm4:Sm 4:=⟨by decide,by decide⟩
theorem sm5:Sm 5:=⟨by decide,by decide⟩
theorem sm6:Sm 6:=⟨by decide,by decide⟩
theorem sm7:Sm 7:=⟨by decide,by decide⟩
theorem sm8:Sm 8:=⟨by decide,by decide⟩
theorem ZU(S:List Nd)(p u:Int):Sm (iX S p u):=by
 unfold iX wV;exact aW (aW (aW (aW sm0 sm5) sm5) sm4) sm4
theorem ZV(S:List Nd):∀ hs,Sm (mP S hs)
 | []=>sm0
 | h :: r=>aW (ZV S r) (ZU _ _ _)
theorem oG{S:List Nd}(h:dG S=0)(p u:Int):Sm (aP S p u):=by
 unfold aP;rw[ye h];exact ZU _ _ _
theorem ZW{S:List Nd}(h:dG S=0)(t:Int):Sm (iR S t):=by
 unfold iR;rw[ye h];exact aW (aW sm0 sm1) sm2
theorem ZX(m:Nat):∀ l,Sm (cellsE m l)
 | []=>sm0
 | x :: l=>aW (ZX m l) (aW sm2 (aW sm1 (aW sm4 sm0)))
theorem Yv(G:List Cl):Sm (bF G):=aW sm1 (ZX _ _)
theorem OH(L:List Fr)(k:Int):Sm (bC L k):=aW sm4 (aW sm5 sm0)
theorem Yw{L:List Fr}(h:bS L=0)(f t x:Int):Sm (bG L f t x):=by
 have h1:Sm (mY L [f,t]):=by
  rw[vG,h];exact aW sm0 (aW (OH _ _) (OH _ _))
 exact aW h1 (aW sm3 (aW sm0 sm7))
theorem oH{E:Int}{R:Rl}{o:Int}(h:Sm E):Sm (ans E R o).e:=by
 unfold ans;split
 ·exact sm0
 ·exact h
theorem Yx{L:List Pt}{F:Int}(h:dK L F=0)(k o t:Int):Sm (aX L F k o t):=by
 unfold aX;rw[h];exact aW sm0 (aW sm4 (aW sm7 (aW sm5 sm0)))
theorem ZY{R:Rl}(h:dG R.s=0)(n:Int):Sm (dN R n):=by
 have h1:∀ m,Sm (jC R m):=fun m=>by
  induction m with
  | zero=>exact sm0
  | succ m D=>exact aW (oG h _ _) D
 exact aW (h1 _) sm2
theorem jH{p:Prop}[Decidable p]{a b:Rs}(ha:Sm a.e)(hb:Sm b.e):Sm (if p then a else b).e:=by split <;> assumption
theorem Aa:∀ (q:List Tst) (i:Nat),Sm (lZ i q)
 | [],_=>sm0
 | te :: r,k=>aW (aW sm3 (Aa r (k+1))) sm2
theorem Yy{R:Rl}(F:bI R=0)(x:Ac):Sm (doF R x).e:=by
 have h:dG R.s=0:=(mU _).2 (gI F).1;unfold doF;rw[ye F];have E:∀ g n,Sm (qI R g n).e:=fun g n=>oH (aW (aW sm0 sm2) (oG h _ _))
 have D:∀ g1 g2 hs,Sm (nS R g1 g2 hs).e:=fun g1 g2 hs=>oH (by
  have I:Sm (dH R.s ((g1.1,g1.2) ::(g2.1,g2.2) :: hs)):=by
   unfold dH;rw[ye h];exact ZV _ _
  unfold fT;refine aW (aW ?_ sm6) I
  cases hs with
  | nil=>exact sm0
  | cons a l=>exact aW sm0 sm6)
 unfold doG;refine jH (jH (oH (ZW h _)) (jH (oH (aW (aW sm0 sm6) (oG h _ _))) (jH (oH (aW (aW sm6 sm0) (oG h _ _))) (jH (oH (oG h _ _)) (jH (E _ _) (jH (jH (E _ _) sm4) (jH (oH (aW (aW (Aa _ _) sm1) (oG h _ _))) (jH (oH (oG h _ _)) (jH (jH (jH (oH (aW (aW sm6 (ZW h _)) (oG h _ _))) (jH (oH (aW (aW sm6 sm0) (oG h _ _))) (jH (D _ _ _) (jH (D _ _ _) sm4)))) sm4) sm3))))))))) sm4
theorem nL{Es:List Int}{W V:Wl}{o:Int}(h:∀ e ∈ Es,Sm e):Sm (bP Es W V o).e:=by
 have e:(bP Es W V o).e=aQ Es:=by
  unfold bP;split
  ·rename_i h;exact h.symm
  ·rfl
 rw[e];exact ZT h
theorem oI{p:Prop}[Decidable p]{a b:Ws}(ha:Sm a.e)(hb:Sm b.e):Sm (if p then a else b).e:=by split <;> assumption
theorem wE{a:Int}(ha:Sm a):∀ e ∈ [a],Sm e:=fun e D=>by
 simp only[List.mem_cons,List.not_mem_nil,or_false] at D;subst D;exact ha
theorem Ab{a b:Int}(ha:Sm a)(hb:Sm b):∀ e ∈ [a,b],Sm e:=fun e D=>by
 simp only[List.mem_cons,List.not_mem_nil,or_false] at D;rcases D with rfl|rfl
 ·exact ha
 ·exact hb
theorem OI{a b c:Int}(ha:Sm a)(hb:Sm b)(hc:Sm c):∀ e ∈ [a,b,c],Sm e:=fun e D=>by
 simp only[List.mem_cons,List.not_mem_nil,or_false] at D;rcases D with rfl|rfl|rfl
 ·exact ha
 ·exact hb
 ·exact hc
theorem Yz{W:Wl}(H:aI W){k:Nat}(J:k<W.fs.length)(x:Ac):Sm (bD W k x).e:=by
 have I:bS W.fs=0:=xW.2 H.fs;have M:dK W.pt (many W)=0:=qK.2 H.pt;have O:dG (rlm W k).s=0:=(mU _).2 (gI (H.rs k J)).1;have E:∀ t x,Sm (bG W.fs k t x):=fun t x=>Yw I _ _ _;have F:∀ n t,Sm (aX W.pt (many W) n k t):=fun n t=>Yx M _ _ _
 have D:∀ a b,Sm (sH W k a b).e:=fun a b=>by
  by_cases h:bG W.fs k a 1=0
  ·obtain⟨q,rfl,T,_⟩:=iV (kP h).2.2.1;exact nL (OI (E _ _) (aW sm0 sm4) (oG ((mU _).2 (gI (H.rs _ (by rw[yk];exact T))).1) _ _))
  ·unfold sH bP;have e:aQ [bG W.fs k a 1,if isH b then 0 else 4,aP (rlm W a.toNat).s (hd (rlm W a.toNat) b).1 (hd (rlm W a.toNat) b).2]=bG W.fs k a 1:=yd h;rw[e,yd h];exact E _ _
 unfold bD;refine oI (nL (wE (E _ _))) (oI (nL (wE (E _ _))) (oI (D _ _) (oI (nL (OI (E _ _) (ZY O _) (aW sm1 sm0))) (oI (nL (Ab (E _ _) ?_)) (oI (nL (wE ?_)) (oI (nL (Ab (E _ _) (aW (F _ _) (aW sm4 (aW sm2 sm0))))) (oI (nL (OI (aW sm7 sm0) (ZY O _) (aW (F _ _) (aW (Yv _) (aW sm5 (aW sm1 sm0)))))) (oI (nL (wE (aW (F _ _) (aW sm8 sm0)))) (oI (nL (wE (F _ _))) (nL (wE (Yy (H.rs k J) x))))))))))))
 ·unfold goE dR;rw[ye I];exact aW (OH _ _) (aW sm2 (aW sm1 sm0))
 ·unfold fU;rw[M];exact aW sm0 (aW sm4 (aW sm2 (aW sm1 sm0)))
variable {H:Type} {enc:TypeId × Value->H} {w:Wd} {base:Nat} {spare:Nat->Bool} {held:Bool}
theorem zzc:prog.cellsOf 3=1:=by kernel_rfl
theorem OU:prog.cellsOf 57=8:=by kernel_rfl
theorem zrX{fuel:Nat}{I:List Value}{x:DataW H × List MemPlace}(h:DataW.trod enc prog w base spare held fuel 48 I=some x) :
  ∃ ka kc,∃ ks:List Int,I=[.slice ka ks.length kc]/\ks.length<=9223372036854775807/\aG w ka ks:=by
 rcases open_ints underlying48 underlying3 zzc h with ⟨rfl,_⟩ |⟨a,len,cap,F,rfl,_,hl,M,O,_,D,_⟩
 ·exact⟨none,0,[],rfl,by simp,fun i hi=>absurd hi (yB _)⟩
 ·have J:len<=F.length:=by rw[O];split <;> omega
  have E:(F.take len).length=len:=by rw[List.length_take];omega
  refine⟨some a,cap,F.take len,by rw[E],by rw[E];unfold maxLen at M;omega,fun i hi=>?_⟩;rw[E] at hi;obtain⟨b,off,rfl,hc⟩:=ints_at D (by omega);refine⟨b,off,rfl,?_⟩;rw[hc i (by omega),aJ F 0 (by omega),aJ (F.take len) 0 (by omega),List.getElem_take]
theorem zrY{fuel b o:Nat}{E:List Value}{x:DataW H × List MemPlace}(h:DataW.trod enc prog w base spare held fuel 57 E=some x)(hc:∀ j,j<8->w.cell? ⟨b,o+j,none⟩=E[j]?) :
  ∃ nd:Nd,nM w b o nd/\nd.ks.length<=9223372036854775807:=by
 obtain⟨xs,n,_,_,hl,I,D⟩:=DataW.trod_struct underlying57 h;rw[OU] at hl
 match E,hl with
 | [a0,a1,a2,a3,a4,a5,a6,a7],_ =>
  match xs,I with
  | [x0,x1,x2,x3,x4,x5,x6,x7],_ =>
   have g0:=D 0 _ rfl;have g1:=D 1 _ rfl;have g2:=D 2 _ rfl;have g3:=D 3 _ rfl;have g4:=D 4 _ rfl;have g5:=D 5 _ rfl;have g6:=D 6 _ rfl;have g7:=D 7 _ rfl;obtain⟨u,J,_⟩:=DataW.trod_bool underlying4 g0;obtain⟨n1,M,_⟩:=DataW.trod_int underlying3 g1;obtain⟨n2,O,_⟩:=DataW.trod_int underlying3 g2;obtain⟨n3,T,_⟩:=DataW.trod_int underlying3 g3;obtain⟨n4,U,_⟩:=DataW.trod_int underlying3 g4;obtain⟨ka,kc,ks,Z,F,hI⟩:=zrX g5;obtain⟨n6,e6,_⟩:=DataW.trod_int underlying3 g6;obtain⟨u7,e7,_⟩:=DataW.trod_bool underlying4 g7
   cases J;cases M;cases O;cases T;cases U;cases Z;cases e6;cases e7
   refine⟨⟨u,n1,n2,n3,n4,ks,n6,u7⟩,⟨?_,?_,?_,?_,?_,⟨ka,kc,?_,hI⟩,?_,?_⟩,F⟩
   ·exact hc 0 (by omega)
   ·exact hc 1 (by omega)
   ·exact hc 2 (by omega)
   ·exact hc 3 (by omega)
   ·exact hc 4 (by omega)
   ·exact hc 5 (by omega)
   ·exact hc 6 (by omega)
   ·exact hc 7 (by omega)
theorem zxD(len:Nat)(P:Nat->Nd->Prop)(h:∀ i,i<len->∃ x,P i x):∃ S:List Nd,S.length=len/\∀ i,i<len->P i (nd S i):=by
 induction len with
 | zero=>exact⟨[],rfl,fun i hi=>absurd hi (yB _)⟩
 | succ n I =>
  obtain⟨S,hl,E⟩:=I (fun i hi=>h i (by omega));obtain⟨x,F⟩:=h n (by omega);refine⟨S++[x],by simp[hl],fun i hi=>?_⟩;by_cases e:i=n
  ·subst e;rw[eQ (by simp[hl])];simpa [hl] using F
  ·have D:i<S.length:=(by omega);have:=E i (by omega);rw[eQ D] at this;rw[eQ (by simp;omega),List.getElem_append_left D];exact this
theorem zpi{fuel:Nat}{cs:List Value}{x:DataW H × List MemPlace}(h:DataW.trod enc prog w base spare held fuel 41 cs=some x) :
  ∃ a c,∃ S:List Nd,cs=[.slice a S.length c]/\S.length<=9223372036854775807/\Big S/\aD w a S:=by
 rcases Go.Deep.open_slice underlying41 h with ⟨rfl,_⟩ |⟨a,len,cap,m,n,D,Pl,rfl,_,hl,hm,Z,_,hx⟩
 ·exact⟨none,0,[],rfl,by simp,fun i hi=>absurd hi (yB _),fun i hi=>absurd hi (yB _)⟩
 ·have a6:len<=m:=by rw[Z];split <;> omega
  obtain⟨M,O,J⟩:=a;by_cases h0:len=0
  ·subst h0;exact⟨_,cap,[],rfl,by simp,fun i hi=>absurd hi (yB _),fun i hi=>absurd hi (yB _)⟩
  ·have a5:J=none:=by
    obtain⟨T,hc,ht⟩:=hx 0 (by omega);rw[OU] at hc;obtain⟨_,U,E⟩:=World.cells?_some hc;have h1:=E 0 (by omega);rw[List.getElem?_eq_getElem (by omega)] at h1;simpa [Addr.add] using World.cell?_spot h1
   subst a5
   obtain⟨S,F,I⟩:=zxD len (fun i x=>nM w M (O+i*8) x/\x.ks.length<=9223372036854775807) (fun i hi=>by
    obtain⟨T,hc,ht⟩:=hx i (by omega);rw[OU] at hc;obtain⟨_,U,E⟩:=World.cells?_some hc;refine zrY ht (fun j hj=>?_);have h1:=E j hj
    rwa [add_plain,add_plain] at h1)
   exact⟨some ⟨M,O,none⟩,cap,S,by rw[F],by rw[F];unfold maxLen at hm;omega,fun i hi=>(I i (by omega)).2,fun i hi=>⟨M,O,rfl,(I i (by omega)).1⟩⟩
theorem Ai:prog.cellsOf 61=2:=by kernel_rfl
theorem zun(len:Nat)(P:Nat->Int × Int->Prop)(h:∀ i,i<len->∃ x,P i x):∃ S:List (Int × Int),S.length=len/\∀ i,i<len->P i (S.getD i (0,0)):=by
 induction len with
 | zero=>exact⟨[],rfl,fun i hi=>absurd hi (yB _)⟩
 | succ n I =>
  obtain⟨S,hl,E⟩:=I (fun i hi=>h i (by omega));obtain⟨x,F⟩:=h n (by omega);refine⟨S++[x],by simp[hl],fun i hi=>?_⟩;by_cases e:i=n
  ·subst e;rw[aJ _ _ (by simp[hl])];simpa [hl] using F
  ·have D:i<S.length:=(by omega);have:=E i (by omega);rw[aJ _ _ D] at this;rw[aJ _ _ (by simp;omega),List.getElem_append_left D];exact this
theorem Aj:prog.cellsOf 50=4:=by kernel_rfl
theorem OV:prog.cellsOf 36=5:=by kernel_rfl
theorem zpg{fuel:Nat}{cs:List Value}{x:DataW H × List MemPlace}(h:DataW.trod enc prog w base spare held fuel 44 cs=some x) :
  ∃ a c,∃ S:List (Int × Int),cs=[.slice a S.length c]/\S.length<=9223372036854775807/\aZ w a S:=by
 rcases Go.Deep.open_slice underlying44 h with ⟨rfl,_⟩ |⟨a,len,cap,m,n,D,Pl,rfl,_,hl,hm,a5,_,hx⟩
 ·exact⟨none,0,[],rfl,by simp,fun i hi=>absurd hi (yB _)⟩
 ·have b0:len<=m:=by rw[a5];split <;> omega
  obtain⟨T,U,O⟩:=a;by_cases h0:len=0
  ·subst h0;exact⟨_,cap,[],rfl,by simp,fun i hi=>absurd hi (yB _)⟩
  ·have a6:O=none:=by
    obtain⟨F,hc,ht⟩:=hx 0 (by omega);rw[Ai] at hc;obtain⟨_,a9,E⟩:=World.cells?_some hc;have h1:=E 0 (by omega);rw[List.getElem?_eq_getElem (by omega)] at h1;simpa [Addr.add] using World.cell?_spot h1
   subst a6
   obtain⟨S,I,J⟩:=zun len (fun i x=>w.cell? ⟨T,U+i*2,none⟩=some (.int .i64 x.1)/\w.cell? ⟨T,U+i*2+1,none⟩=some (.int .i64 x.2)) (fun i hi=>by
    obtain⟨F,hc,ht⟩:=hx i (by omega);rw[Ai] at hc;obtain⟨_,Z,E⟩:=World.cells?_some hc;obtain⟨xs,n', _,_,a8,a7,M⟩:=DataW.trod_struct underlying61 ht
    match F,Z with
    | [a0,a1],_ =>
     match xs,a7 with
     | [x0,x1],_ =>
      have g0:=M 0 _ rfl;have g1:=M 1 _ rfl;obtain⟨n0,e0,_⟩:=DataW.trod_int underlying3 g0;obtain⟨n1,e1,_⟩:=DataW.trod_int underlying3 g1
      cases e0;cases e1
      refine⟨(n0,n1),?_,?_⟩
      ·have h1:=E 0 (by omega)
       rwa [add_plain,add_plain] at h1
      ·have h1:=E 1 (by omega)
       rwa [add_plain,add_plain] at h1)
   exact⟨some ⟨T,U,none⟩,cap,S,by rw[I],by rw[I];unfold maxLen at hm;omega,fun i hi=>⟨T,U,rfl,(J i (by omega)).1,(J i (by omega)).2⟩⟩
theorem zxB(len:Nat)(P:Nat->Ac->Prop)(h:∀ i,i<len->∃ x,P i x):∃ S:List Ac,S.length=len/\∀ i,i<len->P i (ac S i):=by
 induction len with
 | zero=>exact⟨[],rfl,fun i hi=>absurd hi (yB _)⟩
 | succ n I =>
  obtain⟨S,hl,E⟩:=I (fun i hi=>h i (by omega));obtain⟨x,F⟩:=h n (by omega);refine⟨S++[x],by simp[hl],fun i hi=>?_⟩;unfold ac;by_cases e:i=n
  ·subst e;rw[aJ _ _ (by simp[hl])];simpa [hl] using F
  ·have D:i<S.length:=(by omega);have:=E i (by omega);unfold ac at this;rw[aJ _ _ D] at this;rw[aJ _ _ (by simp;omega),List.getElem_append_left D];exact this
theorem zuY{fuel:Nat}{E:List Value}{x:DataW H × List MemPlace}(h:DataW.trod enc prog w base spare held fuel 36 E=some x) :
  ∃ y:Ac,E=[.int .i64 y.k,.int .i64 y.a,.int .i64 y.b,.int .i64 y.c,.int .i64 y.n]:=by
 obtain⟨xs,n,_,_,hl,F,D⟩:=DataW.trod_struct underlying36 h;rw[OV] at hl
 match E,hl with
 | [a0,a1,a2,a3,a4],_ =>
  match xs,F with
  | [x0,x1,x2,x3,x4],_ =>
   obtain⟨U,I,_⟩:=DataW.trod_int underlying3 (D 0 _ rfl);obtain⟨Z,J,_⟩:=DataW.trod_int underlying3 (D 1 _ rfl);obtain⟨n2,M,_⟩:=DataW.trod_int underlying3 (D 2 _ rfl);obtain⟨n3,O,_⟩:=DataW.trod_int underlying3 (D 3 _ rfl);obtain⟨n4,T,_⟩:=DataW.trod_int underlying3 (D 4 _ rfl)
   cases I;cases J;cases M;cases O;cases T
   exact⟨⟨U,Z,n2,n3,n4⟩,rfl⟩
theorem zrV{fuel:Nat}{cs:List Value}{x:DataW H × List MemPlace}(h:DataW.trod enc prog w base spare held fuel 34 cs=some x) :
  ∃ a c,∃ S:List Ac,cs=[.slice a S.length c]/\S.length<=c/\c<=9223372036854775807/\dY w a S:=by
 rcases Go.Deep.open_slice underlying34 h with ⟨rfl,_⟩ |⟨a,len,cap,m,n,D,Pl,rfl,_,hl,hm,a5,_,hx⟩
 ·exact⟨none,0,[],rfl,by simp,by omega,fun i hi=>absurd hi (yB _)⟩
 ·have a7:len<=m:=by rw[a5];split <;> omega
  have M:cap<=9223372036854775807:=by unfold maxLen at hm;omega
  obtain⟨F,I,O⟩:=a;by_cases h0:len=0
  ·subst h0;exact⟨_,cap,[],rfl,by simp,M,fun i hi=>absurd hi (yB _)⟩
  ·have a6:O=none:=by
    obtain⟨T,hc,ht⟩:=hx 0 (by omega);rw[OV] at hc;obtain⟨_,Z,E⟩:=World.cells?_some hc;have h1:=E 0 (by omega);rw[List.getElem?_eq_getElem (by omega)] at h1;simpa [Addr.add] using World.cell?_spot h1
   subst a6
   obtain⟨S,J,U⟩:=zxB len (fun i x=>w.cell? ⟨F,I+i*5,none⟩=some (.int .i64 x.k)/\w.cell? ⟨F,I+i*5+1,none⟩=some (.int .i64 x.a)/\w.cell? ⟨F,I+i*5+2,none⟩=some (.int .i64 x.b)/\w.cell? ⟨F,I+i*5+3,none⟩=some (.int .i64 x.c)/\w.cell? ⟨F,I+i*5+4,none⟩=some (.int .i64 x.n)) (fun i hi=>by
    obtain⟨T,hc,ht⟩:=hx i (by omega);rw[OV] at hc;obtain⟨_,Z,E⟩:=World.cells?_some hc;obtain⟨y,e⟩:=zuY ht;subst e;have k0:=E 0 (by omega);have k1:=E 1 (by omega);have k2:=E 2 (by omega);have k3:=E 3 (by omega);have k4:=E 4 (by omega);rw[add_plain,add_plain] at k0 k1 k2 k3 k4;exact⟨y,k0,k1,k2,k3,k4⟩)
   exact⟨some ⟨F,I,none⟩,cap,S,by rw[J],by rw[J];exact hl,M,fun i hi=>⟨F,I,rfl,U i (by omega)⟩⟩
theorem zpl{fuel:Nat}{E:List Value}{x:DataW H × List MemPlace}(h:DataW.trod enc prog w base spare held fuel 50 E=some x) :
  ∃ (A:RA) (R:Rl),E=[.slice A.a0 R.s.length A.c0,.slice A.a1 R.hs.length A.c1,.slice A.a2 R.i.length A.c2,.slice A.a3 R.t.length A.c3]/\iG R/\aU w A R:=by
 obtain⟨xs,n,_,_,hl,F,D⟩:=DataW.trod_struct underlying50 h;rw[Aj] at hl
 match E,hl with
 | [v0,v1,v2,v3],_ =>
  match xs,F with
  | [x0,x1,x2,x3],_ =>
   have g0:=D 0 _ rfl;have g1:=D 1 _ rfl;have g2:=D 2 _ rfl;have g3:=D 3 _ rfl;obtain⟨_,_,_,_,s0⟩:=trod_struct1 underlying43 g0;obtain⟨_,_,_,_,s2⟩:=trod_struct1 underlying47 g2;obtain⟨a0,c0,S,U,n0,M,h0⟩:=zpi s0;obtain⟨a1,c1,J,Z,n1,h1⟩:=zpg g1;obtain⟨a2,c2,I,e2,n2,T,h2⟩:=OT s2;obtain⟨a3,c3,O,e3,n3,m3,h3⟩:=Ah g3
   cases U;cases Z;cases e2;cases e3
   exact⟨⟨a0,a1,a2,a3,c0,c1,c2,c3⟩,⟨S,J,I,O⟩,rfl,⟨n0,M,n1,n2,T,by show O.length<=_;omega⟩,h0,h1,h2,h3⟩
