/-
  x
-/
import Derived.Test.YtcbcpomacdngmaaGreatA45
namespace Go.Proofs.YtcbcpomacdngmaaGreat
set_option maxRecDepth 100000
set_option maxHeartbeats 4000000
set_option linter.unusedVariables false
open Go.RowKit Go.ChangeShapes Go.WideShapes Go.ChangeAt Tryz
theorem GY{E K:Nat}:∀ V D:World,V.cell? ⟨E,0,none⟩=some (.func (.func K) #[] #[])->Bl V D->D.cell? ⟨E,0,none⟩=some (.func (.func K) #[] #[]):=fun _ _ h hb=>aA h hb
theorem ZT{L:List Fr}{f t x:Int}(h:bG L f t x=0):bC L t=0:=(kP h).2.2.1
theorem Yx(me:Nat)(W:Wl)(x:Ac)(V:Wd)(H:aI W)(hm:me<W.fs.length):yO 79 #[.int .i64 x.k] V (oF me W x V):=by
 by_cases T:x.k=9
 ·rw[T];refine yj (Xp V) (fun e V1 hv=>oF.may (C:=fun _=>True) (t:=x.n) hv trivial (yM func111 oad rfl) (yM func112 oad rfl) oae (fun V=>OD x V) (fun _ _ _ _=>trivial) (fun h=>Xm me W x h) ?_);rw[show bD W me x=KX W me x.n from ye T];exact wC _ _ _ _ _
 by_cases D:x.k=13
 ·rw[D];refine yj (Xt V) (fun e V1 hv=>oF.may (C:=fun _=>True) (t:=x.n) hv trivial (yM func111 oad rfl) (yM func116 oad rfl) oae (fun V=>OD x V) (fun _ _ _ _=>trivial) (fun h=>Xn me W x h) ?_);rw[show bD W me x=KY W me x.n from by unfold bD;rw[yd T,ye D]];exact wC _ _ _ _ _
 by_cases E:x.k=12
 ·rw[E];refine yj (Xr V) (fun e V1 hv=>oF.may (C:=fun _=>True) (t:=x.a) hv trivial (yM func113 oad rfl) (yM func115 oad rfl) oae (fun V=>NZ x V) (fun _ _ _ _=>trivial) (fun h=>Yk me W x (ZT h) _ (pV _ _ _ _)) ?_);rw[show bD W me x=sH W me x.a x.b from by unfold bD;rw[yd T,yd D,ye E]];exact wC _ _ _ _ _
 by_cases F:x.k=10
 ·rw[F];refine yj (Xq V) (fun e V1 hv=>oF.may (C:=fun _=>True) (t:=x.a) hv trivial (yM func113 oad rfl) (yM func114 oad rfl) oae (fun V=>NZ x V) (fun _ _ _ _=>trivial) (fun h=>Yp me W x h) ?_);rw[show bD W me x=yQ W me x.a x.n from by unfold bD;rw[yd T,yd D,yd E,ye F]];exact wC _ _ _ _ _
 by_cases I:x.k=21
 ·rw[I];refine yj (Xu V) (fun e V1 hv=>oF.may (C:=fun _=>True) (t:=x.n) hv trivial (yM func111 oad rfl) (yM func117 oad rfl) oae (fun V=>OD x V) (fun _ _ _ _=>trivial) (fun h=>Yw me W x h) ?_);rw[show bD W me x=wGo W me x.n x.a from by unfold bD;rw[yd T,yd D,yd E,yd F,ye I]];exact wC _ _ _ _ _
 by_cases J:x.k=16
 ·rw[J];refine yj (Xz V) (fun e V1 hv=>⟨_,_,fun _=>True,hv.1,hv.2,trivial,(fun _ _ _ _=>trivial),(yM func118 oad rfl),?_⟩);rw[show bD W me x=vI W me from by unfold bD;rw[yd T,yd D,yd E,yd F,yd I,ye J]];exact Xo me W x
 by_cases M:x.k=17
 ·rw[M];refine yj (Xy V) (fun e V1 hv=>?_);obtain⟨Z,hv,hc⟩:=hv;refine oF.may (C:=fun V=>V.cell? ⟨Z,0,none⟩=some (.func (.func 120) #[] #[])) (t:=x.a) hv hc (yM func113 oad rfl) (yM func143 oad rfl) oae (fun V=>NZ x V) GY (fun h=>GU 120 Z (yM func120 oad rfl) me W x W _ _ (Yc me W x (ZT h)) (fun h2=>ES H h2) _ (by have h3:=pV [kI W.pt (many W) x.n me (aL W me) x.a (aL W x.a)] W { W with pt:=kJ W.pt x.n x.a (aL W x.a) } 0;rw[wB] at h3;exact h3)) ?_;rw[show bD W me x=yR W me x.a x.n from by unfold bD;rw[yd T,yd D,yd E,yd F,yd I,yd J,ye M]];exact wC _ _ _ _ _
 by_cases U:x.k=18
 ·rw[U];refine yj (Xv V) (fun e V1 hv=>?_);obtain⟨Z,he,hb,hc⟩:=hv;refine⟨_,_,fun V=>V.cell? ⟨Z,0,none⟩=some (.func (.func 121) #[] #[]),he,hb,hc,GY,(yM func143 oad rfl),GU 121 Z (yM func121 oad rfl) me W x W _ _ (Yi me W x) (fun h2=>ET (n:=x.n) H (k:=me) (bM (bM (bM h2).2).2).1) _ ?_⟩;rw[show bD W me x=yS W me x.a x.n from by unfold bD;rw[yd T,yd D,yd E,yd F,yd I,yd J,yd M,ye U]];exact pV _ _ _ _
 by_cases a5:x.k=19
 ·rw[a5];refine yj (Xw V) (fun e V1 hv=>?_);obtain⟨Z,he,hb,hc⟩:=hv;refine⟨_,_,fun V=>V.cell? ⟨Z,0,none⟩=some (.func (.func 122) #[] #[]),he,hb,hc,GY,(yM func143 oad rfl),GU 122 Z (yM func122 oad rfl) me W x _ _ _ (Yj me W x) (fun h2=>zF H hm h2) _ ?_⟩;rw[show bD W me x=yT W me x.n from by unfold bD;rw[yd T,yd D,yd E,yd F,yd I,yd J,yd M,yd U,ye a5]];have h3:=pV [gK W.pt (many W) x.n me (aL W me)] W { setR W me { rlm W me with i:=gr (pt W.pt x.n.toNat).cm 0 } with pt:=jQ W.pt x.n } 0;rw[wB] at h3;exact h3
 by_cases O:x.k=20
 ·rw[O];refine yj (Xx V) (fun e V1 hv=>?_);obtain⟨Z,he,hb,hc⟩:=hv;refine⟨_,_,fun V=>V.cell? ⟨Z,0,none⟩=some (.func (.func 123) #[] #[]),he,hb,hc,GY,(yM func143 oad rfl),GU 123 Z (yM func123 oad rfl) me W x W _ _ (Yb me W x) (fun h2=>EU (k:=me) H h2) _ ?_⟩;rw[show bD W me x=yU W me x.n from by unfold bD;rw[yd T,yd D,yd E,yd F,yd I,yd J,yd M,yd U,yd a5,ye O]];have h3:=pV [aX W.pt (many W) x.n me (aL W me)] W { W with pt:=kL W.pt x.n } 0;rw[wB] at h3;exact h3
 refine yj (Ya x.k V ⟨T,F,E,D,I,J,M,U,a5,O⟩) (fun e V1 hv=>⟨_,_,fun _=>True,hv.1,hv.2,trivial,(fun _ _ _ _=>trivial),(yM func124 oad rfl),?_⟩);rw[show bD W me x=wDo W me x from by unfold bD;rw[yd T,yd D,yd E,yd F,yd I,yd J,yd M,yd U,yd a5,yd O]];exact Wv me W x
def Sm(e:Int):Prop:=0<=e/\e<=20
theorem ZU:∀ {l:List Int},(∀ e ∈ l,Sm e)->Sm (aQ l)
 | [],_=>⟨Int.le_refl _,oae⟩
 | e :: l,h=>by
  show Sm (if e=0 then aQ l else e);split
  ·exact ZU (fun e D=>h e (List.mem_cons_of_mem _ D))
  ·exact h e (List.mem_cons_self)
theorem aW{p:Prop}[Decidable p]{a b:Int}(ha:Sm a)(hb:Sm b):Sm (if p then a else b):=by split <;> assumption
theorem sm0:Sm 0:=⟨oae,oae⟩
theorem sm1:Sm 1:=⟨oae,oae⟩
theorem sm2:Sm 2:=⟨oae,oae⟩
theorem sm3:Sm 3:=⟨oae,oae⟩
theorem sm4:Sm 4:=⟨oae,oae⟩
theorem sm5:Sm 5:=⟨oae,oae⟩
theorem sm6:Sm 6:=⟨oae,oae⟩
theorem sm7:Sm 7:=⟨oae,oae⟩
theorem sm8:Sm 8:=⟨oae,oae⟩
theorem ZV(S:List Nd)(p u:Int):Sm (iX S p u):=by
 unfold iX wV;exact aW (aW (aW (aW sm0 sm5) sm5) sm4) sm4
theorem ZW(S:List Nd):∀ hs,Sm (mP S hs)
 | []=>sm0
 | h :: r=>aW (ZW S r) (ZV _ _ _)
theorem oG{S:List Nd}(h:dG S=0)(p u:Int):Sm (aP S p u):=by
 unfold aP;rw[ye h];exact ZV _ _ _
theorem ZX{S:List Nd}(h:dG S=0)(t:Int):Sm (iR S t):=by
 unfold iR;rw[ye h];exact aW (aW sm0 sm1) sm2
theorem ZY(m:Nat):∀ l,Sm (cellsE m l)
 | []=>sm0
 | x :: l=>aW (ZY m l) (aW sm2 (aW sm1 (aW sm4 sm0)))
theorem Yy(G:List Cl):Sm (bF G):=aW sm1 (ZY _ _)
theorem OI(L:List Fr)(k:Int):Sm (bC L k):=aW sm4 (aW sm5 sm0)
theorem Yz{L:List Fr}(h:bS L=0)(f t x:Int):Sm (bG L f t x):=by
 have h1:Sm (mY L [f,t]):=by
  rw[vG,h];exact aW sm0 (aW (OI _ _) (OI _ _))
 exact aW h1 (aW sm3 (aW sm0 sm7))
theorem oH{E:Int}{R:Rl}{o:Int}(h:Sm E):Sm (ans E R o).e:=by
 unfold ans;split
 ·exact sm0
 ·exact h
theorem Za{L:List Pt}{F:Int}(h:dK L F=0)(k o t:Int):Sm (aX L F k o t):=by
 unfold aX;rw[h];exact aW sm0 (aW sm4 (aW sm7 (aW sm5 sm0)))
theorem Aa{R:Rl}(h:dG R.s=0)(n:Int):Sm (dN R n):=by
 have h1:∀ m,Sm (jC R m):=fun m=>by
  induction m with
  | zero=>exact sm0
  | succ m D=>exact aW (oG h _ _) D
 exact aW (h1 _) sm2
theorem jH{p:Prop}[Decidable p]{a b:Rs}(ha:Sm a.e)(hb:Sm b.e):Sm (if p then a else b).e:=by split <;> assumption
theorem Ab:∀ (q:List Tst) (i:Nat),Sm (lZ i q)
 | [],_=>sm0
 | te :: r,k=>aW (aW sm3 (Ab r (k+1))) sm2
theorem Zb{R:Rl}(F:bI R=0)(x:Ac):Sm (doF R x).e:=by
 have h:dG R.s=0:=(mU _).2 (gI F).1;unfold doF;rw[ye F];have E:∀ g n,Sm (qI R g n).e:=fun g n=>oH (aW (aW sm0 sm2) (oG h _ _))
 have D:∀ g1 g2 hs,Sm (nS R g1 g2 hs).e:=fun g1 g2 hs=>oH (by
  have I:Sm (dH R.s ((g1.1,g1.2) ::(g2.1,g2.2) :: hs)):=by
   unfold dH;rw[ye h];exact ZW _ _
  unfold fT;refine aW (aW ?_ sm6) I
  cases hs with
  | nil=>exact sm0
  | cons a l=>exact aW sm0 sm6)
 unfold doG;refine jH (jH (oH (ZX h _)) (jH (oH (aW (aW sm0 sm6) (oG h _ _))) (jH (oH (aW (aW sm6 sm0) (oG h _ _))) (jH (oH (oG h _ _)) (jH (E _ _) (jH (jH (E _ _) sm4) (jH (oH (aW (aW (Ab _ _) sm1) (oG h _ _))) (jH (oH (oG h _ _)) (jH (jH (jH (oH (aW (aW sm6 (ZX h _)) (oG h _ _))) (jH (oH (aW (aW sm6 sm0) (oG h _ _))) (jH (D _ _ _) (jH (D _ _ _) sm4)))) sm4) sm3))))))))) sm4
theorem nL{Es:List Int}{W V:Wl}{o:Int}(h:∀ e ∈ Es,Sm e):Sm (bP Es W V o).e:=by
 have e:(bP Es W V o).e=aQ Es:=by
  unfold bP;split
  ·rename_i h;exact h.symm
  ·rfl
 rw[e];exact ZU h
theorem oI{p:Prop}[Decidable p]{a b:Ws}(ha:Sm a.e)(hb:Sm b.e):Sm (if p then a else b).e:=by split <;> assumption
theorem wE{a:Int}(ha:Sm a):∀ e ∈ [a],Sm e:=fun e D=>by
 simp only[List.mem_cons,List.not_mem_nil,or_false] at D;subst D;exact ha
theorem Ad{a b:Int}(ha:Sm a)(hb:Sm b):∀ e ∈ [a,b],Sm e:=fun e D=>by
 simp only[List.mem_cons,List.not_mem_nil,or_false] at D;rcases D with rfl|rfl
 ·exact ha
 ·exact hb
theorem OJ{a b c:Int}(ha:Sm a)(hb:Sm b)(hc:Sm c):∀ e ∈ [a,b,c],Sm e:=fun e D=>by
 simp only[List.mem_cons,List.not_mem_nil,or_false] at D;rcases D with rfl|rfl|rfl
 ·exact ha
 ·exact hb
 ·exact hc
theorem Zc{W:Wl}(H:aI W){k:Nat}(J:k<W.fs.length)(x:Ac):Sm (bD W k x).e:=by
 have I:bS W.fs=0:=xW.2 H.fs;have M:dK W.pt (many W)=0:=qK.2 H.pt;have O:dG (rlm W k).s=0:=(mU _).2 (gI (H.rs k J)).1;have E:∀ t x,Sm (bG W.fs k t x):=fun t x=>Yz I _ _ _;have F:∀ n t,Sm (aX W.pt (many W) n k t):=fun n t=>Za M _ _ _
 have D:∀ a b,Sm (sH W k a b).e:=fun a b=>by
  by_cases h:bG W.fs k a 1=0
  ·obtain⟨q,rfl,T,_⟩:=iV (kP h).2.2.1;exact nL (OJ (E _ _) (aW sm0 sm4) (oG ((mU _).2 (gI (H.rs _ (by rw[yk];exact T))).1) _ _))
  ·unfold sH bP;have e:aQ [bG W.fs k a 1,if isH b then 0 else 4,aP (rlm W a.toNat).s (hd (rlm W a.toNat) b).1 (hd (rlm W a.toNat) b).2]=bG W.fs k a 1:=yd h;rw[e,yd h];exact E _ _
 unfold bD;refine oI (nL (wE (E _ _))) (oI (nL (wE (E _ _))) (oI (D _ _) (oI (nL (OJ (E _ _) (Aa O _) (aW sm1 sm0))) (oI (nL (Ad (E _ _) ?_)) (oI (nL (wE ?_)) (oI (nL (Ad (E _ _) (aW (F _ _) (aW sm4 (aW sm2 sm0))))) (oI (nL (OJ (aW sm7 sm0) (Aa O _) (aW (F _ _) (aW (Yy _) (aW sm5 (aW sm1 sm0)))))) (oI (nL (wE (aW (F _ _) (aW sm8 sm0)))) (oI (nL (wE (F _ _))) (nL (wE (Zb (H.rs k J) x))))))))))))
 ·unfold goE dR;rw[ye I];exact aW (OI _ _) (aW sm2 (aW sm1 sm0))
 ·unfold fU;rw[M];exact aW sm0 (aW sm4 (aW sm2 (aW sm1 sm0)))
variable {H:Type} {enc:TypeId × Value->H} {w:Wd} {base:Nat} {spare:Nat->Bool} {held:Bool}
theorem zxG{α:Type}(z:α)(len:Nat)(P:Nat->α->Prop)(h:∀ i,i<len->∃ x,P i x):∃ S:List α,S.length=len/\∀ i,i<len->P i (S.getD i z):=by
 induction len with
 | zero=>exact⟨[],rfl,fun i hi=>absurd hi (yB _)⟩
 | succ n I =>
  obtain⟨S,hl,E⟩:=I (fun i hi=>h i oaa);obtain⟨x,F⟩:=h n oaa;refine⟨S++[x],by simp[hl],fun i hi=>?_⟩;by_cases e:i=n
  ·subst e;rw[aJ _ _ (by simp[hl])];simpa [hl] using F
  ·have D:i<S.length:=oaa;have:=E i oaa;rw[aJ _ _ D] at this;rw[aJ _ _ oab,List.getElem_append_left D];exact this
theorem wF{α:Type}(z:α)(Q:List Value->α->Prop){tS tE size fuel:Nat}{cs:List Value}{x:DataW H × List MemPlace}(hu:prog.underlying tS=some (.slice tE))(hc:prog.cellsOf tE=size)(hs:0<size)
  (hE:∀ (n:Nat) (E:List Value) (x' : DataW H × List MemPlace),DataW.trod enc prog w base spare held n tE E=some x' -> ∃ y,Q E y) (h:DataW.trod enc prog w base spare held fuel tS cs=some x) :
  ∃ a c,∃ S:List α,cs=[.slice a S.length c]/\SlA a S.length c/\∀ i,i<S.length->∃ b o E,a=some ⟨b,o,none⟩/\(∀ j,j<size->w.cell? ⟨b,o+i*size+j,none⟩=E[j]?)/\Q E (S.getD i z):=by
 rcases Go.Deep.open_slice hu h with ⟨rfl,_⟩ |⟨a,len,cap,m,n,D,Pl,rfl,_,hl,hm,a6,_,hx⟩
 ·exact⟨none,0,[],rfl,⟨fun _=>rfl,oac,oaa⟩,fun i hi=>absurd hi (yB _)⟩
 ·have a8:len<=m:=by rw[a6];split <;> omega
  have M:cap<=9223372036854775807:=by unfold maxLen at hm;omega
  obtain⟨T,U,O⟩:=a;by_cases h0:len=0
  ·subst h0;exact⟨_,cap,[],rfl,⟨(fun e=>by cases e),oac,M⟩,fun i hi=>absurd hi (yB _)⟩
  ·have a7:O=none:=by
    obtain⟨E,F,ht⟩:=hx 0 oaa;rw[hc] at F;obtain⟨_,a5,I⟩:=World.cells?_some F;have h1:=I 0 hs;rw[List.getElem?_eq_getElem oaa] at h1;simpa [Addr.add] using World.cell?_spot h1
   subst a7
   obtain⟨S,J,Z⟩:=zxG z len (fun i y=>∃ E,(∀ j,j<size->w.cell? ⟨T,U+i*size+j,none⟩=E[j]?)/\Q E y) (fun i hi=>by
    obtain⟨E,F,ht⟩:=hx i oaa;rw[hc] at F;obtain⟨_,a5,I⟩:=World.cells?_some F;obtain⟨y,hy⟩:=hE _ _ _ ht;refine⟨y,E,fun j hj=>?_,hy⟩;have h1:=I j hj
    rwa [add_plain,add_plain] at h1)
   refine⟨some ⟨T,U,none⟩,cap,S,by rw[J],⟨(fun e=>by cases e),by rw[J];exact hl,M⟩,fun i hi=>?_⟩;obtain⟨E,h1,h2⟩:=Z i oaa;exact⟨T,U,E,rfl,h1,h2⟩
theorem pW:prog.cellsOf 65=5/\prog.cellsOf 34=1/\prog.cellsOf 53=2/\prog.cellsOf 51=1/\prog.cellsOf 40=2/\prog.cellsOf 28=5:=⟨oad,oad,oad,oad,oad,oad⟩
theorem znI{fuel:Nat}{I:List Value}{x:DataW H × List MemPlace}(h:DataW.trod enc prog w base spare held fuel 22 I=some x) :
  ∃ a c,∃ S:List Fr,I=[.slice a S.length c]/\SlA a S.length c/\aS w a S:=by
 obtain⟨a,c,S,e,hs,hx⟩:=wF (⟨0,0,0,0,false⟩:Fr) (fun D y=>D=[.int .i64 y.p,.int .i64 y.o,.int .i64 y.m,.int .i64 y.t,.bool y.g]) underlying22 pW.1 oae (fun n D x' ht=>by
  obtain⟨xs,n', _,_,hl,F,E⟩:=DataW.trod_struct underlying65 ht;rw[pW.1] at hl
  match D,hl with
  | [a0,a1,a2,a3,a4],_ =>
   match xs,F with
   | [x0,x1,x2,x3,x4],_ =>
    obtain⟨n0,J,_⟩:=DataW.trod_int underlying3 (E 0 _ rfl);obtain⟨n1,M,_⟩:=DataW.trod_int underlying3 (E 1 _ rfl);obtain⟨n2,O,_⟩:=DataW.trod_int underlying3 (E 2 _ rfl);obtain⟨n3,T,_⟩:=DataW.trod_int underlying3 (E 3 _ rfl);obtain⟨n4,U,_⟩:=DataW.trod_bool underlying4 (E 4 _ rfl)
    cases J;cases M;cases O;cases T;cases U
    exact⟨⟨n0,n1,n2,n3,n4⟩,rfl⟩) h
 refine⟨a,c,S,e,hs,fun i hi=>?_⟩;obtain⟨b,o,D,Z,hc,rfl⟩:=hx i hi;exact⟨b,o,Z,hc 0 oae,hc 1 oae,hc 2 oae,hc 3 oae,hc 4 oae⟩
theorem zph{fuel:Nat}{J:List Value}{x:DataW H × List MemPlace}(h:DataW.trod enc prog w base spare held fuel 51 J=some x) :
  ∃ a c,∃ S:List Ml,J=[.slice a S.length c]/\SlA a S.length c/\gX w a S/\∀ j,j<S.length->(ml S j).g.length<=9223372036854775807/\fK (ml S j).g:=by
 obtain⟨a,c,S,e,hs,T⟩:=wF LX (fun D y=>∃ ga gc,D=[.int .i64 y.f,.slice ga y.g.length gc]/\aO w ga y.g/\y.g.length<=9223372036854775807/\fK y.g) underlying51 pW.2.2.1 oae (fun n D x' ht=>by
  obtain⟨xs,n', _,_,hl,F,O⟩:=DataW.trod_struct underlying53 ht;rw[pW.2.2.1] at hl
  match D,hl with
  | [a0,a1],_ =>
   match xs,F with
   | [x0,x1],_ =>
    obtain⟨n0,Z,_⟩:=DataW.trod_int underlying3 (O 0 _ rfl);obtain⟨_,_,_,_,s2⟩:=trod_struct1 underlying47 (O 1 _ rfl);obtain⟨a2,c2,I,e2,n2,U,E⟩:=OU s2
    cases Z;cases e2
    exact⟨⟨n0,I⟩,a2,c2,rfl,E,n2,U⟩) h
 refine⟨a,c,S,e,hs,fun i hi=>?_,fun i hi=>?_⟩
 ·obtain⟨b,o,D,M,hc,ga,gc,rfl,h1,_⟩:=T i hi;exact⟨b,o,ga,gc,M,hc 0 oae,hc 1 oae,h1⟩
 ·obtain⟨b,o,D,M,hc,ga,gc,rfl,_,E⟩:=T i hi;exact E
theorem znK{fuel:Nat}{I:List Value}{x:DataW H × List MemPlace}(h:DataW.trod enc prog w base spare held fuel 25 I=some x) :
  ∃ a c,∃ S:List (List Ml),I=[.slice a S.length c]/\SlA a S.length c/\qN w a S/\∀ i,i<S.length->(qu S i).length<=9223372036854775807/\∀ j,j<(qu S i).length->(ml (qu S i) j).g.length<=9223372036854775807/\fK (ml (qu S i) j).g:=by
 obtain⟨a,c,S,e,hs,M⟩:=wF ([]:List Ml) (fun D y=>∃ qa qc,D=[.slice qa y.length qc]/\SlA qa y.length qc/\gX w qa y/\∀ j,j<y.length->(ml y j).g.length<=9223372036854775807/\fK (ml y j).g) underlying25 pW.2.2.2.1 oae (fun n D U T=>by
  obtain⟨qa,qc,q,O,h1,E,F⟩:=zph T;exact⟨q,qa,qc,O,h1,E,F⟩) h
 refine⟨a,c,S,e,hs,fun i hi=>?_,fun i hi=>?_⟩
 ·obtain⟨b,o,D,J,hc,qa,qc,rfl,h1,E,_⟩:=M i hi;have h0:=hc 0 oae;rw[Nat.mul_one,Nat.add_zero] at h0;exact⟨b,o,qa,qc,J,h0,h1,E⟩
 ·obtain⟨b,o,D,J,hc,qa,qc,rfl,h1,_,F⟩:=M i hi;exact⟨yJ h1.2.1 h1.2.2,F⟩
theorem Al{fuel:Nat}{E:List Value}{x:DataW H × List MemPlace}(h:DataW.trod enc prog w base spare held fuel 24 E=some x) :
  ∃ a c,∃ S:List (List Ac),E=[.slice a S.length c]/\SlA a S.length c/\lQ w a S/\∀ i,i<S.length->(pg S i).length<=9223372036854775807:=by
 obtain⟨a,c,S,e,hs,J⟩:=wF ([]:List Ac) (fun D y=>∃ qa qc,D=[.slice qa y.length qc]/\y.length<=9223372036854775807/\dY w qa y) underlying24 pW.2.1 oae (fun n D U T=>by
  obtain⟨qa,qc,q,M,h1,I,O⟩:=zrV T;exact⟨q,qa,qc,M,oaa,O⟩) h
 refine⟨a,c,S,e,hs,fun i hi=>?_,fun i hi=>?_⟩
 ·obtain⟨b,o,D,F,hc,qa,qc,rfl,h1,I⟩:=J i hi;have h0:=hc 0 oae;rw[Nat.mul_one,Nat.add_zero] at h0;exact⟨b,o,qa,qc,F,h0,I⟩
 ·obtain⟨b,o,D,F,hc,qa,qc,rfl,h1,_⟩:=J i hi;exact h1
theorem Am{fuel:Nat}{F:List Value}{x:DataW H × List MemPlace}(h:DataW.trod enc prog w base spare held fuel 23 F=some x) :
  ∃ a c,∃ S:List Rl,F=[.slice a S.length c]/\SlA a S.length c/\kR w a S/\∀ i,i<S.length->iG (rl S i):=by
 obtain⟨a,c,S,e,hs,J⟩:=wF dJ (fun D R=>∃ A:RA,D=[.slice A.a0 R.s.length A.c0,.slice A.a1 R.hs.length A.c1,.slice A.a2 R.i.length A.c2,.slice A.a3 R.t.length A.c3]/\iG R/\aU w A R) underlying23 Ak oae (fun n D T O=>by
  obtain⟨A,R,M,h1,E⟩:=zpl O;exact⟨R,A,M,h1,E⟩) h
 refine⟨a,c,S,e,hs,fun i hi=>?_,fun i hi=>?_⟩
 ·obtain⟨b,o,D,I,hc,A,rfl,h1,E⟩:=J i hi;exact⟨b,o,A,I,hc 0 oae,hc 1 oae,hc 2 oae,hc 3 oae,E⟩
 ·obtain⟨b,o,D,I,hc,A,rfl,h1,_⟩:=J i hi;exact h1
theorem zpj{fuel:Nat}{F:List Value}{x:DataW H × List MemPlace}(h:DataW.trod enc prog w base spare held fuel 71 F=some x) :
  ∃ a c,∃ S:List (Int × Bool),F=[.slice a S.length c]/\SlA a S.length c/\mO w a S:=by
 obtain⟨a,c,S,e,hs,U⟩:=wF ((0,false):Int × Bool) (fun D y=>D=[.int .i64 y.1,.bool y.2]) underlying71 pW.2.2.2.2.1 oae (fun n D x' T=>by
  obtain⟨xs,n', _,_,hl,E,I⟩:=DataW.trod_struct underlying40 T;rw[pW.2.2.2.2.1] at hl
  match D,hl with
  | [a0,a1],_ =>
   match xs,E with
   | [x0,x1],_ =>
    obtain⟨Z,J,_⟩:=DataW.trod_int underlying3 (I 0 _ rfl);obtain⟨n1,M,_⟩:=DataW.trod_bool underlying4 (I 1 _ rfl)
    cases J;cases M
    exact⟨(Z,n1),rfl⟩) h
 refine⟨a,c,S,e,hs,fun i hi=>?_⟩;obtain⟨b,o,D,O,hc,rfl⟩:=U i hi;exact⟨b,o,O,hc 0 oae,hc 1 oae⟩
theorem zpn{fuel:Nat}{E:List Value}{x:DataW H × List MemPlace}(h:DataW.trod enc prog w base spare held fuel 28 E=some x) :
  ∃ (A:WA) (W:Wl),E=[.slice A.a0 W.fs.length A.c0,.slice A.a1 W.rs.length A.c1,.slice A.a2 W.ps.length A.c2,.slice A.a3 W.qs.length A.c3,.slice A.a4 W.pt.length A.c4]/\kS W/\WlC A W/\gP w A W:=by
 obtain⟨xs,n,_,_,hl,F,D⟩:=DataW.trod_struct underlying28 h;rw[pW.2.2.2.2.2] at hl
 match E,hl with
 | [v0,v1,v2,v3,v4],_ =>
  match xs,F with
  | [x0,x1,x2,x3,x4],_ =>
   obtain⟨a0,c0,I,T,s0,h0⟩:=znI (D 0 _ rfl);obtain⟨a1,c1,J,U,s1,h1,g1⟩:=Am (D 1 _ rfl);obtain⟨a2,c2,M,Z,s2,h2,g2⟩:=Al (D 2 _ rfl);obtain⟨a3,c3,O,e3,s3,h3,g3⟩:=znK (D 3 _ rfl);obtain⟨a4,c4,S4,e4,n4,g4,s4,h4⟩:=zpk (D 4 _ rfl)
   cases T;cases U;cases Z;cases e3;cases e4
   exact⟨⟨a0,a1,a2,a3,a4,c0,c1,c2,c3,c4⟩,⟨I,J,M,O,S4⟩,rfl,⟨yJ s0.2.1 s0.2.2,⟨yJ s1.2.1 s1.2.2,g1⟩,⟨yJ s2.2.1 s2.2.2,g2⟩,⟨yJ s3.2.1 s3.2.2,g3⟩,n4,g4⟩,⟨s0,s1,s2,s3,s4⟩,⟨h0,h1,h2,h3,h4⟩⟩
theorem zsc{r:Reach}{E:Nat}{v:Value}{d:DataW H}{p:List MemPlace}(hv:Value.okWide prog w r E 28 v)(h:DataW.Trod enc prog w base spare held 28 v d p) :
  ∃ (A:WA) (W:Wl),v=wlV A W/\kS W/\WlC A W/\gP w A W:=by
 obtain⟨D,rfl,T⟩:=okWide_struct underlying28 hv;obtain⟨fuel,O⟩:=h;obtain⟨A,R,e,I,J,M⟩:=zpn O;refine⟨A,R,?_,I,J,M⟩;have F:D.toList=_:=e;rw[show D=D.toList.toArray from by simp,F]
theorem zrZ{r:Reach}{D:Nat}{v:Value}{d:DataW H}{p:List MemPlace}(hv:Value.okWide prog w r D 71 v)(h:DataW.Trod enc prog w base spare held 71 v d p) :
  ∃ a c,∃ S:List (Int × Bool),v=.slice a S.length c/\SlA a S.length c/\mO w a S:=by
 obtain⟨I,len,cap,rfl⟩:=okWide_slice underlying71 hv;obtain⟨fuel,F⟩:=h;obtain⟨ka,kc,ks,e,h1,E⟩:=zpj F;simp[Value.cells] at e;obtain⟨rfl,rfl,rfl⟩:=e;exact⟨_,_,ks,rfl,h1,E⟩
