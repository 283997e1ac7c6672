/-
  x
-/
import Derived.Test.YtcbcpomacdngmaaGreatA23
namespace Go.Proofs.YtcbcpomacdngmaaGreat
set_option maxRecDepth 100000
set_option maxHeartbeats 4000000
set_option linter.unusedVariables false
open Go.RowKit Go.ChangeShapes Go.WideShapes Tryz
theorem St.new{X:Nat->Prop}{P:World->Prop}{w:Wd}(h:St (fun _=>False) P w)(E:∀ b,X b->w.heap.size<=b):St X P w:=fun w' D=>h w' ⟨D.size,fun b hb _=>D.block b hb (fun F=>by have:=E b F;omega)⟩
theorem qQ{W:Wl}(H:aI W):kS W:=by
 have h1:=H.fs.few;refine⟨oaa,⟨by rw[H.lr];omega,fun i hi=>uS (H.rs i (by rw[<- H.lr];exact hi))⟩,⟨by rw[H.lp];omega,fun i hi=>?_⟩,⟨by rw[H.lq];omega,fun i hi=>?_⟩,?_⟩
 ·have:=H.ps i (by rw[<- H.lp];exact hi);exact yJ this oae
 ·obtain⟨E,F⟩:=nA.1 (H.qs i (by rw[<- H.lq];exact hi));refine⟨yJ E oae,fun j D=>?_⟩;have:=(F _ (List.getElem_mem D)).2;have hb:=uR this;rw[VN D];exact⟨oaa,hb.2⟩
 ·exact⟨by have:=H.pt.few;omega,(VM H.pt).big⟩
theorem Oi(hT:zC)(X:Nat->Prop){W Z:Wl}{k:Int}{s:Bool}{E:Int}(hB:kS W)(h1:bT W k s=E)(T:cB W k s=Z){a0 a1 a2 a3 a4:OA}{c0 c1 c2 c3 c4:Nat}{V:Wd}(hX:∀ b,X b->b<V.heap.size)(hC:WlC ⟨a0,a1,a2,a3,a4,c0,c1,c2,c3,c4⟩ W)(hW:cO X V ⟨a0,a1,a2,a3,a4,c0,c1,c2,c3,c4⟩ W) :
  yO 13 #[.agg #[.slice a0 W.fs.length c0,.slice a1 W.rs.length c1,.slice a2 W.ps.length c2,.slice a3 W.qs.length c3,.slice a4 W.pt.length c4],.agg #[.int .i64 k,.bool s]] V fun e w' => ∃ (D F I J M:OA) (d0 d1 d2 d3 O:Nat),e=.returned (.tuple #[.agg #[.slice D Z.fs.length d0,.slice F Z.rs.length d1,.slice I Z.ps.length d2,.slice J Z.qs.length d3,.slice M Z.pt.length O],.int .i64 E])/\Below V.heap.size V w' /\ WlC ⟨D,F,I,J,M,d0,d1,d2,d3,O⟩ Z/\cO X w' ⟨D,F,I,J,M,d0,d1,d2,d3,O⟩ Z:=by
 subst h1 T;refine(hT X ⟨a0,a1,a2,a3,a4,c0,c1,c2,c3,c4⟩ W k s V hX hB hC hW).mono ?_;rintro e w' ⟨⟨D,F,I,J,M,d0,d1,d2,d3,O⟩,h1,T,U,h4⟩;exact⟨D,F,I,J,M,d0,d1,d2,d3,O,h1,T,U,h4⟩
theorem MK(hK:zB){W:Wl}{E:Int}(D:kS W)(h1:fZ W=E){a0 a1 a2 a3 a4:OA}{c0 c1 c2 c3 c4:Nat}{V:Wd}(F:WlC ⟨a0,a1,a2,a3,a4,c0,c1,c2,c3,c4⟩ W)(I:gP V ⟨a0,a1,a2,a3,a4,c0,c1,c2,c3,c4⟩ W) :
  yO 10 #[.agg #[.slice a0 W.fs.length c0,.slice a1 W.rs.length c1,.slice a2 W.ps.length c2,.slice a3 W.qs.length c3,.slice a4 W.pt.length c4]] V fun e w' => e=.returned (.int .i64 E)/\Below V.heap.size V w' := by
 subst h1;exact hK ⟨a0,a1,a2,a3,a4,c0,c1,c2,c3,c4⟩ W V D F I
theorem Oj(E:OA)(n D cap:Nat)(h1:D<=n)(h:SlA E n cap):∃ F,(∀ W,(Instr.slice 71 (.slice E n cap) none (some (.int .i64 (D:Int))) none).run prog W=.ok (.slice E D F) W)/\SlA E D F:=by
 obtain⟨T,U,O⟩:=h
 cases E with
 | none =>
  have e:=T rfl;subst e;have J:n=0:=oaa
  have M:D=0:=oaa
  subst J;subst M;exact⟨0,fun W=>oaf,jE⟩
 | some I =>
  obtain⟨b,o,s⟩:=I;have g1:(D:Int)<=(cap:Int):=oaa
  have g2:(0:Int)<=(D:Int):=oaa
  exact⟨cap,fun W=>oaf,(fun e=>by cases e),oaa,O⟩
theorem Ol{X:Nat->Prop}{w V:Wd}{A:WA}{W:Wl}(h:gP w A W)(hb:Bl w V)(D:∀ b,X b->w.heap.size<=b):cO X V A W:=(St.new (Nc h) D).off (aC.of_below hb)
def MM:Prop:=∀ (A B:RA) (R Q:Rl) (w:Wd),iG R->aU w A R->aU w B Q ->
 yO 17 #[rlV A R,rlV B Q] w fun e w' => ∃ r:Bool,e=.returned (.bool r)/\Below w.heap.size w w' /\(r=true↔R=Q)
theorem checkN(hK:zB){W:Wl}(H:aI W){n E:Nat}(hn:W.fs.length=n)(D:W.pt.length=E){a0 a1 a2 a3 a4:OA}{c0 c1 c2 c3 c4:Nat}{V:Wd}(F:WlC ⟨a0,a1,a2,a3,a4,c0,c1,c2,c3,c4⟩ W)(I:gP V ⟨a0,a1,a2,a3,a4,c0,c1,c2,c3,c4⟩ W) :
  yO 10 #[.agg #[.slice a0 n c0,.slice a1 n c1,.slice a2 n c2,.slice a3 n c3,.slice a4 E c4]] V fun e w' => e=.returned (.int .i64 0)/\Below V.heap.size V w' := by
 have h:=MK hK (qQ H) (pI.2 H) F I;rw[H.lr,H.lp,H.lq,hn,D] at h;exact h
def fP(L:List Fr)(o k:Int):Bool:=decide (0<=k/\k<(L.length:Int)/\(fr L k.toNat).o=o)
theorem MP(k o:Int)(M J n:Nat)(a0:OA)(c0:Nat)(L:List Fr)(w:Wd)(hn:L.length=n)(hN:n<=1000)(hc:w.cell? ⟨M,0,none⟩=some (.slice a0 n c0))(ho:w.cell? ⟨J,0,none⟩=some (.int .i64 o))(F:aS w a0 L) :
  yO 25 #[.int .i64 k,.pointer (some ⟨M,0,none⟩),.pointer (some ⟨J,0,none⟩)] w fun e w' => e=.returned (.bool (fP L o k))/\∃ m,w' = w.drewN m:=by
 by_cases h0:k<0
 ·have E:fP L o k=false:=yH oaa;rw[E];have O:decide (k ≥ 0)=false:=yH oaa;have T:decide (0<=k)=false:=yH oaa;clear E F hn
  go_enter func25,ntmps25
  go_wp2_with fail
  go_big_quiet (fail)
  go_wp2
  go_ret;exact⟨rfl,_,rfl⟩
 ·obtain⟨D,rfl⟩:∃ D:Nat,k=D:=⟨k.toNat,oaa⟩;have O:decide ((D:Int) ≥ 0)=true:=yI oaa;have T:decide (0<=(D:Int))=true:=yI oaa;by_cases h1:D<n
  ·obtain⟨b,of,rfl,f0,f1,f2,f3,f4⟩:=F D (by rw[hn];exact h1);have U:decide ((D:Int)<(n:Int))=true:=yI oaa;have Z:decide (D<n)=true:=yI h1;have b5:(D:Int)<n:=oaa
   have E:fP L o D=decide ((fr L D).o=o):=by
    unfold fP;rw[yk,hn];exact decide_eq_decide.2 ⟨fun h=>h.2.2,fun h=>⟨oaa,oaa,h⟩⟩
   rw[E];clear F E hn f0 f2 f3 f4 h0;generalize (fr L D).o=x at f1;by_cases I:x=o
   ·subst I;rw[yI rfl]
    go_enter func25,ntmps25
    go_wp2_with fail
    go_big_quiet (fail)
    go_wp2
    go_ret;exact⟨rfl,_,rfl⟩
   ·rw[yH I];have b6:decide (x=o)=false:=yH I;have b7:(x == o)=false:=by simpa using I
    go_enter func25,ntmps25
    go_wp2_with fail
    go_big_quiet (fail)
    go_wp2
    go_ret;exact⟨rfl,_,rfl⟩
  ·have E:fP L o D=false:=yH (by rw[hn];omega);rw[E];have U:decide ((D:Int)<(n:Int))=false:=yH oaa;have Z:decide (D<n)=false:=yH h1;clear E F hn
   go_enter func25,ntmps25
   go_wp2_with fail
   go_big_quiet (fail)
   go_wp2
   go_ret;exact⟨rfl,_,rfl⟩
def lS(D:Bool)(x y:Pt):Prop:=if D=true/\x.cm.length=y.cm.length then { x with cm:=[] }={ y with cm:=[] } else x=y
theorem MQ(w:Wd)(D:Obj)(X:Array Value)(t:Nat):((w.alloc D).alloc (.cells X t)).heap[w.heap.size+1]?=some (.cells X t (0,0)):=by
 have h:=yN (w.alloc D) (.cells X t);rw[yw] at h;exact h
theorem WJ(x y:Pt)(ka D:OA)(kc E b I:Nat)(n O:Nat)(w:Wd)(hn:x.cm.length=n)(M:y.cm.length=O)(Z:n<=9223372036854775807)(U:mK x.cm)(h1:kQ w ka kc x.cm)(T:kQ w D E y.cm)
  (c0:w.heap[b]?=some (.cells #[.int .i64 x.o,.int .i64 x.t,.int .i64 x.m,.slice ka n kc,.bool x.s] 121 (0,0))) (F:w.heap[I]?=some (.cells #[.int .i64 y.o,.int .i64 y.t,.int .i64 y.m,.slice D O E,.bool y.s] 121 (0,0))) :
  yO 61 #[.slice (some ⟨b,0,none⟩) 1 1,.slice (some ⟨I,0,none⟩) 1 1] w fun e w' => ∃ r:Bool,e=.returned (.bool r)/\Below w.heap.size w w' /\(r=true↔x=y):=by
 subst hn M
 have J:iH [x]:=fun i hi=>by
  obtain rfl:i=0:=by have:i<1:=hi;omega
  exact⟨Z,U⟩
 have h:=Ox (some ⟨b,0,none⟩) (some ⟨I,0,none⟩) 1 1 [x] [y] w oac J (fun i hi=>by
  obtain rfl:i=0:=by have:i<1:=hi;omega
  exact⟨b,0,rfl,bN c0 rfl,bN c0 rfl,bN c0 rfl,ka,kc,bN c0 rfl,h1,bN c0 rfl⟩) (fun i hi=>by
  obtain rfl:i=0:=by have:i<1:=hi;omega
  exact⟨I,0,rfl,bN F rfl,bN F rfl,bN F rfl,D,E,bN F rfl,T,bN F rfl⟩)
 refine h.mono fun e w' ⟨r,x1,x2,x3⟩=>⟨r,x1,x2,x3.trans ⟨fun e=>by simpa using e,fun e=>by rw[e]⟩⟩
theorem Oy(x y:Pt)(mf:Bool)(ka D:OA)(kc E bf bw bo:Nat)(w:Wd)(hN:x.cm.length<=1000)(hB:mK x.cm)(h1:kQ w ka kc x.cm)(h2:kQ w D E y.cm)
  (hf:w.cell? ⟨bf,0,none⟩=some (.func (.func 25) #[] #[.pointer (some ⟨bw,0,none⟩),.pointer (some ⟨bo,0,none⟩)]))
  (DM:Hid (∀ V,Bl w V->yO 25 #[.int .i64 x.o,.pointer (some ⟨bw,0,none⟩),.pointer (some ⟨bo,0,none⟩)] V fun e w' => e=.returned (.bool mf)/\Below V.heap.size V w')) :
  yO 60 #[.agg #[.int .i64 x.o,.int .i64 x.t,.int .i64 x.m,.slice ka x.cm.length kc,.bool x.s],.agg #[.int .i64 y.o,.int .i64 y.t,.int .i64 y.m,.slice D y.cm.length E,.bool y.s],.pointer (some ⟨bf,0,none⟩)] w fun e w' => ∃ r:Bool,e=.returned (.bool r)/\Below w.heap.size w w' /\(r=true↔lS mf x y):=by
 have b0:bf<w.heap.size:=yi _ _ hf;have H1:Hid (kQ w ka kc x.cm):=h1;have H2:Hid (kQ w D E y.cm):=h2;have HB:Hid (mK x.cm):=hB;clear h1 h2 hB;obtain⟨J,O,I,xc,M⟩:=x;obtain⟨U,yt,T,yc,Z⟩:=y;dsimp only at hN H1 H2 HB DM |-;obtain⟨n,hn⟩:∃ n,xc.length=n:=⟨_,rfl⟩;obtain⟨F,a5⟩:∃ F,yc.length=F:=⟨_,rfl⟩;have NX:Hid (xc.length=n):=hn;have NY:Hid (yc.length=F):=a5;rw[hn,a5];rw[hn] at hN;have AL:Hid (lS mf ⟨J,O,I,xc,M⟩ ⟨U,yt,T,yc,Z⟩↔(if mf=true/\n=F then (⟨J,O,I,[],M⟩:Pt)=⟨U,yt,T,[],Z⟩ else (⟨J,O,I,xc,M⟩:Pt)=⟨U,yt,T,yc,Z⟩)):=(show _↔_ from by unfold lS;dsimp only;rw[hn,a5]);clear hn a5
 go_enter func60,ntmps60
 go_wp2_with fail
 refine yj (DM _ (aM _ _ _)) ?_;rintro e w1 ⟨rfl,hb⟩;have K3:Hid (w1.heap[w.heap.size]?=some (.cells #[.int .i64 J,.int .i64 O,.int .i64 I,.slice ka n kc,.bool M] 121 (0,0))):=aH (aH (yN w _) (aB _ _)) hb;have K4:Hid (w1.heap[w.heap.size+1]?=some (.cells #[.int .i64 U,.int .i64 yt,.int .i64 T,.slice D F E,.bool Z] 121 (0,0))):=aH (MQ w _ _ _) hb;have B1:Hid (Bl w w1):=(aM w _ _).trans (hb.mono oab);clear hb DM;obtain⟨p0,p1,p2,p3,p4,pf,pl⟩:=dS K3.out;obtain⟨z0,z1,z2,z3,z4,zf,zl⟩:=dS K4.out
 have DN:Hid (yO 61 #[.slice (some ⟨w1.heap.size,0,none⟩) 1 1,.slice (some ⟨w1.heap.size+1,0,none⟩) 1 1] ((w1.alloc (.cells #[.int .i64 J,.int .i64 O,.int .i64 I,.slice ka n kc,.bool M] 121)).alloc (.cells #[.int .i64 U,.int .i64 yt,.int .i64 T,.slice D F E,.bool Z] 121)) fun e w' => ∃ r:Bool,e=.returned (.bool r)/\Below (w1.heap.size+1+1) ((w1.alloc (.cells #[.int .i64 J,.int .i64 O,.int .i64 I,.slice ka n kc,.bool M] 121)).alloc (.cells #[.int .i64 U,.int .i64 yt,.int .i64 T,.slice D F E,.bool Z] 121)) w' /\(r=true↔(⟨J,O,I,xc,M⟩:Pt)=⟨U,yt,T,yc,Z⟩)):=by
  have h:=WJ ⟨J,O,I,xc,M⟩ ⟨U,yt,T,yc,Z⟩ ka D kc E w1.heap.size (w1.heap.size+1) n F _ NX.out NY.out oaa HB.out ((H1.below B1).below (aM w1 _ _)) ((H2.below B1).below (aM w1 _ _)) (aH (yN w1 _) (aB _ _)) (MQ w1 _ _ _);simp only[yw] at h;exact h
 have PL:Hid (¬ (mf=true/\n=F)->∀ r:Bool,(r=true↔(⟨J,O,I,xc,M⟩:Pt)=⟨U,yt,T,yc,Z⟩)->(r=true↔lS mf ⟨J,O,I,xc,M⟩ ⟨U,yt,T,yc,Z⟩)):=fun h r hr=>(show _↔_ from by rw[AL.out,yd h];exact hr);have BF:Hid (∀ w', Below (w1.heap.size+1+1) ((w1.alloc (.cells #[.int .i64 J,.int .i64 O,.int .i64 I,.slice ka n kc,.bool M] 121)).alloc (.cells #[.int .i64 U,.int .i64 yt,.int .i64 T,.slice D F E,.bool Z] 121)) w' -> Bl w w'):=fun w' h=>(B1.trans ((aM w1 _ _).mono B1.size)).trans (h.mono (by have:=B1.size;omega))
 cases mf with
 | false =>
  go_wp2_with fail
  refine yj DN.out ?_;rintro e w2 ⟨r,rfl,hb,hr⟩;have HR:Hid _:=PL.out (fun h=>by cases h.1) r hr;have B2:Hid _:=BF.out w2 hb;clear hb hr
  go_wp2
  go_ret;exact⟨r,rfl,B2.out,HR.out⟩
 | true =>
  by_cases hl:n=F
  ·subst hl;have a8:Hid (lS true ⟨J,O,I,xc,M⟩ ⟨U,yt,T,yc,Z⟩↔(⟨J,O,I,[],M⟩:Pt)=⟨U,yt,T,[],Z⟩):=(show _↔_ from by rw[AL.out,ye ⟨rfl,rfl⟩]);have b4:¬ w.heap.size=w.heap.size+1:=oaa;clear AL DN PL BF
   go_wp2_with fail
   obtain⟨ws,a6⟩:∃ ws,(w1.setCell ⟨w.heap.size,3,none⟩ (.slice none 0 0)).setCell ⟨w.heap.size+1,3,none⟩ (.slice none 0 0)=ws:=⟨_,rfl⟩;have a7:ws.heap.size=w1.heap.size:=(by rw[<- a6];simp);have BS:Hid (Bl w ws):=(by rw[<- a6];exact(B1.setCell (yr _) _).setCell (Nat.le_succ _) _);rw[a6,<- a7];have a9:Hid _:=a7;clear a6 a7;refine yj (WJ ⟨J,O,I,[],M⟩ ⟨U,yt,T,[],Z⟩ none none 0 0 ws.heap.size (ws.heap.size+1) 0 0 _ rfl rfl oae (fun i hi=>absurd hi (yB _)) ⟨⟨fun _=>rfl,yr _,oae⟩,LM _⟩ ⟨⟨fun _=>rfl,yr _,oae⟩,LM _⟩ (aH (yN ws _) (aB _ _)) (MQ ws _ _ _)) ?_;rintro e w2 ⟨r,rfl,hb,hr⟩;have HR:Hid _:=hr.trans a8.symm;have B2:Hid (Bl w w2):=(BS.trans ((aM ws _ _).mono BS.size)).trans (hb.mono (by have:=BS.size;simp;omega));clear hb hr
   go_wp2
   go_ret;exact⟨r,rfl,B2.out,HR.out⟩
  ·have b1:decide ((n:Int)=(F:Int))=false:=yH oaa;have b2:((n:Int) ==(F:Int))=false:=beq_eq_false_iff_ne.2 oaa;have b3:(n == F)=false:=beq_eq_false_iff_ne.2 hl
   go_wp2_with fail
   refine yj DN.out ?_;rintro e w2 ⟨r,rfl,hb,hr⟩;have HR:Hid _:=PL.out (fun h=>hl h.2) r hr;have B2:Hid _:=BF.out w2 hb;clear hb hr
   go_wp2
   go_ret;exact⟨r,rfl,B2.out,HR.out⟩
theorem Oz(P:Pt->Pt->Prop)(bf:Nat)(a a' :OA)(c c' : Nat)(S D:List Pt)(w:Wd)(hN:S.length<=1000)
  (hK:∀ (i:Nat) (ka F:OA) (kc I:Nat) V,i<S.length->Bl w V->kQ V ka kc (pt S i).cm->kQ V F I (pt D i).cm->yO 60 #[.agg #[.int .i64 (pt S i).o,.int .i64 (pt S i).t,.int .i64 (pt S i).m,.slice ka (pt S i).cm.length kc,.bool (pt S i).s],.agg #[.int .i64 (pt D i).o,.int .i64 (pt D i).t,.int .i64 (pt D i).m,.slice F (pt D i).cm.length I,.bool (pt D i).s],.pointer (some ⟨bf,0,none⟩)] V fun e w' => ∃ r:Bool,e=.returned (.bool r)/\Below V.heap.size V w' /\(r=true↔P (pt S i) (pt D i))) (h1:cK w a S) (h2:cK w a' D) :
  yO 59 #[.slice a S.length c,.slice a' D.length c', .func (.func 60) #[] #[.pointer (some ⟨bf,0,none⟩)]] w fun e w' => ∃ r:Bool,e=.returned (.bool r)/\Below w.heap.size w w' /\(r=true↔S.length=D.length/\∀ i,i<S.length->P (pt S i) (pt D i)):=by
 by_cases hl:S.length=D.length
 ·have E1:Hid ((∀ i,i<S.length->P (pt S i) (pt D i))->S.length=D.length/\∀ i,i<S.length->P (pt S i) (pt D i)):=fun h=>⟨hl,h⟩;have E2:Hid (∀ i,i<S.length->¬ P (pt S i) (pt D i)->¬ (S.length=D.length/\∀ i,i<S.length->P (pt S i) (pt D i))):=fun i hi h e=>h (e.2 i hi);have H1:Hid (cK w a S):=h1;have H2:Hid (cK w a' D):=h2;have HK:Hid _:=hK;have HL:Hid (D.length=S.length):=hl.symm;rw[<- hl] at E1 E2 |-;clear h1 h2 hl hK;generalize hn:S.length=n at *;have HN:Hid _:=hn;clear hn
  go_enter func59,ntmps59
  go_wp2
  go_loopg [17] n (fun g s17 wr=>∃ k:Nat,k<=n/\n-k<=g/\s17=.int .i64 k/\Below w.heap.size w wr/\Hid (∀ i,i<k->P (pt S i) (pt D i)))
  case atStart=>exact⟨0,oaa,oaa,rfl,yv _ _,fun i hi=>oaa⟩
  case round =>
   obtain⟨k,hk,hg,rfl,hb,A⟩:=hrel;by_cases E:k<n
   ·have a6:(k:Int)<(n:Int):=oaa;obtain⟨b,o,rfl,c0,c1,c2,ka,kc,c3,M,c4⟩:=(H1.below hb) k (by rw[HN.out];exact E);obtain⟨b', o', rfl,e0,e1,e2,F,I,e3,O,e4⟩:=(H2.below hb) k (by rw[HL.out];exact E);have a7:=yi _ _ c0;have a5:=yi _ _ e0;have d1:=fun o1 o2=>HK.out k ka F kc I ((wr.alloc o1).alloc o2) E (hb.trans ((aM wr _ _).mono hb.size)) (M.below (aM _ _ _)) (O.below (aM _ _ _));have U:Hid _:=E2.out k E
    have KK:Hid (P (pt S k) (pt D k)->∀ i,i<k+1->P (pt S i) (pt D i)):=fun h i hi=>by
     by_cases e:i=k
     ·subst e;exact h
     ·exact A.out i oaa
    clear M O;have D1:Hid _:=d1;clear d1;generalize pt S k=x at *;generalize pt D k=y at *
    go_wp2_with fail
    refine(D1 _ _).mono ?_;rintro e w3 ⟨r,rfl,J,T⟩
    cases r with
    | true =>
     have HR:Hid _:=T.1 rfl;clear T
     go_wp2
     go_roundg (n-(k+1))
     case measure=>omega
     case rel=>exact⟨k+1,oaa,oaa,by go_num,(hb.trans ((aM _ _ _).mono hb.size)).trans (J.mono (by simp;have:=hb.size;omega)),KK.out HR.out⟩
    | false =>
     have HR:Hid _:=U.out fun e=>by have:=T.2 e;cases this
     clear T
     go_wp2
     go_ret;exact⟨false,rfl,(hb.trans ((aM _ _ _).mono hb.size)).trans (J.mono (by simp;have:=hb.size;omega)),⟨fun h=>oah,fun h=>absurd h HR.out⟩⟩
   ·have:k=n:=oaa;subst this
    go_wp2
    go_ret;exact⟨true,rfl,hb,⟨fun _=>E1.out A.out,fun _=>rfl⟩⟩
 ·have a8:¬ ((S.length:Int)=(D.length:Int)):=oaa
  have Z:Hid (¬ (S.length=D.length/\∀ i,i<S.length->P (pt S i) (pt D i))):=fun e=>hl e.1;clear h1 h2 hK;generalize S.length=n at *;generalize D.length=n' at *
  go_enter func59,ntmps59
  go_wp2
  go_ret;exact⟨false,rfl,yv _ _,⟨fun h=>oah,fun h=>absurd h Z.out⟩⟩
theorem Pb(L:List Fr)(T:Int)(I F n:Nat)(a0:OA)(c0:Nat)(a Z:OA)(c c' : Nat)(S E:List Pt)(w:Wd)(hn:L.length=n)(U:n<=1000)(hN:S.length<=1000)(hB:iH S)(hS:∀ i,i<S.length->(pt S i).cm.length<=1000)(hc:w.cell? ⟨I,0,none⟩=some (.slice a0 n c0))(ho:w.cell? ⟨F,0,none⟩=some (.int .i64 T))(hL:aS w a0 L)(h1:cK w a S)(h2:cK w Z E) :
  yO 27 #[.slice a S.length c,.slice Z E.length c', .func (.func 25) #[] #[.pointer (some ⟨I,0,none⟩),.pointer (some ⟨F,0,none⟩)]] w fun e w' => ∃ r:Bool,e=.returned (.bool r)/\Below w.heap.size w w' /\(r=true↔S.length=E.length/\∀ i,i<S.length->lS (fP L T (pt S i).o) (pt S i) (pt E i)):=by
 have D:Hid (yO 59 #[.slice a S.length c,.slice Z E.length c', .func (.func 60) #[] #[.pointer (some ⟨w.heap.size,0,none⟩)]] (w.alloc (.cells #[.func (.func 25) #[] #[.pointer (some ⟨I,0,none⟩),.pointer (some ⟨F,0,none⟩)]] 81)) fun e w' => ∃ r:Bool,e=.returned (.bool r)/\Below (w.heap.size+1) (w.alloc (.cells #[.func (.func 25) #[] #[.pointer (some ⟨I,0,none⟩),.pointer (some ⟨F,0,none⟩)]] 81)) w' /\(r=true↔S.length=E.length/\∀ i,i<S.length->lS (fP L T (pt S i).o) (pt S i) (pt E i))):=by
  have h:=Oz (fun x y=>lS (fP L T x.o) x y) w.heap.size a Z c c' S E (w.alloc (.cells #[.func (.func 25) #[] #[.pointer (some ⟨I,0,none⟩),.pointer (some ⟨F,0,none⟩)]] 81)) hN (fun i ka a5 kc a6 V hi hV g1 g2=>by
   have O:Bl w V:=(aB w _).trans (hV.mono oac);exact Oy (pt S i) (pt E i) (fP L T (pt S i).o) ka a5 kc a6 w.heap.size I F V (hS i hi) (hB i hi).2 g1 g2 (aA (aK w _ _ 0 rfl) hV) (fun V2 M=>(MP (pt S i).o T I F n a0 c0 L V2 hn U (aA (aA hc O) M) (aA (aA ho O) M) ((hL.below O).below M)).mono fun e w' ⟨x1,m,x2⟩=>⟨x1,by rw[x2];exact dL (yv _ _) _⟩)) (h1.below (aB _ _)) (h2.below (aB _ _))
  simp only[yw] at h;exact h
 clear hS hB hc ho hL h1 h2 hn U hN;obtain⟨PP,J⟩:∃ PP:Prop,(S.length=E.length/\∀ i,i<S.length->lS (fP L T (pt S i).o) (pt S i) (pt E i))=PP:=⟨_,rfl⟩;rw[J] at D;rw[J];clear J;generalize S.length=n1 at *;generalize E.length=n2 at *
 go_enter func27,ntmps27
 go_wp2_with fail
 refine yj D.out ?_;rintro e w1 ⟨r,rfl,hb,hr⟩;have HR:Hid _:=hr;have B1:Hid (Bl w w1):=(aB w _).trans (hb.mono oaa);clear hb hr
 go_wp2
 go_ret;exact⟨r,rfl,B1.out,HR.out⟩
def Out(M:Nat->Prop)(T:Nat->Int)(W:Wl)(j:Nat):Prop:=¬ M j\/(fr W.fs j).t≠T j
structure Sim (M:Nat->Prop) (T:Nat->Int) (O:Int) (W V:Wl):Prop where
 fs:V.fs=W.fs
 hw:aI W
 hv:aI V
 tm:∀ j,j<W.fs.length->T j<=(fr W.fs j).t
 org:∀ j,j<W.fs.length->(fr W.fs j).t=T j->(M j↔(fr W.fs j).o=O)
 rl:∀ j,j<W.fs.length->Out M T W j->rlm V j=rlm W j
 sz:∀ j,j<W.fs.length->(rlm V j).s.length=(rlm W j).s.length
 pr:∀ j,j<W.fs.length->Out M T W j->prg V j=prg W j
 ql:∀ j,j<W.fs.length->(que V j).length=(que W j).length
 qe:∀ j,j<W.fs.length->Out M T W j->que V j=que W j
 pl:V.pt.length=W.pt.length
 pf:∀ i,i<W.pt.length->(pt V.pt i).o=(pt W.pt i).o/\(pt V.pt i).t=(pt W.pt i).t/\(pt V.pt i).m=(pt W.pt i).m/\(pt V.pt i).s=(pt W.pt i).s/\(pt V.pt i).cm.length=(pt W.pt i).cm.length
 pc:∀ i,i<W.pt.length->¬ M (pt W.pt i).o.toNat->(pt V.pt i).cm=(pt W.pt i).cm
def Alike(M:Nat->Prop)(T:Nat->Int)(O:Int)(q r:Ws):Prop:=r.e=q.e/\r.o=q.o/\Sim M T O q.w r.w
variable {M:Nat->Prop} {T:Nat->Int} {O:Int} {W V:Wl}
theorem Sim.frames(S:Sim M T O W V){L:List Fr}(J:gL L)(hl:L.length=W.fs.length)(I:∀ j,j<W.fs.length->(fr L j).t=(fr W.fs j).t)(U:∀ j,j<W.fs.length->(fr L j).o=(fr W.fs j).o):Sim M T O { W with fs:=L } { V with fs:=L } :=
 ⟨rfl,S.hw.frames J hl,S.hv.frames J (by rw[S.fs];exact hl),fun j D=>by
  have E:j<W.fs.length:=by rw[<- hl];exact D
  show T j<=(fr L j).t;rw[I j E];exact S.tm j E,fun j D=>by
  have E:j<W.fs.length:=by rw[<- hl];exact D
  show (fr L j).t=T j->(M j↔(fr L j).o=O);rw[I j E,U j E];exact S.org j E,
  fun j D h=>S.rl j (by rw[<- hl];exact D) (h.imp id (fun e F=>e (by show (fr L j).t=T j;rw[I j (by rw[<- hl];exact D)];exact F))),
  fun j D=>S.sz j (by rw[<- hl];exact D),
  fun j D h=>S.pr j (by rw[<- hl];exact D) (h.imp id (fun e F=>e (by show (fr L j).t=T j;rw[I j (by rw[<- hl];exact D)];exact F))),
  fun j D=>S.ql j (by rw[<- hl];exact D),
  fun j D h=>S.qe j (by rw[<- hl];exact D) (h.imp id (fun e F=>e (by show (fr L j).t=T j;rw[I j (by rw[<- hl];exact D)];exact F))),
  S.pl,S.pf,S.pc⟩
theorem Sim.setR(S:Sim M T O W V){k:Nat}(D:k<W.fs.length){R:Rl}(I:bI R=0):Sim M T O (setR W k R) (setR V k R):=by
 have h1:k<W.rs.length:=by rw[S.hw.lr];exact D
 have F:k<V.rs.length:=by rw[S.hv.lr,S.fs];exact D
 exact⟨S.fs,S.hw.setR I D,S.hv.setR I (by rw[S.fs];exact D),S.tm,S.org,fun j E h=>by
  rw[gW h1,gW F];split
  ·rfl
  ·exact S.rl j E h,fun j E=>by
  rw[gW h1,gW F];split
  ·rfl
  ·exact S.sz j E,S.pr,S.ql,S.qe,S.pl,S.pf,S.pc⟩
theorem Sim.queue(S:Sim M T O W V){a:Nat}(ha:a<W.fs.length){q r:List Ml}(I:dX W.fs.length q=0)(J:dX W.fs.length r=0)(hl:r.length=q.length)(F:Out M T W a->r=q):Sim M T O { W with qs:=W.qs.set a q } { V with qs:=V.qs.set a r }:=by
 have h1:a<W.qs.length:=by rw[S.hw.lq];exact ha
 have E:a<V.qs.length:=by rw[S.hv.lq,S.fs];exact ha
 refine⟨S.fs,S.hw.queue ha I,S.hv.queue (by rw[S.fs];exact ha) (by rw[S.fs];exact J),S.tm,S.org,S.rl,S.sz,S.pr,fun j D=>?_,fun j D h=>?_,S.pl,S.pf,S.pc⟩
 ·show ((V.qs.set a r).getD j []).length=((W.qs.set a q).getD j []).length;rw[dE _ _ _ _ _ h1,dE _ _ _ _ _ E];by_cases e:j=a
  ·rw[ye e,ye e];exact hl
  ·rw[yd e,yd e];exact S.ql j D
 ·show (V.qs.set a r).getD j []=(W.qs.set a q).getD j [];rw[dE _ _ _ _ _ h1,dE _ _ _ _ _ E];by_cases e:j=a
  ·rw[ye e,ye e];subst e;exact F h
  ·rw[yd e,yd e];exact S.qe j D h
theorem Sim.port(S:Sim M T O W V){k:Nat}(J:k<W.pt.length){x y:Pt}(F:gJ (W.pt.set k x) W.fs.length)(I:gJ (V.pt.set k y) W.fs.length)(E:y.o=x.o/\y.t=x.t/\y.m=x.m/\y.s=x.s/\y.cm.length=x.cm.length)(hc:¬ M x.o.toNat->y.cm=x.cm):Sim M T O { W with pt:=W.pt.set k x } { V with pt:=V.pt.set k y }:=by
 refine⟨S.fs,S.hw.ports F,S.hv.ports (by rw[S.fs];exact I),S.tm,S.org,S.rl,S.sz,S.pr,S.ql,S.qe,by show (V.pt.set k y).length=(W.pt.set k x).length;rw[List.length_set,List.length_set];exact S.pl,fun i hi=>?_,fun i hi=>?_⟩
 ·have D:i<W.pt.length:=by simpa using hi
  show (pt (V.pt.set k y) i).o=(pt (W.pt.set k x) i).o/\_;rw[nT D,nT (by rw[S.pl];exact D)];split
  ·exact E
  ·exact S.pf i D
 ·have D:i<W.pt.length:=by simpa using hi
  show ¬ M (pt (W.pt.set k x) i).o.toNat->(pt (V.pt.set k y) i).cm=(pt (W.pt.set k x) i).cm;rw[nT D,nT (by rw[S.pl];exact D)];split
  ·exact hc
  ·exact S.pc i D
theorem Sim.mnyS(S:Sim M T O W V):many V=many W:=by unfold many;rw[S.fs]
theorem Sim.trnS(S:Sim M T O W V)(a:Int):aL V a=aL W a:=by unfold aL;rw[S.fs]
theorem Sim.mayS(S:Sim M T O W V)(k:Nat):kN V k=kN W k:=by unfold kN;rw[S.fs]
theorem Sim.pchk(S:Sim M T O W V):dK V.pt (many W)=0/\dK W.pt (many W)=0:=by
 refine⟨?_,qK.2 S.hw.pt⟩;have:=qK.2 S.hv.pt
 rwa [S.fs] at this
theorem Sim.heldP(S:Sim M T O W V)(n o t:Int):aX V.pt (many W) n o t=aX W.pt (many W) n o t:=by
 unfold aX;obtain⟨c1,c2⟩:=S.pchk;rw[yd (yL c1),yd (yL c2),S.pl];by_cases h:0<=n/\n<(W.pt.length:Int)
 ·rw[yd (yL h),yd (yL h)];obtain⟨f1,f2,f3,f4,f5⟩:=S.pf n.toNat oaa;rw[f1,f2,f4]
 ·rw[ye h,ye h]
theorem Sim.opnS(S:Sim M T O W V)(o t:Int):fU V.pt (many W) o t=fU W.pt (many W) o t:=by
 unfold fU;obtain⟨c1,c2⟩:=S.pchk;rw[yd (yL c1),yd (yL c2),S.pl]
theorem Pd(S:Sim M T O W V){k:Nat}(h:fU W.pt (many W) k (aL W k)=0):Sim M T O { W with pt:=bJ W.pt k (aL W k) } { V with pt:=bJ V.pt k (aL W k) }:=by
 have hv:fU V.pt (many V) k (aL V k)=0:=by rw[S.mnyS,S.trnS,S.opnS];exact h
 have r1:=ER S.hw h;have r2:=ER S.hv hv;rw[S.trnS] at r2;have E:∀ L:List Pt,(bJ L k (aL W k)).length=L.length+2:=fun L=>by unfold bJ;rw[List.length_append];rfl
 have at' : ∀ i,i<W.pt.length+2->(i<W.pt.length/\pt (bJ V.pt k (aL W k)) i=pt V.pt i/\pt (bJ W.pt k (aL W k)) i=pt W.pt i)\/(pt (bJ V.pt k (aL W k)) i=pt (bJ W.pt k (aL W k)) i):=fun i hi=>by
  by_cases e:i<W.pt.length
  ·left;refine⟨e,?_,?_⟩
   ·unfold bJ;exact uW (by rw[S.pl];exact e)
   ·unfold bJ;exact uW e
  ·right;rw[mG (by rw[E,S.pl];exact hi),mG (by rw[E];exact hi)];unfold bJ;rw[List.getElem_append_right (by rw[S.pl];omega),List.getElem_append_right oaa];have:i-W.pt.length=0\/i-W.pt.length=1:=oaa;simp only[S.pl]
 refine⟨S.fs,r1,r2,S.tm,S.org,S.rl,S.sz,S.pr,S.ql,S.qe,by show (bJ V.pt _ _).length=(bJ W.pt _ _).length;rw[E,E,S.pl],fun i hi=>?_,fun i hi=>?_⟩
 ·have D:i<W.pt.length+2:=by rw[<- E];exact hi
  show (pt (bJ V.pt k (aL W k)) i).o=(pt (bJ W.pt k (aL W k)) i).o/\_;rcases at' i D with ⟨a,b,c⟩|b
  ·rw[b,c];exact S.pf i a
  ·rw[b];exact⟨rfl,rfl,rfl,rfl,rfl⟩
 ·have D:i<W.pt.length+2:=by rw[<- E];exact hi
  show ¬ M (pt (bJ W.pt k (aL W k)) i).o.toNat->(pt (bJ V.pt k (aL W k)) i).cm=(pt (bJ W.pt k (aL W k)) i).cm;rcases at' i D with ⟨a,b,c⟩|b
  ·rw[b,c];exact S.pc i a
  ·rw[b];exact fun _=>rfl
variable {M:Nat->Prop} {T:Nat->Int} {O:Int} {W V:Wl}
theorem nH{F E:Wl}{Es D:List Int}{o p:Int}(S:Sim M T O W V)(J:aQ D=aQ Es)(I:aQ Es=0->p=o/\Sim M T O F E):Alike M T O (bP Es W F o) (bP D V E p):=by
 unfold bP;rw[J];by_cases h:aQ Es=0
 ·rw[ye h,ye h];exact⟨rfl,(I h).1,(I h).2⟩
 ·rw[yd h,yd h];exact⟨rfl,rfl,S⟩
theorem FH{e:Int}{l m:List Int}(h:e=0->aQ l=aQ m):aQ (e :: l)=aQ (e :: m):=by
 unfold aQ;by_cases h0:e=0
 ·rw[ye h0,ye h0];exact h h0
 ·rw[yd h0,yd h0]
theorem Sim.self(S:Sim M T O W V){k:Nat}(E:k<W.fs.length)(D:¬ M k):rlm V k=rlm W k:=S.rl k E (Or.inl D)
theorem Pe(S:Sim M T O W V){k:Nat}{n a:Int}(h:aQ [bG W.fs k n 5,goE W.fs n a]=0) :
  Sim M T O { fs:=goF W.fs n a,rs:=W.rs.set n.toNat (bB (rlm W n.toNat).s.length),ps:=W.ps.set n.toNat [],qs:=W.qs.set n.toNat [],pt:=W.pt } { fs:=goF V.fs n a,rs:=V.rs.set n.toNat (bB (rlm V n.toNat).s.length),ps:=V.ps.set n.toNat [],qs:=V.qs.set n.toNat [],pt:=V.pt }:=by
 have hv:aQ [bG V.fs k n 5,goE V.fs n a]=0:=by rw[S.fs];exact h
 have r1:=MB S.hw h;have r2:=MB S.hv hv;obtain⟨h1,U⟩:=bM h;obtain⟨_,_,h4,_⟩:=kP h1;obtain⟨q,rfl,I,_⟩:=iV h4;rw[yk] at r1 r2 |-;have F:q<V.fs.length:=by rw[S.fs];exact I
 have Z:∀ j,j<W.fs.length->(fr (goF W.fs q a) j).t=if j=q then (fr W.fs j).t+1 else (fr W.fs j).t:=fun j E=>by
  by_cases e:j=q
  ·subst e;rw[qL E,ye rfl]
  ·rw[nW E e,yd e]
 have out:∀ j,j<W.fs.length->j≠q->(¬ M j\/(fr (goF W.fs q a) j).t≠T j)->Out M T W j:=fun j E e h=>h.imp id (fun U=>by rw[Z j E,yd e] at U;exact U);have J:∀ j,j<(goF W.fs q a).length->j<W.fs.length:=fun j E=>by rw[nV] at E;exact E
 refine⟨by show goF V.fs q a=goF W.fs q a;rw[S.fs],r1,r2,fun j E=>?_,fun j E=>?_,fun j E h=>?_,fun j E=>?_,fun j E h=>?_,fun j E=>?_,fun j E h=>?_,S.pl,S.pf,S.pc⟩
 ·have D:=J j E;have:=S.tm j D;show T j<=(fr (goF W.fs q a) j).t;rw[Z j D]
  split <;> omega
 ·have D:=J j E;show (fr (goF W.fs q a) j).t=T j->(M j↔(fr (goF W.fs q a) j).o=O);by_cases e:j=q
  ·subst e;have:=S.tm j D;rw[Z j D,ye rfl];intro h;omega
  ·rw[nW D e];exact S.org j D
 ·have D:=J j E;show (V.rs.set q _).getD j dJ=(W.rs.set q _).getD j dJ;rw[dE _ _ _ _ _ (by rw[S.hv.lr];exact F),dE _ _ _ _ _ (by rw[S.hw.lr];exact I)];by_cases e:j=q
  ·rw[ye e,ye e,S.sz q I]
  ·rw[yd e,yd e];exact S.rl j D (out j D e h)
 ·have D:=J j E;show ((V.rs.set q _).getD j dJ).s.length=((W.rs.set q _).getD j dJ).s.length;rw[dE _ _ _ _ _ (by rw[S.hv.lr];exact F),dE _ _ _ _ _ (by rw[S.hw.lr];exact I)];by_cases e:j=q
  ·rw[ye e,ye e,S.sz q I]
  ·rw[yd e,yd e];exact S.sz j D
 ·have D:=J j E;show (V.ps.set q []).getD j []=(W.ps.set q []).getD j [];rw[dE _ _ _ _ _ (by rw[S.hv.lp];exact F),dE _ _ _ _ _ (by rw[S.hw.lp];exact I)];by_cases e:j=q
  ·rw[ye e,ye e]
  ·rw[yd e,yd e];exact S.pr j D (out j D e h)
 ·have D:=J j E;show ((V.qs.set q []).getD j []).length=((W.qs.set q []).getD j []).length;rw[dE _ _ _ _ _ (by rw[S.hv.lq];exact F),dE _ _ _ _ _ (by rw[S.hw.lq];exact I)];by_cases e:j=q
  ·rw[ye e,ye e]
  ·rw[yd e,yd e];exact S.ql j D
 ·have D:=J j E;show (V.qs.set q []).getD j []=(W.qs.set q []).getD j [];rw[dE _ _ _ _ _ (by rw[S.hv.lq];exact F),dE _ _ _ _ _ (by rw[S.hw.lq];exact I)];by_cases e:j=q
  ·rw[ye e,ye e]
  ·rw[yd e,yd e];exact S.qe j D (out j D e h)
theorem Pf(S:Sim M T O W V){k:Nat}(J:k<W.fs.length)(I:¬ M k)(Z:(fr W.fs k).t=T k)(a b:Int):Alike M T O (sH W k a b) (sH V k a b):=by
 have key:bG W.fs k a 1=0->rlm V a.toNat=rlm W a.toNat:=fun h=>by
  obtain⟨_,_,E,h5⟩:=kP h;obtain⟨q,rfl,D,_⟩:=iV E;rw[yk];refine S.rl q D ?_;by_cases e:(fr W.fs q).t=T q
  ·left;intro U;unfold mI at h5;rw[ye rfl,yk,yk] at h5;have F:=of_decide_eq_true h5;exact I ((S.org k J Z).2 (F.trans ((S.org q D e).1 U)))
  ·exact Or.inr e
 unfold sH;rw[S.fs];refine nH S (FH fun h=>by rw[key h]) (fun h=>⟨?_,S⟩);rw[key (bM h).1]
theorem Pg(S:Sim M T O W V){k:Nat}(E:k<W.fs.length)(I:¬ M k)(a n:Int):Alike M T O (yQ W k a n) (yQ V k a n):=by
 unfold yQ;rw[S.fs,S.self E I]
 have key:bG W.fs k a 3=0->(que V a.toNat).length=(que W a.toNat).length:=fun h=>by
  obtain⟨_,_,F,_⟩:=kP h;obtain⟨q,rfl,D,_⟩:=iV F;rw[yk];exact S.ql q D
 refine nH S (FH fun h=>by rw[key h]) (fun h=>⟨rfl,?_⟩);have h1:=(bM h).1;have r1:=EO S.hw E h;have h' : aQ [bG V.fs k a 3,dN (rlm V k) n,if (que V a.toNat).length=16 then 1 else 0]=0:=by rw[S.fs,S.self E I,key h1];exact h
 have r2:=EO S.hv (by rw[S.fs];exact E) h';rw[S.self E I] at r2;obtain⟨_,_,F,_⟩:=kP h1;obtain⟨q,rfl,D,_⟩:=iV F;rw[yk] at r1 r2 |-
 have U:dX W.fs.length (que W q++[⟨k,bO (rlm W k) n.toNat⟩])=0:=by
  have:=r1.qs q D
  have e:que { W with qs:=W.qs.set q (que W q++[⟨k,bO (rlm W k) n.toNat⟩]) } q=que W q++[⟨k,bO (rlm W k) n.toNat⟩]:=by
   show (W.qs.set q _).getD q []=_;rw[dE _ _ _ _ _ (by rw[S.hw.lq];exact D),ye rfl]
  rw[e] at this;exact this
 have Z:dX W.fs.length (que V q++[⟨k,bO (rlm W k) n.toNat⟩])=0:=by
  have:=r2.qs q (by rw[S.fs];exact D)
  have e:que { V with qs:=V.qs.set q (que V q++[⟨k,bO (rlm W k) n.toNat⟩]) } q=que V q++[⟨k,bO (rlm W k) n.toNat⟩]:=by
   show (V.qs.set q _).getD q []=_;rw[dE _ _ _ _ _ (by rw[S.hv.lq,S.fs];exact D),ye rfl]
  rw[e] at this;show dX W.fs.length _=0;rw[<- S.fs];exact this
 have J:=S.queue D U Z (by rw[List.length_append,List.length_append,S.ql q D]) (fun h=>by rw[S.qe q D h]);rw[S.fs] at J;exact J
theorem Ph(S:Sim M T O W V){k:Nat}(hM:¬ M k)(a n:Int):Alike M T O (yR W k a n) (yR V k a n):=by
 unfold yR
 have Z:kI V.pt (many V) n k (aL V k) a (aL V a)=kI W.pt (many W) n k (aL W k) a (aL W a):=by
  unfold kI;rw[S.mnyS,S.trnS,S.trnS,S.heldP]
 rw[Z,S.trnS,S.fs];refine nH S rfl (fun h=>⟨rfl,?_⟩);have D:=(bM (bM h).2).1;have r1:=ES S.hw D;have r2:=ES (W:=V) (k:=k) (a:=a) (n:=n) S.hv (by rw[Z];exact D);rw[S.trnS] at r2
 have hh:aX W.pt (many W) n k (aL W k)=0:=by
  unfold kI at D;by_cases h1:aX W.pt (many W) n k (aL W k)=0
  ·exact h1
  ·rw[ye h1] at D;exact absurd D h1
 obtain⟨R,q,rfl,E,ho,_,_⟩:=lF hh;obtain⟨f1,f2,f3,f4,f5⟩:=S.pf q E;have hc:(pt V.pt q).cm=(pt W.pt q).cm:=S.pc q E (by rw[ho,yk];exact hM);have F:=r1.pt;have I:=r2.pt;unfold kJ at F I |-;rw[yk] at F I |-;have J:gJ (V.pt.set q { pt V.pt q with o:=a,t:=aL W a }) W.fs.length:=by rw[<- S.fs];exact I
 have U:=S.port E F J ⟨rfl,rfl,f3,f4,f5⟩ (fun _=>hc);rw[S.fs] at U;exact U
theorem Pi(S:Sim M T O W V){k:Nat}(hk:k<W.fs.length)(hM:¬ M k)(a n:Int):Alike M T O (yS W k a n) (yS V k a n):=by
 unfold yS;rw[S.mayS,S.self hk hM,S.mnyS,S.trnS]
 have mt:∀ q:Nat,q<W.pt.length->∃ m:Nat,m<W.pt.length/\(pt W.pt q).m=m/\kK W.pt q=pt W.pt m/\kK V.pt q=pt V.pt m:=fun q E=>by
  obtain⟨m,D,Z,_⟩:=S.hw.pt.mate E;refine⟨m,Z,D,?_,?_⟩
  ·unfold kK;rw[yk,D,yk]
  ·unfold kK;rw[yk,(S.pf q E).2.2.1,D,yk]
 have hP:∀ g,iU V.pt (many W) n k (aL W k) g=iU W.pt (many W) n k (aL W k) g:=fun g=>by
  unfold iU;rw[S.heldP];by_cases hh:aX W.pt (many W) n k (aL W k)=0
  ·obtain⟨R,q,rfl,E,_⟩:=lF hh;obtain⟨m,D,_,I,J⟩:=mt q E;rw[I,J,(S.pf m D).2.2.2.1,(S.pf m D).2.2.2.2]
  ·rw[ye hh,ye hh]
 rw[hP];refine nH S rfl (fun h=>⟨rfl,?_⟩);have F:=(bM (bM (bM h).2).2).1;have r1:=ET S.hw F;have r2:=ET (W:=V) (k:=k) (n:=n) (g:=bO (rlm W k) a.toNat) S.hv (by rw[S.mnyS,S.trnS,hP];exact F)
 have hh:aX W.pt (many W) n k (aL W k)=0:=by
  unfold iU at F;by_cases h1:aX W.pt (many W) n k (aL W k)=0
  ·exact h1
  ·rw[ye h1] at F;exact absurd F h1
 obtain⟨R,q,rfl,E,_⟩:=lF hh;obtain⟨m,D,U,I,J⟩:=mt q E;obtain⟨f1,f2,f3,f4,f5⟩:=S.pf m D;have p1:=r1.pt;have p2:=r2.pt;unfold lD at p1 p2 |-;rw[yk,(S.pf q E).2.2.1,U,yk,J] at p2;rw[yk,U,yk,I] at p1;rw[yk,(S.pf q E).2.2.1,U,yk,I,J];have a5:gJ (V.pt.set m { pt V.pt m with cm:=(pt V.pt m).cm++[bL (bO (rlm W k) a.toNat)] }) W.fs.length:=by rw[<- S.fs];exact p2
 exact S.port D p1 a5 ⟨f1,f2,f3,f4,by show ((pt V.pt m).cm ++ _).length=((pt W.pt m).cm ++ _).length;rw[List.length_append,List.length_append,f5]⟩ (fun h=>by show (pt V.pt m).cm ++ _=(pt W.pt m).cm ++ _;rw[S.pc m D h])
theorem Pj(S:Sim M T O W V){k:Nat}(D:k<W.fs.length)(Z:¬ M k)(n:Int):Alike M T O (yT W k n) (yT V k n):=by
 unfold yT;rw[S.mnyS,S.trnS,S.self D Z]
 have own:aX W.pt (many W) n k (aL W k)=0->∃ q:Nat,n=q/\q<W.pt.length/\(pt V.pt q).cm=(pt W.pt q).cm:=fun hh=>by
  obtain⟨R,q,rfl,E,ho,_,_⟩:=lF hh;exact⟨q,rfl,E,S.pc q E (by rw[ho,yk];exact Z)⟩
 have hP:gK V.pt (many W) n k (aL W k)=gK W.pt (many W) n k (aL W k):=by
  unfold gK;rw[S.heldP];by_cases hh:aX W.pt (many W) n k (aL W k)=0
  ·obtain⟨q,rfl,E,hc⟩:=own hh;rw[yk,hc]
  ·rw[ye hh,ye hh]
 rw[hP];refine nH S rfl (fun h=>⟨rfl,?_⟩);have F:=(bM h).1;have r1:=zF S.hw D F;have r2:=zF (W:=V) (k:=k) (n:=n) S.hv (by rw[S.fs];exact D) (by rw[S.mnyS,S.trnS,hP];exact F)
 have hh:aX W.pt (many W) n k (aL W k)=0:=by
  unfold gK at F;by_cases h1:aX W.pt (many W) n k (aL W k)=0
  ·exact h1
  ·rw[ye h1] at F;exact absurd F h1
 obtain⟨q,rfl,E,hc⟩:=own hh;obtain⟨f1,f2,f3,f4,f5⟩:=S.pf q E;rw[yk] at r1 r2 |-;have r3:=r1.rs k D
 have e3:rlm { setR W k { rlm W k with i:=gr (pt W.pt q).cm 0 } with pt:=jQ W.pt q } k={ rlm W k with i:=gr (pt W.pt q).cm 0 }:=by
  show rlm (setR W k _) k=_;rw[gW (by rw[S.hw.lr];exact D),ye rfl]
 rw[e3] at r3;rw[hc];have S1:=S.setR D r3;have I:=r1.pt;have J:=r2.pt;unfold jQ at I J |-;rw[yk] at I J |-;have U:gJ (V.pt.set q { pt V.pt q with cm:=(pt V.pt q).cm.drop 1 }) W.fs.length:=by rw[<- S.fs];exact J
 exact Sim.port S1 (k:=q) E I U ⟨f1,f2,f3,f4,by show ((pt V.pt q).cm.drop 1).length=((pt W.pt q).cm.drop 1).length;rw[hc]⟩ (fun _=>by show (pt V.pt q).cm.drop 1=(pt W.pt q).cm.drop 1;rw[hc])
theorem Pk(S:Sim M T O W V){k:Nat}(n:Int):Alike M T O (yU W k n) (yU V k n):=by
 unfold yU;rw[S.mnyS,S.trnS,S.heldP];refine nH S rfl (fun h=>⟨rfl,?_⟩);have D:=(bM h).1;have r1:=EU S.hw D;have r2:=EU (W:=V) (k:=k) (n:=n) S.hv (by rw[S.mnyS,S.trnS,S.heldP];exact D);obtain⟨R,q,rfl,J,_⟩:=lF D;obtain⟨f1,f2,f3,f4,f5⟩:=S.pf q J;have E:=r1.pt;have F:=r2.pt;unfold kL at E F |-;rw[yk] at E F |-;have I:gJ (V.pt.set q { pt V.pt q with s:=true,cm:=[] }) W.fs.length:=by rw[<- S.fs];exact F
 exact S.port J E I ⟨f1,f2,f3,rfl,rfl⟩ (fun _=>rfl)
theorem Pn(S:Sim M T O W V){k:Nat}(hk:k<W.fs.length)(hM:¬ M k)(ht:(fr W.fs k).t=T k)(x:Ac):Alike M T O (bD W k x) (bD V k x):=by
 unfold bD;by_cases k9:x.k=9
 ·rw[ye k9,ye k9];unfold KX;rw[S.fs];exact nH S rfl (fun _=>⟨rfl,S⟩)
 rw[yd k9,yd k9];by_cases F:x.k=13
 ·rw[ye F,ye F];unfold KY;rw[S.fs];exact nH S rfl (fun _=>⟨rfl,S.frames (UU S.hw.fs _) (mH _ _) (fun j hj=>by rw[vD hj]) (fun j hj=>by rw[vD hj])⟩)
 rw[yd F,yd F];by_cases E:x.k=12
 ·rw[ye E,ye E];exact Pf S hk hM ht _ _
 rw[yd E,yd E];by_cases D:x.k=10
 ·rw[ye D,ye D];exact Pg S hk hM _ _
 rw[yd D,yd D];by_cases a6:x.k=21
 ·rw[ye a6,ye a6];exact nH S (by rw[S.fs]) (fun h=>⟨rfl,Pe S h⟩)
 rw[yd a6,yd a6];by_cases I:x.k=16
 ·rw[ye I,ye I];unfold vI;rw[S.mnyS,S.trnS,S.opnS,S.pl];exact nH S rfl (fun h=>⟨rfl,Pd S (bM h).1⟩)
 rw[yd I,yd I];by_cases J:x.k=17
 ·rw[ye J,ye J];exact Ph S hM _ _
 rw[yd J,yd J];by_cases U:x.k=18
 ·rw[ye U,ye U];exact Pi S hk hM _ _
 rw[yd U,yd U];by_cases Z:x.k=19
 ·rw[ye Z,ye Z];exact Pj S hk hM _
 rw[yd Z,yd Z];by_cases a5:x.k=20
 ·rw[ye a5,ye a5];exact Pk S _
 rw[yd a5,yd a5];unfold wDo;rw[S.self hk hM];exact nH S rfl (fun h=>⟨rfl,S.setR hk (xS (bM h).1).2.2⟩)
theorem vS{w:Wd}{B g n cap:Nat}{L:List Pt}{K:Nat->Value}(h:w.ownsRow B 121 5 (.slice (some ⟨g,0,none⟩) n cap) n (gN L K)){k f:Nat}{u v:Value}{x:Pt}(E:k<L.length)(D:f<5)(F:eO x v=(eO (pt L k) (K k)).set f u) :
  (w.setCell ⟨g,k*5+f,none⟩ u).ownsRow B 121 5 (.slice (some ⟨g,0,none⟩) n cap) n (gN (L.set k x) (fun i=>if i=k then v else K i)):=by
 have:=(h.stored (k*5+f) u).1
 rwa [Mr E D F] at this
theorem Qu{w:Wd}{B g n cap:Nat}{L:List Pt}{K:Nat->Value}(h:w.ownsRow B 121 5 (.slice (some ⟨g,0,none⟩) n cap) n (gN L K))(hn:L.length=n){k f:Nat}(E:k<n)(D:f<5):w.cell? ⟨g,k*5+f,none⟩=(eO (pt L k) (K k))[f]?:=by
 rw[h.cellAt (k*5+f) oaa,vM oaa D]
theorem NA{L:List Pt}{k:Nat}{x:Pt}(D:k<L.length):pt (L.set k x) k=x:=by rw[nT D,ye rfl]
def iI(Fr D th:Int):Int:=if ¬ (0<=D/\D<Fr) then 4 else if ¬ (0<=th/\th<=1000) then 2 else 0
theorem Qv(L:List Pt)(Fr k o t D th:Int):kI L Fr k o t D th=zA (aX L Fr k o t) (iI Fr D th):=rfl
