/-
  x
-/
import Derived.Test.YtgjfmepbphfjoaaGreatQ48
import Derived.Test.YtgjfmepbphfjoaaGreatQ49
namespace Go.Proofs.YtgjfmepbphfjoaaGreat
set_option maxRecDepth 100000
set_option maxHeartbeats 4000000
set_option linter.unusedVariables false
open Go.RowKit Go.ChangeShapes Go.WideShapes
def zhd(R:Rl)(x:Ac)(q:Rs):Prop:=∀ W:World,Calls Tryz.prog 23 #[.int .i64 x.k] W fun e w' => ∃ (K:Nat) (A:Array Value),e=.returned (.func (.func K) #[] A)/\Below W.heap.size W w' /\(∀ args w,(callFunc K args).run Tryz.prog w=.ok (.enter K args) w)/\∀ D,Below w'.heap.size w' D->zit K A D R x q
theorem zby{W:World}{b t:Nat}{w v1 v2 A D:Value}(h:W.heap[b]?=some (.cells #[w,v1,v2,A,D] t (0,0))):W.cell? ⟨b,0,none⟩=some w/\W.cell? ⟨b,1,none⟩=some v1/\W.cell? ⟨b,2,none⟩=some v2/\W.cell? ⟨b,3,none⟩=some A/\W.cell? ⟨b,4,none⟩=some D/\b<W.heap.size :=
 ⟨by simp[World.cell?,h],by simp[World.cell?,h],by simp[World.cell?,h],by simp[World.cell?,h],by simp[World.cell?,h],zaC h⟩
structure DoI (w:World) (A:RA) (R:Rl) (x:Ac) (V:World):Prop where
 bel:Below w.heap.size w V
 r:V.heap[w.heap.size]?=some (bxR A R)
 x:V.heap[w.heap.size+1]?=some (.cells #[.int .i64 x.k,.int .i64 x.a,.int .i64 x.b,.int .i64 x.c,.int .i64 x.n] 41 (0,0))
 z:V.heap[w.heap.size+1+1]?=some (.cells #[.slice none 0 0,.slice none 0 0,.slice none 0 0,.slice none 0 0] 31 (0,0))
 rl:zaS V A R
theorem DoI.below{w V F:World}{A:RA}{R:Rl}{x:Ac}(I:DoI w A R x V)(D:Below V.heap.size V F):DoI w A R x F:=⟨I.bel.trans (D.mono I.bel.size),zaU I.r D,zaU I.x D,zaU I.z D,I.rl.below D⟩
theorem zfe(w:World)(A:RA)(R:Rl)(x:Ac)(h:zaS w A R):DoI w A R x (((w.alloc (.cells #[.slice A.a0 R.s.length A.c0,.slice A.a1 R.hs.length A.c1,.slice A.a2 R.i.length A.c2,.slice A.a3 R.t.length A.c3] 31)).alloc (.cells #[.int .i64 x.k,.int .i64 x.a,.int .i64 x.b,.int .i64 x.c,.int .i64 x.n] 41)).alloc (.cells #[.slice none 0 0,.slice none 0 0,.slice none 0 0,.slice none 0 0] 31)):=by
 have b1:=zab w (.cells #[.slice A.a0 R.s.length A.c0,.slice A.a1 R.hs.length A.c1,.slice A.a2 R.i.length A.c2,.slice A.a3 R.t.length A.c3] 31);obtain⟨D,h1⟩:∃ D,w.alloc (.cells #[.slice A.a0 R.s.length A.c0,.slice A.a1 R.hs.length A.c1,.slice A.a2 R.i.length A.c2,.slice A.a3 R.t.length A.c3] 31)=D:=⟨_,rfl⟩;have J:=zbS w 31 (.slice A.a0 R.s.length A.c0) (.slice A.a1 R.hs.length A.c1) (.slice A.a2 R.i.length A.c2) (.slice A.a3 R.t.length A.c3);have s1:D.heap.size=w.heap.size+1:=by rw[<- h1];simp
 rw[h1] at b1 J |-;have b2:=zab D (.cells #[.int .i64 x.k,.int .i64 x.a,.int .i64 x.b,.int .i64 x.c,.int .i64 x.n] 41);have F:=heap_alloc_new D (.cells #[.int .i64 x.k,.int .i64 x.a,.int .i64 x.b,.int .i64 x.c,.int .i64 x.n] 41);obtain⟨w2,I⟩:∃ w2,D.alloc (.cells #[.int .i64 x.k,.int .i64 x.a,.int .i64 x.b,.int .i64 x.c,.int .i64 x.n] 41)=w2:=⟨_,rfl⟩;have s2:w2.heap.size=D.heap.size+1:=by rw[<- I];simp
 rw[I] at b2 F |-;have b3:=zab w2 (.cells #[.slice none 0 0,.slice none 0 0,.slice none 0 0,.slice none 0 0] 31);have M:=zbS w2 31 (.slice none 0 0) (.slice none 0 0) (.slice none 0 0) (.slice none 0 0);rw[s2,s1] at M;rw[s1] at F;exact⟨b1.trans ((b2.trans (b3.mono b2.size)).mono b1.size),zaU (zaU J b2) b3,zaU F b3,M,((h.below b1).below b2).below b3⟩
structure RlO (B:Nat) (V:World) (A:RA) (R:Rl):Prop where
 a3:A.a3=some ⟨tOf A,0,none⟩
 c3:A.c3=R.t.length
 t0:B<=tOf A
 tr:V.rowIs (tOf A) 3 R.t.length (znb R)
 st:St (fun b=>b<B\/b=tOf A) (fun V=>zae V A.a0 R.s/\zam V A.a1 R.hs/\zaY V A.a2 R.i) V
theorem RlO.at{B:Nat}{V:World}{A:RA}{R:Rl}(h:RlO B V A R):zaS V A R:=⟨h.st.at.1,h.st.at.2.1,h.st.at.2.2,by rw[h.a3];exact zhX h.tr⟩
theorem RlF.rlo{n B d:Nat}{V:World}{A:RA}{R:Rl}(h:RlF n d V A R)(hn:B<=n):RlO B V A R:=⟨h.a3,h.c3,yx hn h.t0,h.tr,h.st.less (fun b w=>by omega)⟩
theorem zru(A:RA)(R:Rl)(x:Ac)(q:Rs)(w:World)(hR:zaB R=0)(hW:zaS w A R)(ha:isH x.a)(hD:zhd R x q) :
  Calls Tryz.prog 9 #[rlV A R,acV x] w fun e w' => ∃ B:RA,e=.returned (.tuple #[rlV B (if q.e=0 then q.r else zaW),.int .i64 (if q.e=0 then q.o else 0),.int .i64 q.e])/\Below w.heap.size w w' /\ zaS w' B (if q.e=0 then q.r else zaW)/\(q.e=0->RlO w.heap.size w' B (if q.e=0 then q.r else zaW)):=by
 have hl:=(zax hR).2.1;have D0:Hid (∀ W,zaS W A R->Calls _ _ _ _ _):=fun W hW=>zdw A R W (zea hR) hW;rw[hR] at D0;have D1:Hid (∀ W,Calls _ _ _ _ _):=fun W=>zcz A R x.a W hl;rw[show decide (isH x.a)=true from decide_eq_true ha] at D1;have D2:Hid (zhd R x q):=hD;have D3:Hid (∀ W,zaS W A R->Calls _ _ _ _ _):=fun W hW=>zlO A R W hR hW;have I0:Hid _:=zfe w A R x hW;have a9:Hid (∀ (W V:World) (h g:Nat) (B:RA),CI W R h g B V->_):=fun W V h g B I=>CI.wi I;have b6:Hid (∀ (V V' : World) (B:RA) (n d:Nat),RlF n d V B q.r->w.heap.size<=n->zbA (fun b=>b<n\/b=d) V V' -> RlO w.heap.size V' B q.r):=fun V V' B n d h1 h2 h3=>(h1.off h3).rlo h2;clear hW ha hD hR hl;obtain⟨xk,xa,xb,xc,xn⟩:=x;obtain⟨a0,a1,a2,a3,c0,c1,c2,c3⟩:=A;obtain⟨qe,D,qo⟩:=q;dsimp only[rlV,acV,zhd] at *;obtain⟨RR,a5⟩:∃ RR:Rl,(if qe=0 then D else zaW)=RR:=⟨_,rfl⟩;have M:Hid (_=RR):=a5;obtain⟨OO,a4⟩:∃ OO:Int,(if qe=0 then qo else 0)=OO:=⟨_,rfl⟩;have J:Hid (_=OO):=a4;rw[a5,a4];clear a5 a4
 go_enter Tryz.func9,Tryz.ntmps9
 go_wp2_with fail
 refine yf (D0.out _ I0.out.rl) ?_;rintro e V1 ⟨rfl,F⟩;have I1:Hid _:=I0.out.below F;clear F D0 I0;obtain⟨Z,r1,r2,r3,rf,rl⟩:=zaa I1.out.r;obtain⟨z0,z1,z2,z3,zf,zl⟩:=zaa I1.out.z;obtain⟨y0,y1,y2,y3,y4,yl⟩:=zby I1.out.x
 go_wp2_with fail
 refine yf (D1.out _) ?_;rintro e V2 ⟨rfl,F⟩;have I2:Hid _:=I1.out.below F;clear Z r1 r2 r3 rf rl z0 z1 z2 z3 zf zl y0 y1 y2 y3 y4 yl;clear F D1 I1;obtain⟨Z,r1,r2,r3,rf,rl⟩:=zaa I2.out.r;obtain⟨z0,z1,z2,z3,zf,zl⟩:=zaa I2.out.z;obtain⟨y0,y1,y2,y3,y4,yl⟩:=zby I2.out.x
 go_wp2_with fail
 refine yf (D2.out _) ?_;rintro e V3 ⟨K,T,rfl,F,eg,b4⟩;have O:Hid _:=I2.out.below F;have ZL:Hid (w.heap.size+1+1<V3.heap.size):=zaC O.out.z;have b7:∀ w:World,(binOp BinOp.eql 64 (Value.func (Fn.func K) #[] T) Value.nilFunc).run Tryz.prog w=.ok (.bool false) w:=fun _=>by kernel_rfl
 have HD:Hid (zit K T V3 R ⟨xk,xa,xb,xc,xn⟩ ⟨qe,D,qo⟩):=b4 V3 (yj _ _);clear Z r1 r2 r3 rf rl z0 z1 z2 z3 zf zl y0 y1 y2 y3 y4 yl;clear F D2 I2 b4;obtain⟨Z,r1,r2,r3,rf,rl⟩:=zaa O.out.r;obtain⟨z0,z1,z2,z3,zf,zl⟩:=zaa O.out.z;obtain⟨y0,y1,y2,y3,y4,yl⟩:=zby O.out.x
 go_wp2_with fail
 refine yf (D3.out _ O.out.rl) ?_;rintro e V4 ⟨⟨b0,b1,b2,b3,d0,d1,d2,d3⟩,h,g,rfl,a7⟩;have I4:Hid _:=O.out.below a7.bel;have W4:Hid _:=a9.out _ _ _ _ _ a7;clear Z r1 r2 r3 rf rl z0 z1 z2 z3 zf zl y0 y1 y2 y3 y4 yl;clear D3 a7 a9;obtain⟨Z,r1,r2,r3,rf,rl⟩:=zaa I4.out.r;obtain⟨z0,z1,z2,z3,zf,zl⟩:=zaa I4.out.z;obtain⟨y0,y1,y2,y3,y4,yl⟩:=zby I4.out.x
 go_wp2_with fail
 refine yf (HD.out _ _ _ _ _ W4.out) ?_;rintro e V5 ⟨o,rfl,F,hq⟩;have I5:Hid _:=O.out.below F;clear Z r1 r2 r3 rf rl z0 z1 z2 z3 zf zl y0 y1 y2 y3 y4 yl;clear W4 I4 HD F O;obtain⟨Z,r1,r2,r3,rf,rl⟩:=zaa I5.out.r;obtain⟨z0,z1,z2,z3,zf,zl⟩:=zaa I5.out.z;obtain⟨y0,y1,y2,y3,y4,yl⟩:=zby I5.out.x;by_cases hE:qe=0
 ·subst hE;obtain rfl:D=RR:=(yd rfl).symm.trans M.out;obtain rfl:qo=OO:=(yd rfl).symm.trans J.out;obtain⟨rfl,⟨e0,e1,e2,e3,f0,f1,f2,f3⟩,a6,a8⟩:=hq rfl;dsimp only at a6 a8;have b5:Hid _:=a8;obtain⟨s0,s1,s2,s3,sf,sl⟩:=zaa a6;clear a6 hq a8 M J;dsimp only at s0 s1 s2 s3
  go_wp2
  obtain⟨X,U⟩:∃ X,(((V5.setCell ⟨w.heap.size+1+1,0,none⟩ (.slice e0 D.s.length f0)).setCell ⟨w.heap.size+1+1,1,none⟩ (.slice e1 D.hs.length f1)).setCell ⟨w.heap.size+1+1,2,none⟩ (.slice e2 D.i.length f2)).setCell ⟨w.heap.size+1+1,3,none⟩ (.slice e3 D.t.length f3)=X:=⟨_,rfl⟩;have x0:X.heap[w.heap.size+1+1]?=some (.cells #[.slice e0 D.s.length f0,.slice e1 D.hs.length f1,.slice e2 D.i.length f2,.slice e3 D.t.length f3] 31 (0,0)):=by rw[<- U];exact zbl I5.out.z
  have xb:Below w.heap.size w X:=by rw[<- U];exact(((I5.out.bel.setCell (by simp;omega) _).setCell (by simp;omega) _).setCell (by simp;omega) _).setCell (by simp;omega) _
  have xr:RlO w.heap.size X ⟨e0,e1,e2,e3,f0,f1,f2,f3⟩ D:=by rw[<- U];exact b6.out V5 _ _ _ _ b5.out (by have:=ZL.out;omega) ((((zbA.set _ _ (Or.inl ZL.out)).trans (zbA.set _ _ (Or.inl ZL.out))).trans (zbA.set _ _ (Or.inl ZL.out))).trans (zbA.set _ _ (Or.inl ZL.out)))
  rw[U];obtain⟨m0,m1,m2,m3,mf,ml⟩:=zaa x0;exact yq (v:=.tuple #[.agg #[.slice e0 D.s.length f0,.slice e1 D.hs.length f1,.slice e2 D.i.length f2,.slice e3 D.t.length f3],.int .i64 o,.int .i64 0]) (by simp[results,Tryz.results9,go_sem,m0,m1,m2,m3]) rfl ⟨⟨e0,e1,e2,e3,f0,f1,f2,f3⟩,rfl,xb,xr.at,xr⟩
 ·obtain rfl:zaW=RR:=(ya hE).symm.trans M.out;obtain rfl:(0:Int)=OO:=(ya hE).symm.trans J.out;have hz:(qe == 0)=false:=by simp[hE]
  clear hq M J;dsimp only
  go_wp2
  obtain⟨X,U⟩:∃ X,(((V5.setCell ⟨w.heap.size+1+1,0,none⟩ (.slice none 0 0)).setCell ⟨w.heap.size+1+1,1,none⟩ (.slice none 0 0)).setCell ⟨w.heap.size+1+1,2,none⟩ (.slice none 0 0)).setCell ⟨w.heap.size+1+1,3,none⟩ (.slice none 0 0)=X:=⟨_,rfl⟩;have x0:X.heap[w.heap.size+1+1]?=some (.cells #[.slice none 0 0,.slice none 0 0,.slice none 0 0,.slice none 0 0] 31 (0,0)):=by rw[<- U];exact zbl I5.out.z
  have xb:Below w.heap.size w X:=by rw[<- U];exact(((I5.out.bel.setCell (by simp;omega) _).setCell (by simp;omega) _).setCell (by simp;omega) _).setCell (by simp;omega) _
  rw[U];obtain⟨m0,m1,m2,m3,mf,ml⟩:=zaa x0;exact yq (v:=.tuple #[.agg #[.slice none 0 0,.slice none 0 0,.slice none 0 0,.slice none 0 0],.int .i64 0,.int .i64 qe]) (by simp[results,Tryz.results9,go_sem,m0,m1,m2,m3]) rfl ⟨⟨none,none,none,none,0,0,0,0⟩,rfl,xb,zaO _ _⟩
theorem zhQ(S:List Nd)(h:Int × Int)(x:Ac)(wf:WF S)(a:Option Addr)(c:Nat)(W:World)(J:zae W a S):Calls Tryz.prog 65 #[.agg #[.slice a S.length c],hdV h,acV x] W fun e w' => ∃ w A n,e=.returned (.tuple #[.slice w n A,.int .i64 (zas S h.1 h.2)])/\Below W.heap.size W w' /\(zas S h.1 h.2=0->n=(zeg S h.1.toNat).length):=by
 have D:Hid (∀ o1 O o3:Obj,_):=fun o1 O o3=>zpK S h wf a c (((W.alloc o1).alloc O).alloc o3) (J.below (zal _ _ _ _));clear J;obtain⟨P,U⟩:=h;dsimp only[hdV,acV] at D |-;obtain⟨E,F⟩:∃ E,zas S P U=E:=⟨_,rfl⟩;rw[F] at D |-;obtain⟨N,I⟩:∃ N,(zeg S P.toNat).length=N:=⟨_,rfl⟩;rw[I] at D |-;generalize S.length=ns at *;clear F I
 go_enter Tryz.func65,Tryz.ntmps65
 go_wp2_with fail
 refine yf (D.out _ _ _) ?_;rintro e V ⟨w,A,n,rfl,M,hn⟩;have T:Hid (Below W.heap.size W V):=(zal W _ _ _).trans (M.mono (by simp;omega));have Z:Hid (E=0->n=N):=fun h=>by rw[hn,yd h]
 clear M hn D
 go_wp2
 exact yq (v:=.tuple #[.slice w n A,.int .i64 E]) (by simp[results,Tryz.results65,go_sem]) rfl ⟨w,A,n,rfl,T.out,Z.out⟩
theorem zgV(S:List Nd)(h:Int × Int)(x:Ac)(wf:WF S)(a:Option Addr)(c:Nat)(W:World)(M:zae W a S):Calls Tryz.prog 64 #[.agg #[.slice a S.length c],hdV h,acV x] W fun e w' => ∃ w A n,e=.returned (.tuple #[.slice w n A,.int .i64 (znz S h.1 h.2 [⟨x.b,x.n,false⟩])])/\Below W.heap.size W w' /\(znz S h.1 h.2 [⟨x.b,x.n,false⟩]=0->n=(zcQ S h.1.toNat [⟨x.b,x.n,false⟩]).length):=by
 have D:Hid (∀ o1 F o3:Obj,_):=fun o1 F o3=>znB S h x.b x.n (some ⟨W.heap.size+1+1+1,0,none⟩) 1 wf a c ((((W.alloc o1).alloc F).alloc o3).alloc (.cells #[.int .i64 x.b,.int .i64 x.n,.bool false] 86)) ((M.below (zal _ _ _ _)).below (zab _ _)) (fun i hi=>by
  obtain rfl:i=0:=by simpa using hi
  have e:(((W.alloc o1).alloc F).alloc o3).heap.size=W.heap.size+1+1+1:=by simp
  refine⟨W.heap.size+1+1+1,0,rfl,?_,?_,?_⟩
  all_goals rw[<- e]
  ·exact zad _ _ _ 0 rfl
  ·exact zad _ _ _ 1 rfl
  ·exact zad _ _ _ 2 rfl)
 clear M;obtain⟨P,U⟩:=h;obtain⟨xk,xa,T,xc,Z⟩:=x;dsimp only[hdV,acV] at D |-;obtain⟨E,I⟩:∃ E,znz S P U [⟨T,Z,false⟩]=E:=⟨_,rfl⟩;rw[I] at D |-;obtain⟨N,J⟩:∃ N,(zcQ S P.toNat [⟨T,Z,false⟩]).length=N:=⟨_,rfl⟩;rw[J] at D |-;generalize S.length=ns at *;clear I J
 go_enter Tryz.func64,Tryz.ntmps64
 go_wp2_with fail
 refine yf (D.out _ _ _) ?_;rintro e V ⟨w,A,n,rfl,O,hn⟩;have HB:Hid (Below W.heap.size W V):=(zal W _ _ _).trans (((zab _ _).trans (O.mono (by simp))).mono (by simp;omega));have HN:Hid (E=0->n=N):=fun h=>by rw[hn,yd h]
 clear O hn D
 go_wp2
 exact yq (v:=.tuple #[.slice w n A,.int .i64 E]) (by simp[results,Tryz.results64,go_sem]) rfl ⟨w,A,n,rfl,HB.out,HN.out⟩
theorem zpC(W:World):Calls Tryz.prog 23 #[.int .i64 2] W fun e w' => ∃ w,e=.returned (.func (.func 102) #[] #[.pointer (some ⟨w,0,none⟩)])/\Below W.heap.size W w' /\ w'.cell? ⟨w,0,none⟩=some (.func (.func 57) #[] #[]):=by
 have D:Hid (∀ W,Calls _ _ _ _ _):=fun W=>zfN 57 W
 go_enter Tryz.func23,Tryz.ntmps23
 go_wp2_with fail
 refine yf (D.out _) ?_;rintro e V ⟨rfl,A,F⟩;have I:Hid _:=A;have J:Hid _:=F;clear A F D
 go_wp2
 go_ret;exact⟨_,rfl,I.out,J.out⟩
theorem zpD(W:World):Calls Tryz.prog 23 #[.int .i64 4] W fun e w' => ∃ w,e=.returned (.func (.func 102) #[] #[.pointer (some ⟨w,0,none⟩)])/\Below W.heap.size W w' /\ w'.cell? ⟨w,0,none⟩=some (.func (.func 58) #[] #[]):=by
 have D:Hid (∀ W,Calls _ _ _ _ _):=fun W=>zfN 58 W
 go_enter Tryz.func23,Tryz.ntmps23
 go_wp2_with fail
 refine yf (D.out _) ?_;rintro e V ⟨rfl,A,F⟩;have I:Hid _:=A;have J:Hid _:=F;clear A F D
 go_wp2
 go_ret;exact⟨_,rfl,I.out,J.out⟩
theorem zpE(W:World):Calls Tryz.prog 23 #[.int .i64 5] W fun e w' => ∃ w,e=.returned (.func (.func 107) #[] #[.pointer (some ⟨w,0,none⟩)])/\Below W.heap.size W w' /\ w'.cell? ⟨w,0,none⟩=some (.func (.func 61) #[] #[]):=by
 have D:Hid (∀ W,Calls _ _ _ _ _):=fun W=>zho 61 W
 go_enter Tryz.func23,Tryz.ntmps23
 go_wp2_with fail
 refine yf (D.out _) ?_;rintro e V ⟨rfl,A,F⟩;have I:Hid _:=A;have J:Hid _:=F;clear A F D
 go_wp2
 go_ret;exact⟨_,rfl,I.out,J.out⟩
theorem ziF(W:World):Calls Tryz.prog 23 #[.int .i64 11] W fun e w' => ∃ w,e=.returned (.func (.func 107) #[] #[.pointer (some ⟨w,0,none⟩)])/\Below W.heap.size W w' /\ w'.cell? ⟨w,0,none⟩=some (.func (.func 62) #[] #[]):=by
 have D:Hid (∀ W,Calls _ _ _ _ _):=fun W=>zho 62 W
 go_enter Tryz.func23,Tryz.ntmps23
 go_wp2_with fail
 refine yf (D.out _) ?_;rintro e V ⟨rfl,A,F⟩;have I:Hid _:=A;have J:Hid _:=F;clear A F D
 go_wp2
 go_ret;exact⟨_,rfl,I.out,J.out⟩
theorem znC(W:World):Calls Tryz.prog 23 #[.int .i64 14] W fun e w' => ∃ w,e=.returned (.func (.func 108) #[] #[.pointer (some ⟨w,0,none⟩)])/\Below W.heap.size W w' /\ w'.cell? ⟨w,0,none⟩=some (.func (.func 64) #[] #[]):=by
 have D:Hid (∀ W,Calls _ _ _ _ _):=fun W=>zdx 64 W
 go_enter Tryz.func23,Tryz.ntmps23
 go_wp2_with fail
 refine yf (D.out _) ?_;rintro e V ⟨rfl,A,F⟩;have I:Hid _:=A;have J:Hid _:=F;clear A F D
 go_wp2
 go_ret;exact⟨_,rfl,I.out,J.out⟩
theorem znD(W:World):Calls Tryz.prog 23 #[.int .i64 15] W fun e w' => ∃ w,e=.returned (.func (.func 108) #[] #[.pointer (some ⟨w,0,none⟩)])/\Below W.heap.size W w' /\ w'.cell? ⟨w,0,none⟩=some (.func (.func 65) #[] #[]):=by
 have D:Hid (∀ W,Calls _ _ _ _ _):=fun W=>zdx 65 W
 go_enter Tryz.func23,Tryz.ntmps23
 go_wp2_with fail
 refine yf (D.out _) ?_;rintro e V ⟨rfl,A,F⟩;have I:Hid _:=A;have J:Hid _:=F;clear A F D
 go_wp2
 go_ret;exact⟨_,rfl,I.out,J.out⟩
theorem zkR(W:World):Calls Tryz.prog 23 #[.int .i64 3] W fun e w' => ∃ w,e=.returned (.func (.func 111) #[] #[.pointer (some ⟨w,0,none⟩)])/\Below W.heap.size W w' /\ w'.cell? ⟨w,0,none⟩=some (.func (.func 67) #[] #[]):=by
 have D:Hid (∀ W,Calls _ _ _ _ _):=fun W=>zcW 67 W
 go_enter Tryz.func23,Tryz.ntmps23
 go_wp2_with fail
 refine yf (D.out _) ?_;rintro e V ⟨rfl,A,F⟩;have I:Hid _:=A;have J:Hid _:=F;clear A F D
 go_wp2
 go_ret;exact⟨_,rfl,I.out,J.out⟩
theorem zkS(W:World):Calls Tryz.prog 23 #[.int .i64 7] W fun e w' => ∃ w,e=.returned (.func (.func 111) #[] #[.pointer (some ⟨w,0,none⟩)])/\Below W.heap.size W w' /\ w'.cell? ⟨w,0,none⟩=some (.func (.func 68) #[] #[]):=by
 have D:Hid (∀ W,Calls _ _ _ _ _):=fun W=>zcW 68 W
 go_enter Tryz.func23,Tryz.ntmps23
 go_wp2_with fail
 refine yf (D.out _) ?_;rintro e V ⟨rfl,A,F⟩;have I:Hid _:=A;have J:Hid _:=F;clear A F D
 go_wp2
 go_ret;exact⟨_,rfl,I.out,J.out⟩
theorem zkT(W:World):Calls Tryz.prog 23 #[.int .i64 8] W fun e w' => ∃ w,e=.returned (.func (.func 111) #[] #[.pointer (some ⟨w,0,none⟩)])/\Below W.heap.size W w' /\ w'.cell? ⟨w,0,none⟩=some (.func (.func 69) #[] #[]):=by
 have D:Hid (∀ W,Calls _ _ _ _ _):=fun W=>zcW 69 W
 go_enter Tryz.func23,Tryz.ntmps23
 go_wp2_with fail
 refine yf (D.out _) ?_;rintro e V ⟨rfl,A,F⟩;have I:Hid _:=A;have J:Hid _:=F;clear A F D
 go_wp2
 go_ret;exact⟨_,rfl,I.out,J.out⟩
theorem zpB(W:World):Calls Tryz.prog 23 #[.int .i64 1] W fun e w' => e=.returned (.func (.func 55) #[] #[])/\w' = W:=by
 go_enter Tryz.func23,Tryz.ntmps23
 go_wp2
 go_ret;exact⟨rfl,rfl⟩
theorem zpF(W:World):Calls Tryz.prog 23 #[.int .i64 6] W fun e w' => e=.returned (.func (.func 59) #[] #[])/\w' = W:=by
 go_enter Tryz.func23,Tryz.ntmps23
 go_wp2
 go_ret;exact⟨rfl,rfl⟩
theorem znE(k:Int)(W:World)(h:k≠1/\k≠2/\k≠4/\k≠6/\k≠5/\k≠11/\k≠14/\k≠15/\k≠3/\k≠7/\k≠8):Calls Tryz.prog 23 #[.int .i64 k] W fun e w' => e=.returned .nilFunc/\w' = W:=by
 obtain⟨h1,F,J,O,M,w,A,D,I,T,U⟩:=h;have b1:(k == 1)=false:=by simp[h1]
 have b2:(k == 2)=false:=by simp[F]
 have b4:(k == 4)=false:=by simp[J]
 have b6:(k == 6)=false:=by simp[O]
 have b5:(k == 5)=false:=by simp[M]
 have V:(k == 11)=false:=by simp[w]
 have Z:(k == 14)=false:=by simp[A]
 have a4:(k == 15)=false:=by simp[D]
 have b3:(k == 3)=false:=by simp[I]
 have b7:(k == 7)=false:=by simp[T]
 have b8:(k == 8)=false:=by simp[U]
 clear h1 F J O M w A D I T U
 go_enter Tryz.func23,Tryz.ntmps23
 go_wp2
 go_ret;exact⟨rfl,rfl⟩
theorem zrs(A:RA)(R:Rl)(x:Ac)(E:Int)(w:World)(T:ziu R)(I:zaS w A R)(U:zaB R=E)(F:E≠0) :
  Calls Tryz.prog 9 #[rlV A R,acV x] w fun e w' => ∃ B:RA,e=.returned (.tuple #[rlV B zaW,.int .i64 0,.int .i64 E])/\Below w.heap.size w w' /\ zaS w' B zaW:=by
 have J:Hid (∀ W,zaS W A R->Calls _ _ _ _ _):=fun W I=>zdw A R W T I;rw[U] at J;have hz:(E == 0)=false:=by simp[F]
 have M:Hid _:=zfe w A R x I;clear I U T F;obtain⟨xk,xa,Z,xc,xn⟩:=x;obtain⟨a0,a1,a2,a3,c0,c1,c2,c3⟩:=A;dsimp only[rlV,acV] at *
 go_enter Tryz.func9,Tryz.ntmps9
 go_wp2_with fail
 refine yf (J.out _ M.out.rl) ?_;rintro e V1 ⟨rfl,V⟩;have D:Hid _:=M.out.below V;clear V J M;obtain⟨r0,r1,r2,r3,rf,rl⟩:=zaa D.out.r;obtain⟨z0,z1,z2,z3,zf,zl⟩:=zaa D.out.z;obtain⟨y0,y1,y2,y3,y4,yl⟩:=zby D.out.x
 go_wp2
 obtain⟨X,O⟩:∃ X,(((V1.setCell ⟨w.heap.size+1+1,0,none⟩ (.slice none 0 0)).setCell ⟨w.heap.size+1+1,1,none⟩ (.slice none 0 0)).setCell ⟨w.heap.size+1+1,2,none⟩ (.slice none 0 0)).setCell ⟨w.heap.size+1+1,3,none⟩ (.slice none 0 0)=X:=⟨_,rfl⟩;have x0:X.heap[w.heap.size+1+1]?=some (.cells #[.slice none 0 0,.slice none 0 0,.slice none 0 0,.slice none 0 0] 31 (0,0)):=by rw[<- O];exact zbl D.out.z
 have Z:Below w.heap.size w X:=by rw[<- O];exact(((D.out.bel.setCell (by simp;omega) _).setCell (by simp;omega) _).setCell (by simp;omega) _).setCell (by simp;omega) _
 rw[O];obtain⟨m0,m1,m2,m3,mf,ml⟩:=zaa x0;exact yq (v:=.tuple #[.agg #[.slice none 0 0,.slice none 0 0,.slice none 0 0,.slice none 0 0],.int .i64 0,.int .i64 E]) (by simp[results,Tryz.results9,go_sem,m0,m1,m2,m3]) rfl ⟨⟨none,none,none,none,0,0,0,0⟩,rfl,Z,zaO _ _⟩
theorem zrt(A:RA)(R:Rl)(x:Ac)(w:World)(J:zaB R=0)(M:zaS w A R)(Z:¬ isH x.a) :
  Calls Tryz.prog 9 #[rlV A R,acV x] w fun e w' => ∃ B:RA,e=.returned (.tuple #[rlV B zaW,.int .i64 0,.int .i64 4])/\Below w.heap.size w w' /\ zaS w' B zaW:=by
 have hl:=(zax J).2.1;have O:Hid (∀ W,zaS W A R->Calls _ _ _ _ _):=fun W M=>zdw A R W (zea J) M;rw[J] at O;have T:Hid (∀ W,Calls _ _ _ _ _):=fun W=>zcz A R x.a W hl;rw[show decide (isH x.a)=false from decide_eq_false Z] at T;have U:Hid _:=zfe w A R x M;clear M Z J hl;obtain⟨xk,xa,xb,xc,xn⟩:=x;obtain⟨a0,a1,a2,a3,c0,c1,c2,c3⟩:=A;dsimp only[rlV,acV] at *
 go_enter Tryz.func9,Tryz.ntmps9
 go_wp2_with fail
 refine yf (O.out _ U.out.rl) ?_;rintro e V1 ⟨rfl,I⟩;have D:Hid _:=U.out.below I;clear I O U;obtain⟨r0,r1,r2,r3,rf,rl⟩:=zaa D.out.r;obtain⟨z0,z1,z2,z3,zf,zl⟩:=zaa D.out.z;obtain⟨y0,y1,y2,y3,y4,yl⟩:=zby D.out.x
 go_wp2_with fail
 refine yf (T.out _) ?_;rintro e V2 ⟨rfl,I⟩;have F:Hid _:=D.out.below I;clear r0 r1 r2 r3 rf rl z0 z1 z2 z3 zf zl y0 y1 y2 y3 y4 yl;clear I T D;obtain⟨r0,r1,r2,r3,rf,rl⟩:=zaa F.out.r;obtain⟨z0,z1,z2,z3,zf,zl⟩:=zaa F.out.z;obtain⟨y0,y1,y2,y3,y4,yl⟩:=zby F.out.x
 go_wp2
 obtain⟨X,V⟩:∃ X,(((V2.setCell ⟨w.heap.size+1+1,0,none⟩ (.slice none 0 0)).setCell ⟨w.heap.size+1+1,1,none⟩ (.slice none 0 0)).setCell ⟨w.heap.size+1+1,2,none⟩ (.slice none 0 0)).setCell ⟨w.heap.size+1+1,3,none⟩ (.slice none 0 0)=X:=⟨_,rfl⟩;have x0:X.heap[w.heap.size+1+1]?=some (.cells #[.slice none 0 0,.slice none 0 0,.slice none 0 0,.slice none 0 0] 31 (0,0)):=by rw[<- V];exact zbl F.out.z
 have xb:Below w.heap.size w X:=by rw[<- V];exact(((F.out.bel.setCell (by simp;omega) _).setCell (by simp;omega) _).setCell (by simp;omega) _).setCell (by simp;omega) _
 rw[V];obtain⟨m0,m1,m2,m3,mf,ml⟩:=zaa x0;exact yq (v:=.tuple #[.agg #[.slice none 0 0,.slice none 0 0,.slice none 0 0,.slice none 0 0],.int .i64 0,.int .i64 4]) (by simp[results,Tryz.results9,go_sem,m0,m1,m2,m3]) rfl ⟨⟨none,none,none,none,0,0,0,0⟩,rfl,xb,zaO _ _⟩
theorem zrw(A:RA)(R:Rl)(x:Ac)(w:World)(M:zaB R=0)(O:zaS w A R)(ha:isH x.a)(hk:x.k≠1/\x.k≠2/\x.k≠4/\x.k≠6/\x.k≠5/\x.k≠11/\x.k≠14/\x.k≠15/\x.k≠3/\x.k≠7/\x.k≠8) :
  Calls Tryz.prog 9 #[rlV A R,acV x] w fun e w' => ∃ B:RA,e=.returned (.tuple #[rlV B zaW,.int .i64 0,.int .i64 3])/\Below w.heap.size w w' /\ zaS w' B zaW:=by
 have hl:=(zax M).2.1;have T:Hid (∀ W,zaS W A R->Calls _ _ _ _ _):=fun W O=>zdw A R W (zea M) O;rw[M] at T;have U:Hid (∀ W,Calls _ _ _ _ _):=fun W=>zcz A R x.a W hl;rw[show decide (isH x.a)=true from decide_eq_true ha] at U;have D2:Hid (∀ W,Calls _ _ _ _ _):=fun W=>znE x.k W hk;have V:Hid _:=zfe w A R x O;clear O ha M hl hk;obtain⟨xk,xa,xb,xc,xn⟩:=x;obtain⟨a0,a1,a2,a3,c0,c1,c2,c3⟩:=A;dsimp only[rlV,acV] at *
 go_enter Tryz.func9,Tryz.ntmps9
 go_wp2_with fail
 refine yf (T.out _ V.out.rl) ?_;rintro e V1 ⟨rfl,I⟩;have D:Hid _:=V.out.below I;clear I T V;obtain⟨r0,r1,r2,r3,rf,rl⟩:=zaa D.out.r;obtain⟨z0,z1,z2,z3,zf,zl⟩:=zaa D.out.z;obtain⟨y0,y1,y2,y3,y4,yl⟩:=zby D.out.x
 go_wp2_with fail
 refine yf (U.out _) ?_;rintro e V2 ⟨rfl,I⟩;have F:Hid _:=D.out.below I;clear r0 r1 r2 r3 rf rl z0 z1 z2 z3 zf zl y0 y1 y2 y3 y4 yl;clear I U D;obtain⟨r0,r1,r2,r3,rf,rl⟩:=zaa F.out.r;obtain⟨z0,z1,z2,z3,zf,zl⟩:=zaa F.out.z;obtain⟨y0,y1,y2,y3,y4,yl⟩:=zby F.out.x;have a5:∀ w:World,(binOp BinOp.eql 64 Value.nilFunc Value.nilFunc).run Tryz.prog w=.ok (.bool true) w:=fun _=>by kernel_rfl
 go_wp2_with fail
 refine yf (D2.out _) ?_;rintro e w6 ⟨rfl,J⟩;have a4:=J.symm;clear J;subst a4
 go_wp2
 obtain⟨X,Z⟩:∃ X,(((V2.setCell ⟨w.heap.size+1+1,0,none⟩ (.slice none 0 0)).setCell ⟨w.heap.size+1+1,1,none⟩ (.slice none 0 0)).setCell ⟨w.heap.size+1+1,2,none⟩ (.slice none 0 0)).setCell ⟨w.heap.size+1+1,3,none⟩ (.slice none 0 0)=X:=⟨_,rfl⟩;have x0:X.heap[w.heap.size+1+1]?=some (.cells #[.slice none 0 0,.slice none 0 0,.slice none 0 0,.slice none 0 0] 31 (0,0)):=by rw[<- Z];exact zbl F.out.z
 have xb:Below w.heap.size w X:=by rw[<- Z];exact(((F.out.bel.setCell (by simp;omega) _).setCell (by simp;omega) _).setCell (by simp;omega) _).setCell (by simp;omega) _
 rw[Z];obtain⟨m0,m1,m2,m3,mf,ml⟩:=zaa x0;exact yq (v:=.tuple #[.agg #[.slice none 0 0,.slice none 0 0,.slice none 0 0,.slice none 0 0],.int .i64 0,.int .i64 3]) (by simp[results,Tryz.results9,go_sem,m0,m1,m2,m3]) rfl ⟨⟨none,none,none,none,0,0,0,0⟩,rfl,xb,zaO _ _⟩
theorem zaX{R:Rl}{x:Ac}{q:Rs}{k:Int}{G F:Nat}(M:x.k=k)(I:∀ args w,(callFunc G args).run Tryz.prog w=.ok (.enter G args) w)
  (h:∀ W,Calls Tryz.prog 23 #[.int .i64 k] W fun e w' => ∃ A,e=.returned (.func (.func G) #[] #[.pointer (some ⟨A,0,none⟩)])/\Below W.heap.size W w' /\ w'.cell? ⟨A,0,none⟩=some (.func (.func F) #[] #[]))
  (hd:∀ A (w:World),w.cell? ⟨A,0,none⟩=some (.func (.func F) #[] #[])->zit G #[.pointer (some ⟨A,0,none⟩)] w R x q):zhd R x q:=fun W=>by
 rw[M];refine(h W).mono ?_;rintro e w' ⟨A,rfl,J,D⟩;exact⟨G,_,rfl,J,I,fun O h0=>hd A O ((h0.cell (ye _ _ D)).trans D)⟩
theorem zfP{R:Rl}{x:Ac}{q:Rs}{k:Int}{G:Nat}(D:x.k=k)(A:∀ args w,(callFunc G args).run Tryz.prog w=.ok (.enter G args) w)
  (h:∀ W,Calls Tryz.prog 23 #[.int .i64 k] W fun e w' => e=.returned (.func (.func G) #[] #[])/\w' = W) (hd:∀ w:World,zit G #[] w R x q):zhd R x q:=fun W=>by
 rw[D];refine(h W).mono ?_;rintro e w' ⟨rfl,rfl⟩;exact⟨G,_,rfl,yj _ _,A,fun F _=>hd F⟩
theorem zrm{R:Rl}{a n:Int}(h:zcH R.s n=0):znr R a n=⟨0,⟨rS (zcH R.s n) (mkS R.s n),R.hs.set a.toNat (rH (zcH R.s n) (mkH R.s)),R.i,R.t⟩,0⟩:=by
 unfold znr;rw[zhF h,h];rfl
theorem zrl{R:Rl}{b:Int}{h:Int × Int}{c:Bool}(e:zkb R.s h.1 h.2=0):znq R b h c=⟨0,⟨rS (zkb R.s h.1 h.2) (zpV R.s h.1 c),R.hs.set b.toNat (rH (zkb R.s h.1 h.2) (mkH R.s)),R.i,R.t⟩,0⟩:=by
 unfold znq;rw[zhF e,e];rfl
theorem zsI(R:Rl)(x:Ac)(hR:zaB R=0)(F:isH x.a)(hk:¬ (x.k≠1/\x.k≠2/\x.k≠4/\x.k≠6/\x.k≠5/\x.k≠11/\x.k≠14/\x.k≠15/\x.k≠3/\x.k≠7/\x.k≠8)):zhd R x (doG R x):=by
 obtain⟨wf,hl,hg,_⟩:=zax hR;have T:=(zeC hg).1;unfold doG;rw[yd F];by_cases k1:x.k=1
 ·rw[yd k1];exact zfP k1 (enters_of Tryz.func55 (by kernel_rfl) rfl) zpB (fun w=>ziZ w R x hl F _ _ _ (zrH R.s x.n wf) _ (zhG _ _ _) zrm)
 rw[ya k1];by_cases k2:x.k=2
 ·rw[yd k2];exact zaX k2 (enters_of Tryz.func102 (by kernel_rfl) rfl) zpC (fun A w D=>zhg _ (enters_of Tryz.func57 (by kernel_rfl) rfl) A w D R x hl F _ _ (zpM R.s (hd R x.a) wf))
 rw[ya k2];by_cases k4:x.k=4
 ·rw[yd k4];exact zaX k4 (enters_of Tryz.func102 (by kernel_rfl) rfl) zpD (fun A w D=>zhg _ (enters_of Tryz.func58 (by kernel_rfl) rfl) A w D R x hl F _ _ (zmK R.s (hd R x.a) wf))
 rw[ya k4];by_cases k6:x.k=6
 ·rw[yd k6];exact zfP k6 (enters_of Tryz.func59 (by kernel_rfl) rfl) zpF (fun w=>zjA w R x wf hl F)
 rw[ya k6];by_cases k5:x.k=5
 ·rw[yd k5];exact zaX k5 (enters_of Tryz.func107 (by kernel_rfl) rfl) zpE (fun A w D=>zlh _ (enters_of Tryz.func61 (by kernel_rfl) rfl) A w D R x wf hl F x.n (fun a c W _=>zif a _ c x.n W))
 rw[ya k5];by_cases O:x.k=11
 ·rw[yd O];unfold zlH;by_cases hn:0<=x.n/\x.n<R.i.length
  ·rw[yd hn];obtain⟨j,hj⟩:∃ j:Nat,x.n=j:=⟨x.n.toNat,by omega⟩;refine zaX O (enters_of Tryz.func107 (by kernel_rfl) rfl) ziF (fun A w D=>zlh _ (enters_of Tryz.func62 (by kernel_rfl) rfl) A w D R x wf hl F _ (fun a c W hW=>?_));rw[hj,yg];exact zgQ a c R.i j W hW (by omega) T
  ·rw[ya hn];exact zaX O (enters_of Tryz.func107 (by kernel_rfl) rfl) ziF (fun A w D=>zrI _ (enters_of Tryz.func62 (by kernel_rfl) rfl) A w D R x wf hl F 4 0 (by decide) (fun a c W _=>zhJ a _ c x.n W hn T))
 rw[ya O];by_cases U:x.k=14
 ·rw[yd U];exact zaX U (enters_of Tryz.func108 (by kernel_rfl) rfl) znC (fun A w D=>zgK _ (enters_of Tryz.func64 (by kernel_rfl) rfl) A w D R x hl F _ _ (fun a c W hW=>zgV R.s (hd R x.a) x wf a c W hW))
 rw[ya U];by_cases V:x.k=15
 ·rw[yd V];exact zaX V (enters_of Tryz.func108 (by kernel_rfl) rfl) znD (fun A w D=>zgK _ (enters_of Tryz.func65 (by kernel_rfl) rfl) A w D R x hl F _ _ (fun a c W hW=>zhQ R.s (hd R x.a) x wf a c W hW))
 rw[ya V];have kk:x.k=3\/x.k=7\/x.k=8:=by omega
 rw[yd kk];have Z:(∀ args w,(callFunc 111 args).run Tryz.prog w=.ok (.enter 111 args) w):=enters_of Tryz.func111 (by kernel_rfl) rfl;have eh:=enters_of Tryz.func68 (by kernel_rfl) rfl;have eu:=enters_of Tryz.func69 (by kernel_rfl) rfl;have ei:=enters_of Tryz.func67 (by kernel_rfl) rfl;by_cases I:isH x.b
 ·rw[yd I];by_cases k7:x.k=7
  ·rw[yd k7];exact zaX k7 Z zkS (fun A w D=>zgL _ eh A w D R x hl I _ (zpW w R x hl F I _ _ _ (zrE R.s (hd R x.a) (decide (x.n=1)) wf) _ (zhG _ _ _) zrl))
  rw[ya k7];by_cases k8:x.k=8
  ·rw[yd k8];exact zaX k8 Z zkT (fun A w D=>zgL _ eu A w D R x hl I _ (zsz w R x wf hl F I))
  rw[ya k8];have k3:x.k=3:=by omega
  refine zaX k3 Z zkR (fun A w D=>zgL _ ei A w D R x hl I _ ?_);by_cases J:x.c<0
  ·rw[yd J];exact zqb w R x wf hl F I J
  rw[ya J];by_cases M:isH x.c
  ·rw[yd M];exact zqc w R x wf hl F I M
  ·rw[ya M];exact zok w R x wf hl F I J M
 ·rw[ya I];rcases kk with k3|k7|k8
  ·exact zaX k3 Z zkR (fun A w D=>zis _ ei A w D R x hl I)
  ·exact zaX k7 Z zkS (fun A w D=>zis _ eh A w D R x hl I)
  ·exact zaX k8 Z zkT (fun A w D=>zis _ eu A w D R x hl I)
def zsj:Prop:=∀ (A:RA) (R:Rl) (x:Ac) (w:World),ziu R->zaS w A R ->
 Calls Tryz.prog 9 #[rlV A R,acV x] w fun e w' => ∃ B:RA,e=.returned (.tuple #[rlV B (doF R x).r,.int .i64 (doF R x).o,.int .i64 (doF R x).e])/\Below w.heap.size w w' /\ zaS w' B (doF R x).r/\((doF R x).e=0->RlO w.heap.size w' B (doF R x).r)
theorem zrr:zsj:=fun A R x w hB M=>by
 by_cases D:zaB R=0
 ·have e:doF R x=doG R x:=yd D;rw[e];by_cases J:isH x.a
  ·by_cases V:x.k≠1/\x.k≠2/\x.k≠4/\x.k≠6/\x.k≠5/\x.k≠11/\x.k≠14/\x.k≠15/\x.k≠3/\x.k≠7/\x.k≠8
   ·have e2:doG R x=bad 3:=by
     obtain⟨h1,F,Z,h6,h5,O,T,U,I,h7,h8⟩:=V;unfold doG;rw[yd J,ya h1,ya F,ya Z,ya h6,ya h5,ya O,ya T,ya U,ya (by omega)]
    rw[e2];exact(zrw A R x w D M J V).mono (fun e w' ⟨B,h1,F,I⟩=>⟨B,h1,F,I,fun h=>absurd h (by decide)⟩)
   ·have h:=zru A R x _ w D M J (zsI R x D J V);have s:=zqT R x;by_cases h0:(doG R x).e=0
    ·rw[yd h0,yd h0] at h;exact h
    ·rw[ya h0,ya h0] at h;rw[(s h0).1,(s h0).2];exact h
  ·have e2:doG R x=bad 4:=by unfold doG;rw[ya J]
   rw[e2];exact(zrt A R x w D M J).mono (fun e w' ⟨B,h1,F,I⟩=>⟨B,h1,F,I,fun h=>absurd h (by decide)⟩)
 ·have e:doF R x=bad (zaB R):=ya D;rw[e];exact(zrs A R x _ w hB M rfl D).mono (fun e w' ⟨B,h1,F,I⟩=>⟨B,h1,F,I,fun h=>absurd h D⟩)
theorem zsm:zps:=fun A R x w I J=>(zrr A R x w I J).mono (fun e w' ⟨B,h1,D,F,_⟩=>⟨B,h1,D,F⟩)
end Go.Proofs.YtgjfmepbphfjoaaGreat
