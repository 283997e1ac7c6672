/-
  x
-/
import Derived.Test.YtcbcpomacdngmaaGreatQ34
namespace Go.Proofs.YtcbcpomacdngmaaGreat
set_option maxRecDepth 100000
set_option maxHeartbeats 4000000
set_option linter.unusedVariables false
open Go.RowKit Go.ChangeShapes Go.WideShapes
def gA(w:World)(a:Option Addr)(i:Nat):Option Addr:=match a with
 | some D=>(match w.cell? ⟨D.block,D.off+i*2+1,none⟩ with|some (.slice x _ _)=>x | _=>none)
 | none=>none
def gC(w:World)(a:Option Addr)(i:Nat):Nat:=match a with
 | some D=>(match w.cell? ⟨D.block,D.off+i*2+1,none⟩ with|some (.slice _ _ c)=>c | _=>0)
 | none=>0
theorem zAd{w:World}{a:Option Addr}{q:List Ml}(h:zbM w a q){i:Nat}(hi:i<q.length):∃ b o,a=some ⟨b,o,none⟩/\w.cell? ⟨b,o+i*2,none⟩=some (.int .i64 (ml q i).f)/\w.cell? ⟨b,o+i*2+1,none⟩=some (.slice (gA w a i) (ml q i).g.length (gC w a i)):=by
 obtain⟨b,o,ga,gc,rfl,c0,c1,_⟩:=h i hi;exact⟨b,o,rfl,c0,by unfold gA gC;dsimp only;rw[c1]⟩
theorem zxO{w:World}{a:Option Addr}{q:List Ml}(h:zbM w a q){i:Nat}(hi:i<q.length):zaI w (gA w a i) (ml q i).g:=by
 obtain⟨b,o,ga,gc,rfl,c0,c1,hg⟩:=h i hi;unfold gA;dsimp only;rw[c1];exact hg
theorem zyS(m:Ml)(ga:Option Addr)(gc n M:Nat)(w:World)(hn:n<=9223372036854775807)(hc:w.cell? ⟨M,0,none⟩=some (.int .i64 (n:Int)))(h1:m.g.length<=9223372036854775807)(O:zkb m.g)(T:zaI w ga m.g) :
  Calls Tryz.prog 65 #[.agg #[.int .i64 m.f,.slice ga m.g.length gc],.pointer (some ⟨M,0,none⟩)] w fun e w' => e=.returned (.int .i64 (zjl n m))/\Below w.heap.size w w' := by
 obtain⟨f,g⟩:=m;dsimp only at h1 O T |-;have D:Hid (∀ W,Below w.heap.size w W->Calls _ _ _ _ _):=fun W hW=>zfV ga gc g W h1 O (T.below hW);obtain⟨Q,U⟩:∃ Q:Int,(n:Int)-1=Q:=⟨_,rfl⟩;have hq:IntKind.i64.wrap ((n:Int)-1)=Q:=by rw[yI];omega
 have J:Hid (∀ W,Calls _ _ _ _ _):=fun W=>zaR f 0 Q W;have a5:M<w.heap.size:=ye _ _ hc;have E:zjl n ⟨f,g⟩=if 0<=f/\f<=Q then zaA g else 4:=by rw[<- U];rfl
 rw[E];clear E h1 O T U;generalize zaA g=G at *;generalize g.length=l at *;by_cases h:0<=f/\f<=Q
 ·rw[yd h];rw[yG h] at J;clear h
  go_enter Tryz.func65,Tryz.ntmps65
  go_wp2_with (first|(go_at_call 66;refine(J.out _).mono ?_;rintro e w3 ⟨rfl,F⟩;subst F)|(go_at_call 64;refine(D.out _ (zaa _ _)).mono ?_;rintro e w4 ⟨rfl,I⟩;have Z:Hid (Below w.heap.size w w4):=(zaa _ _).trans (I.mono (by simp));clear I))
  go_ret;exact⟨rfl,Z.out⟩
 ·rw[ya h];rw[yF h] at J;clear h
  go_enter Tryz.func65,Tryz.ntmps65
  go_wp2_with (go_at_call 66;refine(J.out _).mono ?_;rintro e w3 ⟨rfl,F⟩;subst F)
  go_ret;exact⟨rfl,zaa _ _⟩
theorem zxk(q:List Ml)(qa:Option Addr)(qc n J T:Nat)(w:World)(hn:n<=9223372036854775807)(hc:w.cell? ⟨J,0,none⟩=some (.int .i64 (n:Int)))(hd:w.cell? ⟨T,0,none⟩=some (.func (.func 65) #[] #[.pointer (some ⟨J,0,none⟩)]))(h1:q.length<=9223372036854775807)(M:∀ j,j<q.length->(ml q j).g.length<=9223372036854775807/\zkb (ml q j).g)(O:zbM w qa q) :
  Calls Tryz.prog 67 #[.slice qa q.length qc,.pointer (some ⟨T,0,none⟩)] w fun e w' => e=.returned (.int .i64 (zbZ n q))/\Below w.heap.size w w' := by
 have D:Hid (Calls _ _ _ _ _):=zsU 65 #[.pointer (some ⟨J,0,none⟩)] (yK Tryz.func65 (by kernel_rfl) rfl) qa qc q.length (fun i=>⟨(ml q i).f,gA w qa i,(ml q i).g.length,gC w qa i⟩) (fun i=>zjl n (ml q i)) w h1 (fun i hi=>zAd O hi) (fun i hi W U=>zyS (ml q i) _ _ n J W hn (zab hc U) (M i hi).1 (M i hi).2 ((zxO O hi).below U))
 have E:zbZ n q=if 16<q.length then 1 else zaq ((List.range q.length).map fun i=>zjl n (ml q i)):=by
  unfold zbZ ml;rw[zhl,zjn]
 rw[E];clear E M O hc;generalize zaq ((List.range q.length).map fun i=>zjl n (ml q i))=F at *;generalize q.length=l at *;by_cases h:16<l
 ·rw[yd h];have h' :(16:Int)<(l:Int):=by omega
  go_enter Tryz.func67,Tryz.ntmps67
  go_wp2
  go_ret;exact⟨rfl,yr _ _⟩
 ·rw[ya h];have h' : ¬ (16:Int)<(l:Int):=by omega
  go_enter Tryz.func67,Tryz.ntmps67
  go_wp2_with (go_at_call 68;refine D.out.mono ?_;rintro e w4 ⟨rfl,I⟩;have Z:Hid (Below w.heap.size w w4):=I;clear I)
  go_ret;exact⟨rfl,Z.out⟩
theorem zze(l:Nat)(pa:Option Addr)(pc:Nat)(w:World):Calls Tryz.prog 34 #[.slice pa l pc] w fun e w' => e=.returned (.int .i64 (if 40<l then 1 else 0))/\Below w.heap.size w w' := by
 by_cases h:40<l
 ·rw[yd h];have D:(40:Int)<(l:Int):=by omega
  go_enter Tryz.func34,Tryz.ntmps34
  go_wp2
  go_ret;exact⟨rfl,yr _ _⟩
 ·rw[ya h];have D:¬ (40:Int)<(l:Int):=by omega
  go_enter Tryz.func34,Tryz.ntmps34
  go_wp2
  go_ret;exact⟨rfl,yr _ _⟩
theorem zuQ(n:Int)(w:World):Calls Tryz.prog 36 #[.int .i64 n] w fun e w' => ∃ D E,e=.returned (.func (.func 67) #[] #[.pointer (some ⟨E,0,none⟩)])/\Below w.heap.size w w' /\ w'.cell? ⟨D,0,none⟩=some (.int .i64 n)/\w'.cell? ⟨E,0,none⟩=some (.func (.func 65) #[] #[.pointer (some ⟨D,0,none⟩)]):=by
 go_enter Tryz.func36,Tryz.ntmps36
 go_wp2
 go_ret;exact⟨w.heap.size,w.heap.size+1,rfl,zah _ _ _,zaB _ _ _ 0 _ rfl,zaC _ _ _ 0 _ rfl⟩
def zkC(R:Rl)(x:Ac)(q:Rs):Prop:=∀ W:World,Calls Tryz.prog 162 #[.int .i64 x.k] W fun e w' => ∃ (K:Nat) (D:Array Value),e=.returned (.func (.func K) #[] D)/\Below W.heap.size W w' /\(∀ args w,(callFunc K args).run Tryz.prog w=.ok (.enter K args) w)/\∀ E,Below w'.heap.size w' E->zmr K D E R x q
theorem zaX{W:World}{b t:Nat}{D v1 v2 E F:Value}(h:W.heap[b]?=some (.cells #[D,v1,v2,E,F] t (0,0))):W.cell? ⟨b,0,none⟩=some D/\W.cell? ⟨b,1,none⟩=some v1/\W.cell? ⟨b,2,none⟩=some v2/\W.cell? ⟨b,3,none⟩=some E/\W.cell? ⟨b,4,none⟩=some F/\b<W.heap.size :=
 ⟨by simp[World.cell?,h],by simp[World.cell?,h],by simp[World.cell?,h],by simp[World.cell?,h],by simp[World.cell?,h],zay h⟩
structure DoI (w:World) (A:RA) (R:Rl) (x:Ac) (V:World):Prop where
 bel:Below w.heap.size w V
 r:V.heap[w.heap.size]?=some (bxR A R)
 x:V.heap[w.heap.size+1]?=some (.cells #[.int .i64 x.k,.int .i64 x.a,.int .i64 x.b,.int .i64 x.c,.int .i64 x.n] 36 (0,0))
 z:V.heap[w.heap.size+1+1]?=some (.cells #[.slice none 0 0,.slice none 0 0,.slice none 0 0,.slice none 0 0] 50 (0,0))
 rl:zct V A R
theorem DoI.below{w V E:World}{A:RA}{R:Rl}{x:Ac}(I:DoI w A R x V)(D:Below V.heap.size V E):DoI w A R x E:=⟨I.bel.trans (D.mono I.bel.size),zat I.r D,zat I.x D,zat I.z D,I.rl.below D⟩
theorem zgX(w:World)(A:RA)(R:Rl)(x:Ac)(h:zct w A R):DoI w A R x (((w.alloc (.cells #[.slice A.a0 R.s.length A.c0,.slice A.a1 R.hs.length A.c1,.slice A.a2 R.i.length A.c2,.slice A.a3 R.t.length A.c3] 50)).alloc (.cells #[.int .i64 x.k,.int .i64 x.a,.int .i64 x.b,.int .i64 x.c,.int .i64 x.n] 36)).alloc (.cells #[.slice none 0 0,.slice none 0 0,.slice none 0 0,.slice none 0 0] 50)):=by
 have F:=zaa w (.cells #[.slice A.a0 R.s.length A.c0,.slice A.a1 R.hs.length A.c1,.slice A.a2 R.i.length A.c2,.slice A.a3 R.t.length A.c3] 50);obtain⟨w1,h1⟩:∃ w1,w.alloc (.cells #[.slice A.a0 R.s.length A.c0,.slice A.a1 R.hs.length A.c1,.slice A.a2 R.i.length A.c2,.slice A.a3 R.t.length A.c3] 50)=w1:=⟨_,rfl⟩;have O:=zci w 50 (.slice A.a0 R.s.length A.c0) (.slice A.a1 R.hs.length A.c1) (.slice A.a2 R.i.length A.c2) (.slice A.a3 R.t.length A.c3);have s1:w1.heap.size=w.heap.size+1:=by rw[<- h1];simp
 rw[h1] at F O |-;have D:=zaa w1 (.cells #[.int .i64 x.k,.int .i64 x.a,.int .i64 x.b,.int .i64 x.c,.int .i64 x.n] 36);have J:=yL w1 (.cells #[.int .i64 x.k,.int .i64 x.a,.int .i64 x.b,.int .i64 x.c,.int .i64 x.n] 36);obtain⟨E,M⟩:∃ E,w1.alloc (.cells #[.int .i64 x.k,.int .i64 x.a,.int .i64 x.b,.int .i64 x.c,.int .i64 x.n] 36)=E:=⟨_,rfl⟩;have s2:E.heap.size=w1.heap.size+1:=by rw[<- M];simp
 rw[M] at D J |-;have I:=zaa E (.cells #[.slice none 0 0,.slice none 0 0,.slice none 0 0,.slice none 0 0] 50);have T:=zci E 50 (.slice none 0 0) (.slice none 0 0) (.slice none 0 0) (.slice none 0 0);rw[s2,s1] at T;rw[s1] at J;exact⟨F.trans ((D.trans (I.mono D.size)).mono F.size),zat (zat O D) I,zat J I,T,((h.below F).below D).below I⟩
structure RlO (B:Nat) (V:World) (A:RA) (R:Rl):Prop where
 a3:A.a3=some ⟨tOf A,0,none⟩
 c3:A.c3=R.t.length
 t0:B<=tOf A
 tr:V.rowIs (tOf A) 3 R.t.length (zsl R)
 st:St (fun b=>b<B\/b=tOf A) (fun V=>zai V A.a0 R.s/\zau V A.a1 R.hs/\zaI V A.a2 R.i) V
theorem RlO.at{B:Nat}{V:World}{A:RA}{R:Rl}(h:RlO B V A R):zct V A R:=⟨h.st.at.1,h.st.at.2.1,h.st.at.2.2,by rw[h.a3];exact zhj h.tr⟩
theorem RlF.rlo{n B d:Nat}{V:World}{A:RA}{R:Rl}(h:RlF n d V A R)(hn:B<=n):RlO B V A R:=⟨h.a3,h.c3,yH hn h.t0,h.tr,h.st.less (fun b D=>by omega)⟩
theorem zyA(A:RA)(R:Rl)(x:Ac)(q:Rs)(w:World)(hR:zaG R=0)(hW:zct w A R)(ha:isH x.a)(hD:zkC R x q) :
  Calls Tryz.prog 148 #[rlV A R,acV x] w fun e w' => ∃ B:RA,e=.returned (.tuple #[rlV B (if q.e=0 then q.r else zbN),.int .i64 (if q.e=0 then q.o else 0),.int .i64 q.e])/\Below w.heap.size w w' /\ zct w' B (if q.e=0 then q.r else zbN)/\(q.e=0->RlO w.heap.size w' B (if q.e=0 then q.r else zbN)):=by
 have hl:=(zav hR).2.1;have D0:Hid (∀ W,zct W A R->Calls _ _ _ _ _):=fun W hW=>zet A R W (zcU hR) hW;rw[hR] at D0;have D1:Hid (∀ W,Calls _ _ _ _ _):=fun W=>zcK A R x.a W hl;rw[show decide (isH x.a)=true from yG ha] at D1;have D2:Hid (zkC R x q):=hD;have D3:Hid (∀ W,zct W A R->Calls _ _ _ _ _):=fun W hW=>zkO A R W hR hW;have I0:Hid _:=zgX w A R x hW;have b4:Hid (∀ (W V:World) (h g:Nat) (B:RA),CI W R h g B V->_):=fun W V h g B I=>CI.wi I;have b7:Hid (∀ (V V' : World) (B:RA) (n d:Nat),RlF n d V B q.r->w.heap.size<=n->zar (fun b=>b<n\/b=d) V V' -> RlO w.heap.size V' B q.r):=fun V V' B n d h1 h2 h3=>(h1.off h3).rlo h2;clear hW ha hD hR hl;obtain⟨xk,xa,xb,xc,xn⟩:=x;obtain⟨a0,a1,a2,a3,c0,c1,c2,c3⟩:=A;obtain⟨qe,D,qo⟩:=q;dsimp only[rlV,acV,zkC] at *;obtain⟨RR,a6⟩:∃ RR:Rl,(if qe=0 then D else zbN)=RR:=⟨_,rfl⟩;have J:Hid (_=RR):=a6;obtain⟨OO,a5⟩:∃ OO:Int,(if qe=0 then qo else 0)=OO:=⟨_,rfl⟩;have F:Hid (_=OO):=a5;rw[a6,a5];clear a6 a5
 go_enter Tryz.func148,Tryz.ntmps148
 go_wp2_with fail
 refine yi (D0.out _ I0.out.rl) ?_;rintro e V1 ⟨rfl,E⟩;have I1:Hid _:=I0.out.below E;clear E D0 I0;obtain⟨U,r1,r2,r3,Z,rl⟩:=zaj I1.out.r;obtain⟨z0,z1,z2,z3,zf,zl⟩:=zaj I1.out.z;obtain⟨y0,y1,y2,y3,y4,yl⟩:=zaX I1.out.x
 go_wp2_with fail
 refine yi (D1.out _) ?_;rintro e V2 ⟨rfl,E⟩;have I2:Hid _:=I1.out.below E;clear U r1 r2 r3 Z rl z0 z1 z2 z3 zf zl y0 y1 y2 y3 y4 yl;clear E D1 I1;obtain⟨U,r1,r2,r3,Z,rl⟩:=zaj I2.out.r;obtain⟨z0,z1,z2,z3,zf,zl⟩:=zaj I2.out.z;obtain⟨y0,y1,y2,y3,y4,yl⟩:=zaX I2.out.x
 go_wp2_with fail
 refine yi (D2.out _) ?_;rintro e V3 ⟨K,O,rfl,E,eg,b5⟩;have M:Hid _:=I2.out.below E;have ZL:Hid (w.heap.size+1+1<V3.heap.size):=zay M.out.z;have b8:∀ w:World,(binOp BinOp.eql 209 (Value.func (Fn.func K) #[] O) Value.nilFunc).run Tryz.prog w=.ok (.bool false) w:=fun _=>by kernel_rfl
 have HD:Hid (zmr K O V3 R ⟨xk,xa,xb,xc,xn⟩ ⟨qe,D,qo⟩):=b5 V3 (yr _ _);clear U r1 r2 r3 Z rl z0 z1 z2 z3 zf zl y0 y1 y2 y3 y4 yl;clear E D2 I2 b5;obtain⟨U,r1,r2,r3,Z,rl⟩:=zaj M.out.r;obtain⟨z0,z1,z2,z3,zf,zl⟩:=zaj M.out.z;obtain⟨y0,y1,y2,y3,y4,yl⟩:=zaX M.out.x
 go_wp2_with fail
 refine yi (D3.out _ M.out.rl) ?_;rintro e V4 ⟨⟨b0,b1,b2,b3,d0,d1,d2,d3⟩,h,g,rfl,a8⟩;have I4:Hid _:=M.out.below a8.bel;have W4:Hid _:=b4.out _ _ _ _ _ a8;clear U r1 r2 r3 Z rl z0 z1 z2 z3 zf zl y0 y1 y2 y3 y4 yl;clear D3 a8 b4;obtain⟨U,r1,r2,r3,Z,rl⟩:=zaj I4.out.r;obtain⟨z0,z1,z2,z3,zf,zl⟩:=zaj I4.out.z;obtain⟨y0,y1,y2,y3,y4,yl⟩:=zaX I4.out.x
 go_wp2_with fail
 refine yi (HD.out _ _ _ _ _ W4.out) ?_;rintro e V5 ⟨o,rfl,E,hq⟩;have I5:Hid _:=M.out.below E;clear U r1 r2 r3 Z rl z0 z1 z2 z3 zf zl y0 y1 y2 y3 y4 yl;clear W4 I4 HD E M;obtain⟨U,r1,r2,r3,Z,rl⟩:=zaj I5.out.r;obtain⟨z0,z1,z2,z3,zf,zl⟩:=zaj I5.out.z;obtain⟨y0,y1,y2,y3,y4,yl⟩:=zaX I5.out.x;by_cases hE:qe=0
 ·subst hE;obtain rfl:D=RR:=(yd rfl).symm.trans J.out;obtain rfl:qo=OO:=(yd rfl).symm.trans F.out;obtain⟨rfl,⟨e0,e1,e2,e3,f0,f1,f2,f3⟩,a7,a9⟩:=hq rfl;dsimp only at a7 a9;have b6:Hid _:=a9;obtain⟨s0,s1,s2,s3,sf,sl⟩:=zaj a7;clear a7 hq a9 J F;dsimp only at s0 s1 s2 s3
  go_wp2
  obtain⟨X,T⟩:∃ X,(((V5.setCell ⟨w.heap.size+1+1,0,none⟩ (.slice e0 D.s.length f0)).setCell ⟨w.heap.size+1+1,1,none⟩ (.slice e1 D.hs.length f1)).setCell ⟨w.heap.size+1+1,2,none⟩ (.slice e2 D.i.length f2)).setCell ⟨w.heap.size+1+1,3,none⟩ (.slice e3 D.t.length f3)=X:=⟨_,rfl⟩;have x0:X.heap[w.heap.size+1+1]?=some (.cells #[.slice e0 D.s.length f0,.slice e1 D.hs.length f1,.slice e2 D.i.length f2,.slice e3 D.t.length f3] 50 (0,0)):=by rw[<- T];exact zcR I5.out.z
  have xb:Below w.heap.size w X:=by rw[<- T];exact(((I5.out.bel.setCell (by simp;omega) _).setCell (by simp;omega) _).setCell (by simp;omega) _).setCell (by simp;omega) _
  have xr:RlO w.heap.size X ⟨e0,e1,e2,e3,f0,f1,f2,f3⟩ D:=by rw[<- T];exact b7.out V5 _ _ _ _ b6.out (by have:=ZL.out;omega) ((((zar.set _ _ (Or.inl ZL.out)).trans (zar.set _ _ (Or.inl ZL.out))).trans (zar.set _ _ (Or.inl ZL.out))).trans (zar.set _ _ (Or.inl ZL.out)))
  rw[T];obtain⟨m0,m1,m2,m3,mf,ml⟩:=zaj x0;exact yw (v:=.tuple #[.agg #[.slice e0 D.s.length f0,.slice e1 D.hs.length f1,.slice e2 D.i.length f2,.slice e3 D.t.length f3],.int .i64 o,.int .i64 0]) (by simp[results,Tryz.results148,go_sem,m0,m1,m2,m3]) rfl ⟨⟨e0,e1,e2,e3,f0,f1,f2,f3⟩,rfl,xb,xr.at,xr⟩
 ·obtain rfl:zbN=RR:=(ya hE).symm.trans J.out;obtain rfl:(0:Int)=OO:=(ya hE).symm.trans F.out;have hz:(qe == 0)=false:=by simp[hE]
  clear hq J F;dsimp only
  go_wp2
  obtain⟨X,T⟩:∃ X,(((V5.setCell ⟨w.heap.size+1+1,0,none⟩ (.slice none 0 0)).setCell ⟨w.heap.size+1+1,1,none⟩ (.slice none 0 0)).setCell ⟨w.heap.size+1+1,2,none⟩ (.slice none 0 0)).setCell ⟨w.heap.size+1+1,3,none⟩ (.slice none 0 0)=X:=⟨_,rfl⟩;have x0:X.heap[w.heap.size+1+1]?=some (.cells #[.slice none 0 0,.slice none 0 0,.slice none 0 0,.slice none 0 0] 50 (0,0)):=by rw[<- T];exact zcR I5.out.z
  have xb:Below w.heap.size w X:=by rw[<- T];exact(((I5.out.bel.setCell (by simp;omega) _).setCell (by simp;omega) _).setCell (by simp;omega) _).setCell (by simp;omega) _
  rw[T];obtain⟨m0,m1,m2,m3,mf,ml⟩:=zaj x0;exact yw (v:=.tuple #[.agg #[.slice none 0 0,.slice none 0 0,.slice none 0 0,.slice none 0 0],.int .i64 0,.int .i64 qe]) (by simp[results,Tryz.results148,go_sem,m0,m1,m2,m3]) rfl ⟨⟨none,none,none,none,0,0,0,0⟩,rfl,xb,zjH _ _⟩
theorem ziL(w:World)(t:Nat)(D v1 v2 E F:Value):(w.alloc (.cells #[D,v1,v2,E,F] t)).heap[w.heap.size]?=some (.cells #[D,v1,v2,E,F] t (0,0)):=yL _ _
theorem zAb{a b c d e f:Int}:zaq [a,b,c,d,e,f]=if a=0 then (if b=0 then (if c=0 then (if d=0 then (if e=0 then (if f=0 then 0 else f) else e) else d) else c) else b) else a:=rfl
theorem zBn(e:Int):(if e=0 then 0 else e)=e:=by
 split
 ·omega
 ·rfl
theorem zey:zdY:=fun A W w hB hC hW=>by
 obtain⟨a0,a1,a2,a3,a4,c0,c1,c2,c3,c4⟩:=A;obtain⟨fs,rs,ps,qs,pt⟩:=W;obtain⟨b4,⟨b5,a6⟩,⟨b6,b1⟩,⟨b7,M⟩,b8,a7⟩:=hB;dsimp only[wlV] at b4 b5 a6 b6 b1 b7 M b8 a7 |-;have D0:Hid (∀ V,Below w.heap.size w V->Calls _ _ _ _ _):=fun V hV=>zef a0 c0 fs V b4 (hW.fs.below hV)
 have D1:Hid (∀ V,Below w.heap.size w V->Calls Tryz.prog 31 #[.slice a1 rs.length c1,.func (.func 32) #[] #[]] V fun e w' => e=.returned (.int .i64 (zcP rs))/\Below V.heap.size V w'):=fun V hV=>by
  obtain⟨f,hf⟩:=zqh (hW.rs.below hV);have e:zcP rs=zaq ((List.range rs.length).map fun i=>zaG (rl rs i)):=by unfold rl;rw[zhl,ziz]
  rw[e];exact zsX 32 #[] (yK Tryz.func32 (by kernel_rfl) rfl) a1 c1 rs.length (fun i=>⟨(f i).a0,(rl rs i).s.length,(f i).c0,(f i).a1,(rl rs i).hs.length,(f i).c1,(f i).a2,(rl rs i).i.length,(f i).c2,(f i).a3,(rl rs i).t.length,(f i).c3⟩) (fun i=>zaG (rl rs i)) V b5 (fun i hi=>(hf i hi).1) (fun i hi U hU=>zet (f i) (rl rs i) U (a6 i hi) ((hf i hi).2.below hU))
 have D2:Hid (∀ V,Below w.heap.size w V->Calls Tryz.prog 33 #[.slice a2 ps.length c2,.func (.func 34) #[] #[]] V fun e w' => e=.returned (.int .i64 (zer ps))/\Below V.heap.size V w'):=fun V hV=>by
  obtain⟨f,hf⟩:=zqe (hW.ps.below hV);have e:zer ps=zaq ((List.range ps.length).map fun i=>zpc (pg ps i)):=by unfold pg;rw[zhl,zjB]
  rw[e];exact zsV 34 #[] (yK Tryz.func34 (by kernel_rfl) rfl) a2 c2 ps.length (fun i=>⟨(f i).1,(pg ps i).length,(f i).2⟩) (fun i=>zpc (pg ps i)) V b6 (fun i hi=>(hf i hi).1) (fun i hi U hU=>zze _ _ _ U)
 have DM:Hid (∀ V,Calls _ _ _ _ _):=fun V=>zuQ (fs.length:Int) V
 have D3:Hid (∀ V cb cc,Below w.heap.size w V->V.cell? ⟨cb,0,none⟩=some (.int .i64 (fs.length:Int))->V.cell? ⟨cc,0,none⟩=some (.func (.func 65) #[] #[.pointer (some ⟨cb,0,none⟩)])->Calls Tryz.prog 35 #[.slice a3 qs.length c3,.func (.func 67) #[] #[.pointer (some ⟨cc,0,none⟩)]] V fun e w' => e=.returned (.int .i64 (zcO fs.length qs))/\Below V.heap.size V w'):=fun V cb cc hV a9 b0=>by
  obtain⟨f,hf⟩:=zqf (hW.qs.below hV);have e:zcO fs.length qs=zaq ((List.range qs.length).map fun i=>zbZ fs.length (qu qs i)):=by unfold qu;rw[zhl,zix]
  rw[e];exact zsW 67 #[.pointer (some ⟨cc,0,none⟩)] (yK Tryz.func67 (by kernel_rfl) rfl) a3 c3 qs.length (fun i=>⟨(f i).1,(qu qs i).length,(f i).2⟩) (fun i=>zbZ fs.length (qu qs i)) V b7 (fun i hi=>(hf i hi).1) (fun i hi U hU=>zxk (qu qs i) _ _ fs.length cb cc U b4 (zab a9 hU) (zab b0 hU) (M i hi).1 (M i hi).2 ((hf i hi).2.below hU))
 have D4:Hid (∀ V,Below w.heap.size w V->Calls _ _ _ _ _):=fun V hV=>zhY a4 c4 pt (fs.length:Int) V b8 a7 hC.s4 (hW.pt.below hV)
 have E:zbg ⟨fs,rs,ps,qs,pt⟩=if zaO fs=0 then (if (if rs.length=fs.length/\ps.length=fs.length/\qs.length=fs.length then (0:Int) else 3)=0 then (if zcP rs=0 then (if zer ps=0 then (if zcO fs.length qs=0 then zbd pt fs.length else zcO fs.length qs) else zer ps) else zcP rs) else (if rs.length=fs.length/\ps.length=fs.length/\qs.length=fs.length then (0:Int) else 3)) else zaO fs:=by
  unfold zbg;rw[zAb,zBn]
 rw[E];clear E hC hW a6 b1 M a7;generalize zaO fs=E0 at *;generalize zcP rs=E1 at *;generalize zer ps=E2 at *;generalize zcO fs.length qs=E3 at *;generalize zbd pt fs.length=E4 at *;generalize fs.length=T at *;generalize rs.length=Z at *;generalize ps.length=O at *;generalize qs.length=J at *;generalize pt.length=nt at *;obtain⟨F,hF⟩:∃ F:Int,(if E0=0 then (if (if Z=T/\O=T/\J=T then (0:Int) else 3)=0 then (if E1=0 then (if E2=0 then (if E3=0 then E4 else E3) else E2) else E1) else (if Z=T/\O=T/\J=T then (0:Int) else 3)) else E0)=F:=⟨_,rfl⟩;have I:Hid (_=F):=hF;rw[hF];clear hF
 go_enter Tryz.func10,Tryz.ntmps10
 go_wp2_with fail
 refine yi (D0.out _ (zaa _ _)) ?_;rintro e V0 ⟨rfl,D⟩;have BV:Hid (Below w.heap.size w V0):=(zaa _ _).trans (D.mono (by simp));have X0:Hid _:=zat (ziL w 28 (.slice a0 T c0) (.slice a1 Z c1) (.slice a2 O c2) (.slice a3 J c3) (.slice a4 nt c4)) D;clear D D0;obtain⟨l0,l1,l2,l3,l4,ll⟩:=zaX X0.out;by_cases e0:E0=0;rotate_left
 ·rw[ya e0] at I;have hz:(E0 == 0)=false:=by simp[e0]
  go_wp2
  go_ret;exact⟨by rw[<- I.out];rfl,BV.out⟩
 subst e0;rw[yd rfl] at I;by_cases h1:Z=T;rotate_left
 ·rw[show (if Z=T/\O=T/\J=T then (0:Int) else 3)=3 from ya (fun h=>h1 h.1),ya (by decide)] at I;have hz:((Z:Int) ==(T:Int))=false:=by simp;omega
  go_wp2
  go_ret;exact⟨by rw[<- I.out];rfl,BV.out⟩
 subst h1;by_cases h2:O=Z;rotate_left
 ·rw[show (if Z=Z/\O=Z/\J=Z then (0:Int) else 3)=3 from ya (fun h=>h2 h.2.1),ya (by decide)] at I;have hz:((O:Int) ==(Z:Int))=false:=by simp;omega
  go_wp2
  go_ret;exact⟨by rw[<- I.out];rfl,BV.out⟩
 subst h2;by_cases h3:J=O;rotate_left
 ·rw[show (if O=O/\O=O/\J=O then (0:Int) else 3)=3 from ya (fun h=>h3 h.2.2),ya (by decide)] at I;have hz:((J:Int) ==(O:Int))=false:=by simp;omega
  go_wp2
  go_ret;exact⟨by rw[<- I.out];rfl,BV.out⟩
 subst h3;rw[show (if J=J/\J=J/\J=J then (0:Int) else 3)=0 from yd ⟨rfl,rfl,rfl⟩,yd rfl] at I
 go_wp2_with fail
 refine yi (D1.out _ BV.out) ?_;rintro e V1 ⟨rfl,D⟩;have a5:Hid (Below w.heap.size w V1):=BV.out.trans (D.mono BV.out.size);have X1:Hid _:=zat X0.out D;clear D D1 l0 l1 l2 l3 l4 ll X0;obtain⟨l0,l1,l2,l3,l4,ll⟩:=zaX X1.out;by_cases e1:E1=0;rotate_left
 ·rw[ya e1] at I;have hz:(E1 == 0)=false:=by simp[e1]
  go_wp2
  go_ret;exact⟨by rw[<- I.out];rfl,a5.out⟩
 subst e1;rw[yd rfl] at I
 go_wp2_with fail
 refine yi (D2.out _ a5.out) ?_;rintro e V2 ⟨rfl,D⟩;have b2:Hid (Below w.heap.size w V2):=a5.out.trans (D.mono a5.out.size);have X2:Hid _:=zat X1.out D;clear D D2 l0 l1 l2 l3 l4 ll X1 a5 BV;obtain⟨l0,l1,l2,l3,l4,ll⟩:=zaX X2.out;by_cases e2:E2=0;rotate_left
 ·rw[ya e2] at I;have hz:(E2 == 0)=false:=by simp[e2]
  go_wp2
  go_ret;exact⟨by rw[<- I.out];rfl,b2.out⟩
 subst e2;rw[yd rfl] at I
 go_wp2_with fail
 go_region_held3 (fun c6=>c6.cell? ⟨w.heap.size,3,none⟩=some (.slice a3 J c3)) (go_keep) (first|(go_at_call 36;refine yi (DM.out V2.drew) ?_;rintro e V3 ⟨cb,cc,rfl,D,a9,b0⟩;have b3:Hid (Below w.heap.size w V3):=b2.out.drew.trans (D.mono b2.out.size);have X3:Hid _:=zat (W:=V2.drew) X2.out D;have CB:Hid _:=a9;have CC:Hid _:=b0;clear D a9 b0;obtain⟨m0,m1,m2,m3,m4,mm⟩:=zaX X3.out)|(go_at_call 35;refine yi (D3.out V3 cb cc b3.out CB.out CC.out) ?_;rintro e V4 ⟨rfl,D⟩;have a8:Hid (Below w.heap.size w V4):=b3.out.trans (D.mono b3.out.size);have X4:Hid _:=zat X3.out D;clear D;obtain⟨n0,n1,n2,n3,n4,nn⟩:=zaX X4.out))
 clear l0 l1 l2 l3 l4 ll m0 m1 m2 m3 m4 mm D3 DM;by_cases e3:E3=0;rotate_left
 ·rw[ya e3] at I;have hz:(E3 == 0)=false:=by simp[e3]
  go_wp2
  go_ret;exact⟨by rw[<- I.out];rfl,a8.out⟩
 subst e3;rw[yd rfl] at I
 go_wp2_with (go_at_call 37;refine yi (D4.out _ a8.out) ?_;rintro e V5 ⟨rfl,D⟩;have b9:Hid (Below w.heap.size w V5):=a8.out.trans (D.mono a8.out.size);clear D)
 go_ret;exact⟨by rw[<- I.out];rfl,b9.out⟩
end Go.Proofs.YtcbcpomacdngmaaGreat
