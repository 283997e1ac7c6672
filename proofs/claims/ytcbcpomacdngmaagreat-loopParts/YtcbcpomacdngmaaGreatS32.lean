/-
  x
-/
import Derived.Test.YtcbcpomacdngmaaGreatS31
namespace Go.Proofs.YtcbcpomacdngmaaGreat
set_option maxRecDepth 100000
set_option maxHeartbeats 4000000
set_option linter.unusedVariables false
open Go.RowKit Go.ChangeShapes Go.WideShapes
def gA(w:World)(a:Option Addr)(i:Nat):Option Addr:=match a with
 | some D=>(match w.cell? ⟨D.block,D.off+i*2+1,none⟩ with|some (.slice x _ _)=>x | _=>none)
 | none=>none
def gC(w:World)(a:Option Addr)(i:Nat):Nat:=match a with
 | some D=>(match w.cell? ⟨D.block,D.off+i*2+1,none⟩ with|some (.slice _ _ c)=>c | _=>0)
 | none=>0
theorem zzO{w:World}{a:Option Addr}{q:List Ml}(h:zeW w a q){i:Nat}(hi:i<q.length):∃ b o,a=some ⟨b,o,none⟩/\w.cell? ⟨b,o+i*2,none⟩=some (.int .i64 (ml q i).f)/\w.cell? ⟨b,o+i*2+1,none⟩=some (.slice (gA w a i) (ml q i).g.length (gC w a i)):=by
 obtain⟨b,o,ga,gc,rfl,c0,c1,_⟩:=h i hi;exact⟨b,o,rfl,c0,by unfold gA gC;dsimp only;rw[c1]⟩
theorem zxB{w:World}{a:Option Addr}{q:List Ml}(h:zeW w a q){i:Nat}(hi:i<q.length):zaI w (gA w a i) (ml q i).g:=by
 obtain⟨b,o,ga,gc,rfl,c0,c1,hg⟩:=h i hi;unfold gA;dsimp only;rw[c1];exact hg
theorem zyF(m:Ml)(ga:Option Addr)(gc n M:Nat)(w:World)(hn:n<=9223372036854775807)(hc:w.cell? ⟨M,0,none⟩=some (.int .i64 (n:Int)))(h1:m.g.length<=9223372036854775807)(O:zjV m.g)(T:zaI w ga m.g) :
  yM 65 #[.agg #[.int .i64 m.f,.slice ga m.g.length gc],.pointer (some ⟨M,0,none⟩)] w fun e w' => e=.returned (.int .i64 (zjj n m))/\Below w.heap.size w w' := by
 obtain⟨f,g⟩:=m;dsimp only at h1 O T |-;have D:Hid (∀ W,Below w.heap.size w W->Calls _ _ _ _ _):=fun W hW=>zfN ga gc g W h1 O (T.below hW);obtain⟨Q,U⟩:∃ Q:Int,(n:Int)-1=Q:=⟨_,rfl⟩;have hq:IntKind.i64.wrap ((n:Int)-1)=Q:=by rw[yI];omega
 have J:Hid (∀ W,Calls _ _ _ _ _):=fun W=>zaR f 0 Q W;have a5:M<w.heap.size:=yd _ _ hc;have E:zjj n ⟨f,g⟩=if 0<=f/\f<=Q then zav g else 4:=by rw[<- U];rfl
 rw[E];clear E h1 O T U;generalize zav g=G at *;generalize g.length=l at *;by_cases h:0<=f/\f<=Q
 ·rw[yb h];rw[yG h] at J;clear h
  go_enter Tryz.func65,Tryz.ntmps65
  go_wp2_with (first|(go_at_call 66;refine(J.out _).mono ?_;rintro e w3 ⟨rfl,F⟩;subst F)|(go_at_call 64;refine(D.out _ (zaa _ _)).mono ?_;rintro e w4 ⟨rfl,I⟩;have Z:Hid (Below w.heap.size w w4):=(zaa _ _).trans (I.mono (by simp));clear I))
  go_ret;exact⟨rfl,Z.out⟩
 ·rw[ya h];rw[yF h] at J;clear h
  go_enter Tryz.func65,Tryz.ntmps65
  go_wp2_with (go_at_call 66;refine(J.out _).mono ?_;rintro e w3 ⟨rfl,F⟩;subst F)
  go_ret;exact⟨rfl,zaa _ _⟩
theorem zwW(q:List Ml)(qa:Option Addr)(qc n J T:Nat)(w:World)(hn:n<=9223372036854775807)(hc:w.cell? ⟨J,0,none⟩=some (.int .i64 (n:Int)))(hd:w.cell? ⟨T,0,none⟩=some (.func (.func 65) #[] #[.pointer (some ⟨J,0,none⟩)]))(h1:q.length<=9223372036854775807)(M:∀ j,j<q.length->(ml q j).g.length<=9223372036854775807/\zjV (ml q j).g)(O:zeW w qa q) :
  yM 67 #[.slice qa q.length qc,.pointer (some ⟨T,0,none⟩)] w fun e w' => e=.returned (.int .i64 (zbT n q))/\Below w.heap.size w w' := by
 have D:Hid (Calls _ _ _ _ _):=zsB 65 #[.pointer (some ⟨J,0,none⟩)] (yK Tryz.func65 (by kernel_rfl) rfl) qa qc q.length (fun i=>⟨(ml q i).f,gA w qa i,(ml q i).g.length,gC w qa i⟩) (fun i=>zjj n (ml q i)) w h1 (fun i hi=>zzO O hi) (fun i hi W U=>zyF (ml q i) _ _ n J W hn (zab hc U) (M i hi).1 (M i hi).2 ((zxB O hi).below U))
 have E:zbT n q=if 16<q.length then 1 else zan ((List.range q.length).map fun i=>zjj n (ml q i)):=by
  unfold zbT ml;rw[zgZ,zjl]
 rw[E];clear E M O hc;generalize zan ((List.range q.length).map fun i=>zjj n (ml q i))=F at *;generalize q.length=l at *;by_cases h:16<l
 ·rw[yb h];have h' :(16:Int)<(l:Int):=by omega
  go_enter Tryz.func67,Tryz.ntmps67
  go_wp2
  go_ret;exact⟨rfl,yk _ _⟩
 ·rw[ya h];have h' : ¬ (16:Int)<(l:Int):=by omega
  go_enter Tryz.func67,Tryz.ntmps67
  go_wp2_with (go_at_call 68;refine D.out.mono ?_;rintro e w4 ⟨rfl,I⟩;have Z:Hid (Below w.heap.size w w4):=I;clear I)
  go_ret;exact⟨rfl,Z.out⟩
theorem zyS(l:Nat)(pa:Option Addr)(pc:Nat)(w:World):yM 34 #[.slice pa l pc] w fun e w' => e=.returned (.int .i64 (if 40<l then 1 else 0))/\Below w.heap.size w w' := by
 by_cases h:40<l
 ·rw[yb h];have D:(40:Int)<(l:Int):=by omega
  go_enter Tryz.func34,Tryz.ntmps34
  go_wp2
  go_ret;exact⟨rfl,yk _ _⟩
 ·rw[ya h];have D:¬ (40:Int)<(l:Int):=by omega
  go_enter Tryz.func34,Tryz.ntmps34
  go_wp2
  go_ret;exact⟨rfl,yk _ _⟩
theorem zuA(n:Int)(w:World):yM 36 #[.int .i64 n] w fun e w' => ∃ D E,e=.returned (.func (.func 67) #[] #[.pointer (some ⟨E,0,none⟩)])/\Below w.heap.size w w' /\ w'.cell? ⟨D,0,none⟩=some (.int .i64 n)/\w'.cell? ⟨E,0,none⟩=some (.func (.func 65) #[] #[.pointer (some ⟨D,0,none⟩)]):=by
 go_enter Tryz.func36,Tryz.ntmps36
 go_wp2
 go_ret;exact⟨w.heap.size,w.heap.size+1,rfl,zaf _ _ _,zax _ _ _ 0 _ rfl,zay _ _ _ 0 _ rfl⟩
def zku(R:Rl)(x:Ac)(q:Rs):Prop:=∀ W:World,yM 162 #[.int .i64 x.k] W fun e w' => ∃ (K:Nat) (D:Array Value),e=.returned (.func (.func K) #[] D)/\Below W.heap.size W w' /\(∀ args w,(callFunc K args).run Tryz.prog w=.ok (.enter K args) w)/\∀ E,Below w'.heap.size w' E->zmh K D E R x q
theorem zau{W:World}{b t:Nat}{D v1 v2 E F:Value}(h:W.heap[b]?=some (.cells #[D,v1,v2,E,F] t (0,0))):W.cell? ⟨b,0,none⟩=some D/\W.cell? ⟨b,1,none⟩=some v1/\W.cell? ⟨b,2,none⟩=some v2/\W.cell? ⟨b,3,none⟩=some E/\W.cell? ⟨b,4,none⟩=some F/\b<W.heap.size :=
 ⟨by simp[World.cell?,h],by simp[World.cell?,h],by simp[World.cell?,h],by simp[World.cell?,h],by simp[World.cell?,h],zaw h⟩
structure DoI (w:World) (A:RA) (R:Rl) (x:Ac) (V:World):Prop where
 bel:Below w.heap.size w V
 r:V.heap[w.heap.size]?=some (bxR A R)
 x:V.heap[w.heap.size+1]?=some (.cells #[.int .i64 x.k,.int .i64 x.a,.int .i64 x.b,.int .i64 x.c,.int .i64 x.n] 36 (0,0))
 z:V.heap[w.heap.size+1+1]?=some (.cells #[.slice none 0 0,.slice none 0 0,.slice none 0 0,.slice none 0 0] 50 (0,0))
 rl:zcZ V A R
theorem DoI.below{w V E:World}{A:RA}{R:Rl}{x:Ac}(I:DoI w A R x V)(D:Below V.heap.size V E):DoI w A R x E:=⟨I.bel.trans (D.mono I.bel.size),zaA I.r D,zaA I.x D,zaA I.z D,I.rl.below D⟩
theorem zgM(w:World)(A:RA)(R:Rl)(x:Ac)(h:zcZ w A R):DoI w A R x (((w.alloc (.cells #[.slice A.a0 R.s.length A.c0,.slice A.a1 R.hs.length A.c1,.slice A.a2 R.i.length A.c2,.slice A.a3 R.t.length A.c3] 50)).alloc (.cells #[.int .i64 x.k,.int .i64 x.a,.int .i64 x.b,.int .i64 x.c,.int .i64 x.n] 36)).alloc (.cells #[.slice none 0 0,.slice none 0 0,.slice none 0 0,.slice none 0 0] 50)):=by
 have I:=zaa w (.cells #[.slice A.a0 R.s.length A.c0,.slice A.a1 R.hs.length A.c1,.slice A.a2 R.i.length A.c2,.slice A.a3 R.t.length A.c3] 50);obtain⟨D,h1⟩:∃ D,w.alloc (.cells #[.slice A.a0 R.s.length A.c0,.slice A.a1 R.hs.length A.c1,.slice A.a2 R.i.length A.c2,.slice A.a3 R.t.length A.c3] 50)=D:=⟨_,rfl⟩;have T:=zcc w 50 (.slice A.a0 R.s.length A.c0) (.slice A.a1 R.hs.length A.c1) (.slice A.a2 R.i.length A.c2) (.slice A.a3 R.t.length A.c3);have s1:D.heap.size=w.heap.size+1:=by rw[<- h1];simp
 rw[h1] at I T |-;have E:=zaa D (.cells #[.int .i64 x.k,.int .i64 x.a,.int .i64 x.b,.int .i64 x.c,.int .i64 x.n] 36);have M:=yL D (.cells #[.int .i64 x.k,.int .i64 x.a,.int .i64 x.b,.int .i64 x.c,.int .i64 x.n] 36);obtain⟨F,O⟩:∃ F,D.alloc (.cells #[.int .i64 x.k,.int .i64 x.a,.int .i64 x.b,.int .i64 x.c,.int .i64 x.n] 36)=F:=⟨_,rfl⟩;have s2:F.heap.size=D.heap.size+1:=by rw[<- O];simp
 rw[O] at E M |-;have J:=zaa F (.cells #[.slice none 0 0,.slice none 0 0,.slice none 0 0,.slice none 0 0] 50);have U:=zcc F 50 (.slice none 0 0) (.slice none 0 0) (.slice none 0 0) (.slice none 0 0);rw[s2,s1] at U;rw[s1] at M;exact⟨I.trans ((E.trans (J.mono E.size)).mono I.size),zaA (zaA T E) J,zaA M J,U,((h.below I).below E).below J⟩
structure RlO (B:Nat) (V:World) (A:RA) (R:Rl):Prop where
 a3:A.a3=some ⟨tOf A,0,none⟩
 c3:A.c3=R.t.length
 t0:B<=tOf A
 tr:V.rowIs (tOf A) 3 R.t.length (zrU R)
 st:St (fun b=>b<B\/b=tOf A) (fun V=>zai V A.a0 R.s/\zas V A.a1 R.hs/\zaI V A.a2 R.i) V
theorem RlO.at{B:Nat}{V:World}{A:RA}{R:Rl}(h:RlO B V A R):zcZ V A R:=⟨h.st.at.1,h.st.at.2.1,h.st.at.2.2,by rw[h.a3];exact zgX h.tr⟩
theorem RlF.rlo{n B d:Nat}{V:World}{A:RA}{R:Rl}(h:RlF n d V A R)(hn:B<=n):RlO B V A R:=⟨h.a3,h.c3,yH hn h.t0,h.tr,h.st.less (fun b D=>by omega)⟩
theorem zyo(A:RA)(R:Rl)(x:Ac)(q:Rs)(w:World)(hR:zaF R=0)(hW:zcZ w A R)(ha:isH x.a)(hD:zku R x q) :
  yM 148 #[rlV A R,acV x] w fun e w' => ∃ B:RA,e=.returned (.tuple #[rlV B (if q.e=0 then q.r else zbE),.int .i64 (if q.e=0 then q.o else 0),.int .i64 q.e])/\Below w.heap.size w w' /\ zcZ w' B (if q.e=0 then q.r else zbE)/\(q.e=0->RlO w.heap.size w' B (if q.e=0 then q.r else zbE)):=by
 have hl:=(zaB hR).2.1;have D0:Hid (∀ W,zcZ W A R->Calls _ _ _ _ _):=fun W hW=>zeo A R W (zdU hR) hW;rw[hR] at D0;have D1:Hid (∀ W,Calls _ _ _ _ _):=fun W=>zcF A R x.a W hl;rw[show decide (isH x.a)=true from yG ha] at D1;have D2:Hid (zku R x q):=hD;have D3:Hid (∀ W,zcZ W A R->Calls _ _ _ _ _):=fun W hW=>zkF A R W hR hW;have I0:Hid _:=zgM w A R x hW;have b4:Hid (∀ (W V:World) (h g:Nat) (B:RA),CI W R h g B V->_):=fun W V h g B I=>CI.wi I;have b7:Hid (∀ (V V' : World) (B:RA) (n d:Nat),RlF n d V B q.r->w.heap.size<=n->zaq (fun b=>b<n\/b=d) V V' -> RlO w.heap.size V' B q.r):=fun V V' B n d h1 h2 h3=>(h1.off h3).rlo h2;clear hW ha hD hR hl;obtain⟨xk,xa,xb,xc,xn⟩:=x;obtain⟨a0,a1,a2,a3,c0,c1,c2,c3⟩:=A;obtain⟨qe,D,qo⟩:=q;dsimp only[rlV,acV,zku] at *;obtain⟨RR,a6⟩:∃ RR:Rl,(if qe=0 then D else zbE)=RR:=⟨_,rfl⟩;have J:Hid (_=RR):=a6;obtain⟨OO,a5⟩:∃ OO:Int,(if qe=0 then qo else 0)=OO:=⟨_,rfl⟩;have F:Hid (_=OO):=a5;rw[a6,a5];clear a6 a5
 go_enter Tryz.func148,Tryz.ntmps148
 go_wp2_with fail
 refine ye (D0.out _ I0.out.rl) ?_;rintro e V1 ⟨rfl,E⟩;have I1:Hid _:=I0.out.below E;clear E D0 I0;obtain⟨U,r1,r2,r3,Z,rl⟩:=zak I1.out.r;obtain⟨z0,z1,z2,z3,zf,zl⟩:=zak I1.out.z;obtain⟨y0,y1,y2,y3,y4,yl⟩:=zau I1.out.x
 go_wp2_with fail
 refine ye (D1.out _) ?_;rintro e V2 ⟨rfl,E⟩;have I2:Hid _:=I1.out.below E;clear U r1 r2 r3 Z rl z0 z1 z2 z3 zf zl y0 y1 y2 y3 y4 yl;clear E D1 I1;obtain⟨U,r1,r2,r3,Z,rl⟩:=zak I2.out.r;obtain⟨z0,z1,z2,z3,zf,zl⟩:=zak I2.out.z;obtain⟨y0,y1,y2,y3,y4,yl⟩:=zau I2.out.x
 go_wp2_with fail
 refine ye (D2.out _) ?_;rintro e V3 ⟨K,O,rfl,E,eg,b5⟩;have M:Hid _:=I2.out.below E;have ZL:Hid (w.heap.size+1+1<V3.heap.size):=zaw M.out.z;have b8:∀ w:World,(binOp BinOp.eql 209 (Value.func (Fn.func K) #[] O) Value.nilFunc).run Tryz.prog w=.ok (.bool false) w:=fun _=>by kernel_rfl
 have HD:Hid (zmh K O V3 R ⟨xk,xa,xb,xc,xn⟩ ⟨qe,D,qo⟩):=b5 V3 (yk _ _);clear U r1 r2 r3 Z rl z0 z1 z2 z3 zf zl y0 y1 y2 y3 y4 yl;clear E D2 I2 b5;obtain⟨U,r1,r2,r3,Z,rl⟩:=zak M.out.r;obtain⟨z0,z1,z2,z3,zf,zl⟩:=zak M.out.z;obtain⟨y0,y1,y2,y3,y4,yl⟩:=zau M.out.x
 go_wp2_with fail
 refine ye (D3.out _ M.out.rl) ?_;rintro e V4 ⟨⟨b0,b1,b2,b3,d0,d1,d2,d3⟩,h,g,rfl,a8⟩;have I4:Hid _:=M.out.below a8.bel;have W4:Hid _:=b4.out _ _ _ _ _ a8;clear U r1 r2 r3 Z rl z0 z1 z2 z3 zf zl y0 y1 y2 y3 y4 yl;clear D3 a8 b4;obtain⟨U,r1,r2,r3,Z,rl⟩:=zak I4.out.r;obtain⟨z0,z1,z2,z3,zf,zl⟩:=zak I4.out.z;obtain⟨y0,y1,y2,y3,y4,yl⟩:=zau I4.out.x
 go_wp2_with fail
 refine ye (HD.out _ _ _ _ _ W4.out) ?_;rintro e V5 ⟨o,rfl,E,hq⟩;have I5:Hid _:=M.out.below E;clear U r1 r2 r3 Z rl z0 z1 z2 z3 zf zl y0 y1 y2 y3 y4 yl;clear W4 I4 HD E M;obtain⟨U,r1,r2,r3,Z,rl⟩:=zak I5.out.r;obtain⟨z0,z1,z2,z3,zf,zl⟩:=zak I5.out.z;obtain⟨y0,y1,y2,y3,y4,yl⟩:=zau I5.out.x;by_cases hE:qe=0
 ·subst hE;obtain rfl:D=RR:=(yb rfl).symm.trans J.out;obtain rfl:qo=OO:=(yb rfl).symm.trans F.out;obtain⟨rfl,⟨e0,e1,e2,e3,f0,f1,f2,f3⟩,a7,a9⟩:=hq rfl;dsimp only at a7 a9;have b6:Hid _:=a9;obtain⟨s0,s1,s2,s3,sf,sl⟩:=zak a7;clear a7 hq a9 J F;dsimp only at s0 s1 s2 s3
  go_wp2
  obtain⟨X,T⟩:∃ X,(((V5.setCell ⟨w.heap.size+1+1,0,none⟩ (.slice e0 D.s.length f0)).setCell ⟨w.heap.size+1+1,1,none⟩ (.slice e1 D.hs.length f1)).setCell ⟨w.heap.size+1+1,2,none⟩ (.slice e2 D.i.length f2)).setCell ⟨w.heap.size+1+1,3,none⟩ (.slice e3 D.t.length f3)=X:=⟨_,rfl⟩;have x0:X.heap[w.heap.size+1+1]?=some (.cells #[.slice e0 D.s.length f0,.slice e1 D.hs.length f1,.slice e2 D.i.length f2,.slice e3 D.t.length f3] 50 (0,0)):=by rw[<- T];exact zcL I5.out.z
  have xb:Below w.heap.size w X:=by rw[<- T];exact(((I5.out.bel.setCell (by simp;omega) _).setCell (by simp;omega) _).setCell (by simp;omega) _).setCell (by simp;omega) _
  have xr:RlO w.heap.size X ⟨e0,e1,e2,e3,f0,f1,f2,f3⟩ D:=by rw[<- T];exact b7.out V5 _ _ _ _ b6.out (by have:=ZL.out;omega) ((((zaq.set _ _ (Or.inl ZL.out)).trans (zaq.set _ _ (Or.inl ZL.out))).trans (zaq.set _ _ (Or.inl ZL.out))).trans (zaq.set _ _ (Or.inl ZL.out)))
  rw[T];obtain⟨m0,m1,m2,m3,mf,ml⟩:=zak x0;exact yw (v:=.tuple #[.agg #[.slice e0 D.s.length f0,.slice e1 D.hs.length f1,.slice e2 D.i.length f2,.slice e3 D.t.length f3],.int .i64 o,.int .i64 0]) (by simp[results,Tryz.results148,go_sem,m0,m1,m2,m3]) rfl ⟨⟨e0,e1,e2,e3,f0,f1,f2,f3⟩,rfl,xb,xr.at,xr⟩
 ·obtain rfl:zbE=RR:=(ya hE).symm.trans J.out;obtain rfl:(0:Int)=OO:=(ya hE).symm.trans F.out;have hz:(qe == 0)=false:=by simp[hE]
  clear hq J F;dsimp only
  go_wp2
  obtain⟨X,T⟩:∃ X,(((V5.setCell ⟨w.heap.size+1+1,0,none⟩ (.slice none 0 0)).setCell ⟨w.heap.size+1+1,1,none⟩ (.slice none 0 0)).setCell ⟨w.heap.size+1+1,2,none⟩ (.slice none 0 0)).setCell ⟨w.heap.size+1+1,3,none⟩ (.slice none 0 0)=X:=⟨_,rfl⟩;have x0:X.heap[w.heap.size+1+1]?=some (.cells #[.slice none 0 0,.slice none 0 0,.slice none 0 0,.slice none 0 0] 50 (0,0)):=by rw[<- T];exact zcL I5.out.z
  have xb:Below w.heap.size w X:=by rw[<- T];exact(((I5.out.bel.setCell (by simp;omega) _).setCell (by simp;omega) _).setCell (by simp;omega) _).setCell (by simp;omega) _
  rw[T];obtain⟨m0,m1,m2,m3,mf,ml⟩:=zak x0;exact yw (v:=.tuple #[.agg #[.slice none 0 0,.slice none 0 0,.slice none 0 0,.slice none 0 0],.int .i64 0,.int .i64 qe]) (by simp[results,Tryz.results148,go_sem,m0,m1,m2,m3]) rfl ⟨⟨none,none,none,none,0,0,0,0⟩,rfl,xb,zjF _ _⟩
theorem zfF(w:World)(t:Nat)(D v1 v2 E F:Value):(w.alloc (.cells #[D,v1,v2,E,F] t)).heap[w.heap.size]?=some (.cells #[D,v1,v2,E,F] t (0,0)):=yL _ _
theorem zzM{a b c d e f:Int}:zan [a,b,c,d,e,f]=if a=0 then (if b=0 then (if c=0 then (if d=0 then (if e=0 then (if f=0 then 0 else f) else e) else d) else c) else b) else a:=rfl
theorem zBc(e:Int):(if e=0 then 0 else e)=e:=by
 split
 ·omega
 ·rfl
theorem zlc:zsi:=fun A W w hB hC hW=>by
 obtain⟨a0,a1,a2,a3,a4,c0,c1,c2,c3,c4⟩:=A;obtain⟨fs,rs,ps,qs,pt⟩:=W;obtain⟨b4,⟨b5,a6⟩,⟨b6,b1⟩,⟨b7,M⟩,b8,a7⟩:=hB;dsimp only[wlV] at b4 b5 a6 b6 b1 b7 M b8 a7 |-;have D0:Hid (∀ V,Below w.heap.size w V->Calls _ _ _ _ _):=fun V hV=>zdZ a0 c0 fs V b4 (hW.fs.below hV)
 have D1:Hid (∀ V,Below w.heap.size w V->yM 31 #[.slice a1 rs.length c1,.func (.func 32) #[] #[]] V fun e w' => e=.returned (.int .i64 (zcK rs))/\Below V.heap.size V w'):=fun V hV=>by
  obtain⟨f,hf⟩:=ziN (hW.rs.below hV);have e:zcK rs=zan ((List.range rs.length).map fun i=>zaF (rl rs i)):=by unfold rl;rw[zgZ,zin]
  rw[e];exact zsE 32 #[] (yK Tryz.func32 (by kernel_rfl) rfl) a1 c1 rs.length (fun i=>⟨(f i).a0,(rl rs i).s.length,(f i).c0,(f i).a1,(rl rs i).hs.length,(f i).c1,(f i).a2,(rl rs i).i.length,(f i).c2,(f i).a3,(rl rs i).t.length,(f i).c3⟩) (fun i=>zaF (rl rs i)) V b5 (fun i hi=>(hf i hi).1) (fun i hi U hU=>zeo (f i) (rl rs i) U (a6 i hi) ((hf i hi).2.below hU))
 have D2:Hid (∀ V,Below w.heap.size w V->yM 33 #[.slice a2 ps.length c2,.func (.func 34) #[] #[]] V fun e w' => e=.returned (.int .i64 (zem ps))/\Below V.heap.size V w'):=fun V hV=>by
  obtain⟨f,hf⟩:=ziL (hW.ps.below hV);have e:zem ps=zan ((List.range ps.length).map fun i=>zoU (pg ps i)):=by unfold pg;rw[zgZ,zjz]
  rw[e];exact zsC 34 #[] (yK Tryz.func34 (by kernel_rfl) rfl) a2 c2 ps.length (fun i=>⟨(f i).1,(pg ps i).length,(f i).2⟩) (fun i=>zoU (pg ps i)) V b6 (fun i hi=>(hf i hi).1) (fun i hi U hU=>zyS _ _ _ U)
 have DM:Hid (∀ V,Calls _ _ _ _ _):=fun V=>zuA (fs.length:Int) V
 have D3:Hid (∀ V cb cc,Below w.heap.size w V->V.cell? ⟨cb,0,none⟩=some (.int .i64 (fs.length:Int))->V.cell? ⟨cc,0,none⟩=some (.func (.func 65) #[] #[.pointer (some ⟨cb,0,none⟩)])->yM 35 #[.slice a3 qs.length c3,.func (.func 67) #[] #[.pointer (some ⟨cc,0,none⟩)]] V fun e w' => e=.returned (.int .i64 (zcJ fs.length qs))/\Below V.heap.size V w'):=fun V cb cc hV a9 b0=>by
  obtain⟨f,hf⟩:=ziM (hW.qs.below hV);have e:zcJ fs.length qs=zan ((List.range qs.length).map fun i=>zbT fs.length (qu qs i)):=by unfold qu;rw[zgZ,zil]
  rw[e];exact zsD 67 #[.pointer (some ⟨cc,0,none⟩)] (yK Tryz.func67 (by kernel_rfl) rfl) a3 c3 qs.length (fun i=>⟨(f i).1,(qu qs i).length,(f i).2⟩) (fun i=>zbT fs.length (qu qs i)) V b7 (fun i hi=>(hf i hi).1) (fun i hi U hU=>zwW (qu qs i) _ _ fs.length cb cc U b4 (zab a9 hU) (zab b0 hU) (M i hi).1 (M i hi).2 ((hf i hi).2.below hU))
 have D4:Hid (∀ V,Below w.heap.size w V->Calls _ _ _ _ _):=fun V hV=>zhL a4 c4 pt (fs.length:Int) V b8 a7 hC.s4 (hW.pt.below hV)
 have E:zbH ⟨fs,rs,ps,qs,pt⟩=if zaN fs=0 then (if (if rs.length=fs.length/\ps.length=fs.length/\qs.length=fs.length then (0:Int) else 3)=0 then (if zcK rs=0 then (if zem ps=0 then (if zcJ fs.length qs=0 then zba pt fs.length else zcJ fs.length qs) else zem ps) else zcK rs) else (if rs.length=fs.length/\ps.length=fs.length/\qs.length=fs.length then (0:Int) else 3)) else zaN fs:=by
  unfold zbH;rw[zzM,zBc]
 rw[E];clear E hC hW a6 b1 M a7;generalize zaN fs=E0 at *;generalize zcK rs=E1 at *;generalize zem ps=E2 at *;generalize zcJ fs.length qs=E3 at *;generalize zba pt fs.length=E4 at *;generalize fs.length=T at *;generalize rs.length=Z at *;generalize ps.length=O at *;generalize qs.length=J at *;generalize pt.length=nt at *;obtain⟨F,hF⟩:∃ F:Int,(if E0=0 then (if (if Z=T/\O=T/\J=T then (0:Int) else 3)=0 then (if E1=0 then (if E2=0 then (if E3=0 then E4 else E3) else E2) else E1) else (if Z=T/\O=T/\J=T then (0:Int) else 3)) else E0)=F:=⟨_,rfl⟩;have I:Hid (_=F):=hF;rw[hF];clear hF
 go_enter Tryz.func10,Tryz.ntmps10
 go_wp2_with fail
 refine ye (D0.out _ (zaa _ _)) ?_;rintro e V0 ⟨rfl,D⟩;have BV:Hid (Below w.heap.size w V0):=(zaa _ _).trans (D.mono (by simp));have X0:Hid _:=zaA (zfF w 28 (.slice a0 T c0) (.slice a1 Z c1) (.slice a2 O c2) (.slice a3 J c3) (.slice a4 nt c4)) D;clear D D0;obtain⟨l0,l1,l2,l3,l4,ll⟩:=zau X0.out;by_cases e0:E0=0;rotate_left
 ·rw[ya e0] at I;have hz:(E0 == 0)=false:=by simp[e0]
  go_wp2
  go_ret;exact⟨by rw[<- I.out];rfl,BV.out⟩
 subst e0;rw[yb rfl] at I;by_cases h1:Z=T;rotate_left
 ·rw[show (if Z=T/\O=T/\J=T then (0:Int) else 3)=3 from ya (fun h=>h1 h.1),ya (by decide)] at I;have hz:((Z:Int) ==(T:Int))=false:=by simp;omega
  go_wp2
  go_ret;exact⟨by rw[<- I.out];rfl,BV.out⟩
 subst h1;by_cases h2:O=Z;rotate_left
 ·rw[show (if Z=Z/\O=Z/\J=Z then (0:Int) else 3)=3 from ya (fun h=>h2 h.2.1),ya (by decide)] at I;have hz:((O:Int) ==(Z:Int))=false:=by simp;omega
  go_wp2
  go_ret;exact⟨by rw[<- I.out];rfl,BV.out⟩
 subst h2;by_cases h3:J=O;rotate_left
 ·rw[show (if O=O/\O=O/\J=O then (0:Int) else 3)=3 from ya (fun h=>h3 h.2.2),ya (by decide)] at I;have hz:((J:Int) ==(O:Int))=false:=by simp;omega
  go_wp2
  go_ret;exact⟨by rw[<- I.out];rfl,BV.out⟩
 subst h3;rw[show (if J=J/\J=J/\J=J then (0:Int) else 3)=0 from yb ⟨rfl,rfl,rfl⟩,yb rfl] at I
 go_wp2_with fail
 refine ye (D1.out _ BV.out) ?_;rintro e V1 ⟨rfl,D⟩;have a5:Hid (Below w.heap.size w V1):=BV.out.trans (D.mono BV.out.size);have X1:Hid _:=zaA X0.out D;clear D D1 l0 l1 l2 l3 l4 ll X0;obtain⟨l0,l1,l2,l3,l4,ll⟩:=zau X1.out;by_cases e1:E1=0;rotate_left
 ·rw[ya e1] at I;have hz:(E1 == 0)=false:=by simp[e1]
  go_wp2
  go_ret;exact⟨by rw[<- I.out];rfl,a5.out⟩
 subst e1;rw[yb rfl] at I
 go_wp2_with fail
 refine ye (D2.out _ a5.out) ?_;rintro e V2 ⟨rfl,D⟩;have b2:Hid (Below w.heap.size w V2):=a5.out.trans (D.mono a5.out.size);have X2:Hid _:=zaA X1.out D;clear D D2 l0 l1 l2 l3 l4 ll X1 a5 BV;obtain⟨l0,l1,l2,l3,l4,ll⟩:=zau X2.out;by_cases e2:E2=0;rotate_left
 ·rw[ya e2] at I;have hz:(E2 == 0)=false:=by simp[e2]
  go_wp2
  go_ret;exact⟨by rw[<- I.out];rfl,b2.out⟩
 subst e2;rw[yb rfl] at I
 go_wp2_with fail
 go_region_held3 (fun c6=>c6.cell? ⟨w.heap.size,3,none⟩=some (.slice a3 J c3)) (go_keep) (first|(go_at_call 36;refine ye (DM.out V2.drew) ?_;rintro e V3 ⟨cb,cc,rfl,D,a9,b0⟩;have b3:Hid (Below w.heap.size w V3):=b2.out.drew.trans (D.mono b2.out.size);have X3:Hid _:=zaA (W:=V2.drew) X2.out D;have CB:Hid _:=a9;have CC:Hid _:=b0;clear D a9 b0;obtain⟨m0,m1,m2,m3,m4,mm⟩:=zau X3.out)|(go_at_call 35;refine ye (D3.out V3 cb cc b3.out CB.out CC.out) ?_;rintro e V4 ⟨rfl,D⟩;have a8:Hid (Below w.heap.size w V4):=b3.out.trans (D.mono b3.out.size);have X4:Hid _:=zaA X3.out D;clear D;obtain⟨n0,n1,n2,n3,n4,nn⟩:=zau X4.out))
 clear l0 l1 l2 l3 l4 ll m0 m1 m2 m3 m4 mm D3 DM;by_cases e3:E3=0;rotate_left
 ·rw[ya e3] at I;have hz:(E3 == 0)=false:=by simp[e3]
  go_wp2
  go_ret;exact⟨by rw[<- I.out];rfl,a8.out⟩
 subst e3;rw[yb rfl] at I
 go_wp2_with (go_at_call 37;refine ye (D4.out _ a8.out) ?_;rintro e V5 ⟨rfl,D⟩;have b9:Hid (Below w.heap.size w V5):=a8.out.trans (D.mono a8.out.size);clear D)
 go_ret;exact⟨by rw[<- I.out];rfl,b9.out⟩
theorem zwn(w:World)(R:Rl)(x:Ac)(wf:WF R.s)(hl:R.hs.length=16)(ha:isH x.a)(b0:isH x.b)(b9:x.c<0):zmh 177 #[] w R x (zdK R (hd R x.a) (hd R x.b) []):=fun d h g A V I=>by
 unfold zdK;rw[zlk];obtain⟨J,a5⟩:∃ l:List (Int × Int),[]=l:=⟨_,rfl⟩;have hm:J.length<=1:=by rw[<- a5];decide
 have h0:J.length=0:=by rw[<- a5];rfl
 rw[a5];obtain⟨a0,a1,a2,a3,c0,c1,c2,c3⟩:=A;obtain rfl:a0=some ⟨g,0,none⟩:=I.a0;obtain rfl:a1=some ⟨h,0,none⟩:=I.a1;obtain⟨xk,xa,xb,xc,xn⟩:=x;obtain⟨p,hp,c6⟩:=zmk ha;dsimp only at hp;subst hp;obtain⟨u0,u1⟩:=I.hand (k:=p) (by omega);obtain⟨r,hr,c7⟩:=zmk b0;dsimp only at hr;subst hr;obtain⟨v0,v1⟩:=I.hand (k:=r) (by omega);have II:Hid (WI w R d h g _ V):=I;obtain⟨l0,l1,l2,l3,fz,lt⟩:=zak I.box;dsimp only at l0 l1 l2 l3;rw[hl] at l1;have d4:d<V.heap.size:=lt;have d5:h<V.heap.size:=yd _ _ u0;have d6:(p:Int)<16:=by omega
 have d7:(r:Int)<16:=by omega
 show yM _ #[.pointer (some ⟨d,0,none⟩),.agg #[.int .i64 xk,.int .i64 p,.int .i64 r,.int .i64 xc,.int .i64 xn]] V _;obtain⟨ns,a9⟩:∃ n,R.s.length=n:=⟨_,rfl⟩;have c8:Hid (R.s.length=ns):=a9;have D:Hid (∀ (ha:Option Addr) (hc:Nat) W,Below V.heap.size V W->zas W ha J->yM 192 #[.agg #[.slice (some ⟨g,0,none⟩) R.s.length c0],.agg #[.int .i64 (hd R (p:Int)).1,.int .i64 (hd R (p:Int)).2],.agg #[.int .i64 (hd R (r:Int)).1,.int .i64 (hd R (r:Int)).2],.slice ha J.length hc] W fun e w' => ∃ a' c', e=.returned (.tuple #[.agg #[.slice a' (rS (zjX R.s (hd R (p:Int)).1 (hd R (p:Int)).2 (hd R (r:Int)).1 (hd R (r:Int)).2 J) (zpD R.s (hd R (p:Int)).1 (hd R (r:Int)).1 J)).length c'],.int .i64 (zjX R.s (hd R (p:Int)).1 (hd R (p:Int)).2 (hd R (r:Int)).1 (hd R (r:Int)).2 J)])/\Below W.heap.size W w' /\ St (fun b=>b<W.heap.size) (fun V=>zai V a' (rS (zjX R.s (hd R (p:Int)).1 (hd R (p:Int)).2 (hd R (r:Int)).1 (hd R (r:Int)).2 J) (zpD R.s (hd R (p:Int)).1 (hd R (r:Int)).1 J))) w'):=fun ha hc W hW hH=>zkL R.s _ _ J ha hc wf hm (some ⟨g,0,none⟩) c0 W (I.nds.below hW) hH;clear ha b0 hl;generalize hd R (p:Int)=hA at *;obtain⟨P,U⟩:=hA;generalize hd R (r:Int)=hB at *;obtain⟨P2,U2⟩:=hB;dsimp only at u0 u1 v0 v1 D |-;obtain⟨E,hE⟩:∃ E,zjX R.s P U P2 U2 J=E:=⟨_,rfl⟩;obtain⟨T,hT⟩:∃ T,zpD R.s P P2 J=T:=⟨_,rfl⟩;rw[hE,hT] at D;rw[hE,hT];clear hE hT;rw[a9] at D l0;clear a9 I hm;have HH:Hid (∀ W:World,zas W none J):=fun W i hi=>by omega
 rw[h0] at D;clear h0 a5;dsimp only at b9
 go_enter Tryz.func177,Tryz.ntmps177
 go_upto_region 6 with fail
 obtain⟨F,O⟩:∃ F,V.alloc (.cells #[.int .i64 xk,.int .i64 p,.int .i64 r,.int .i64 xc,.int .i64 xn] 36)=F:=⟨_,rfl⟩;have BV:Hid (Below V.heap.size V F):=by rw[<- O];exact zaa _ _
 have y0:F.cell? ⟨V.heap.size,0,none⟩=some (.int .i64 xk):=by rw[<- O];exact zad _ _ _ 0 rfl
 have y1:F.cell? ⟨V.heap.size,1,none⟩=some (.int .i64 p):=by rw[<- O];exact zad _ _ _ 1 rfl
 have y2:F.cell? ⟨V.heap.size,2,none⟩=some (.int .i64 r):=by rw[<- O];exact zad _ _ _ 2 rfl
 have y3:F.cell? ⟨V.heap.size,3,none⟩=some (.int .i64 xc):=by rw[<- O];exact zad _ _ _ 3 rfl
 have y4:F.cell? ⟨V.heap.size,4,none⟩=some (.int .i64 xn):=by rw[<- O];exact zad _ _ _ 4 rfl
 have sV:V.heap.size<F.heap.size:=yd _ _ y0;rw[O];clear O;replace u0:=zab u0 BV.out;replace u1:=zab u1 BV.out;replace l0:=zab l0 BV.out;replace l1:=zab l1 BV.out;replace l2:=zab l2 BV.out;replace l3:=zab l3 BV.out;have n0:¬ F.heap.size=d:=by omega
 have o0:¬ d=F.heap.size:=by omega
 have n1:¬ F.heap.size=h:=by omega
 have o1:¬ h=F.heap.size:=by omega
 have n2:¬ F.heap.size=V.heap.size:=by omega
 have o2:¬ V.heap.size=F.heap.size:=by omega
 have d8:d<F.heap.size:=by omega
 have d9:h<F.heap.size:=by omega
 clear fz lt;replace v0:=zab v0 BV.out;replace v1:=zab v1 BV.out
 go_cut [7,8] (fun s7 s8 wx=>∃ (b:Nat) (a' : Option Addr) (c' : Nat),s7=.pointer (some ⟨b,0,none⟩)/\s8=.int .i64 E/\Hid (Below F.heap.size F wx)/\Hid (St (fun b=>b<F.heap.size) (fun V=>zai V a' (rS E T)) wx)/\wx.cell? ⟨b,0,none⟩=some (.slice a' (rS E T).length c')/\F.heap.size<=b)
 case first =>
  go_region_held3 (fun Z=>Z.cell? ⟨d,0,none⟩=some (.slice (some ⟨g,0,none⟩) ns c0)/\Z.cell? ⟨d,1,none⟩=some (.slice (some ⟨h,0,none⟩) 16 c1)/\Z.cell? ⟨h,p*2,none⟩=some (.int .i64 P)/\Z.cell? ⟨h,p*2+1,none⟩=some (.int .i64 U)/\Z.cell? ⟨h,r*2,none⟩=some (.int .i64 P2)/\Z.cell? ⟨h,r*2+1,none⟩=some (.int .i64 U2)/\Z.cell? ⟨V.heap.size,1,none⟩=some (.int .i64 p)/\Z.cell? ⟨V.heap.size,2,none⟩=some (.int .i64 r)) (go_keep) (first|(go_at_call 192;refine ye (D.out none 0 F.drew BV.out.drew ((HH.out F).below (yk _ _).drew)) ?_;rintro e w3 ⟨a', c', rfl,a6,a7⟩;have M:Hid (Below F.heap.size F w3):=(yk _ _).drew.trans a6;have N3:Hid (St (fun b=>b<F.heap.size) (fun V=>zai V a' (rS E T)) w3):=a7;have b1:=zab l0 M.out;have b2:=zab l1 M.out;have b3:=zab u0 M.out;have b4:=zab u1 M.out;have b5:=zab v0 M.out;have b6:=zab v1 M.out;have b7:=zab y1 M.out;have b8:=zab y2 M.out;clear a6 a7)|(go_at_call 192;refine ye (D.out none 0 (F.alloc (.cells #[.slice none 0 0] 43)).drew (BV.out.trans ((zaa F _).mono BV.out.size)).drew ((HH.out F).below (zaa F _).drew)) ?_;rintro e w3 ⟨a', c', rfl,a6,a7⟩;have M:Hid (Below F.heap.size F w3):=(zaa F _).drew.trans (a6.mono (by simp));have N3:Hid (St (fun b=>b<F.heap.size+1) (fun V=>zai V a' (rS E T)) w3):=(by have h:=a7;simp only[yr,World.size_drew] at h;exact h);have b1:=zab l0 M.out;have b2:=zab l1 M.out;have b3:=zab u0 M.out;have b4:=zab u1 M.out;have b5:=zab v0 M.out;have b6:=zab v1 M.out;have b7:=zab y1 M.out;have b8:=zab y2 M.out;have X3:Hid (w3.heap[F.heap.size]?=some (.cells #[.slice none 0 0] 43 (0,0))):=zaA (W:=(F.alloc (.cells #[.slice none 0 0] 43)).drew) (yL F _) a6;have x3:=zaJ X3.out;have xf:=zaW (o:=0) X3.out;have xl:F.heap.size<w3.heap.size:=zaw X3.out;clear a6 a7))
  ·go_wp2_with fail
   go_meet
   case rel=>exact⟨_,_,_,rfl,rfl,zBh _ _ (yk F.heap.size F) M.out N3.out⟩
  ·go_wp2_with fail
   go_meet
   case rel=>exact⟨_,_,_,rfl,rfl,zBi _ (yk F.heap.size F) M.out N3.out X3.out⟩
 case rest =>
  obtain⟨b,a', c', rfl,rfl,HB,HN,a8,c9⟩:=hcut;have I2:Hid _:=II.out.below (BV.out.trans (HB.out.mono BV.out.size));have HS:Hid _:=I2.out.store c' HN.out (by have h1:=II.out.base;have h2:=BV.out.size;omega);obtain⟨m0,m1,m2,m3,mf,ml⟩:=zak I2.out.box;have bl:b<wc.heap.size:=yd _ _ a8;have e0:¬ b=d:=by omega
  clear II D u0 u1 v0 v1 l0 l1 y1 y2
  go_wp2
  refine yw (v:=.tuple #[.int .i64 0,.int .i64 E]) (by simp[results,Tryz.results177,go_sem]) rfl ⟨0,rfl,HS.out.1,fun hE=>?_⟩;rw[zlj hE];have h2:=HS.out.2;rw[hE,zhQ] at h2;rw[hE,zhQ];exact⟨rfl,_,h2⟩
theorem ztw(w:World)(R:Rl)(x:Ac)(wf:WF R.s)(hl:R.hs.length=16)(ha:isH x.a)(a6:isH x.b)(a7:¬ x.c<0)(a8:¬ isH x.c):zmh 177 #[] w R x (bad 4):=fun d h g A V I=>by
 rw[(znV 4).2.2];obtain⟨a0,a1,a2,a3,c0,c1,c2,c3⟩:=A;obtain rfl:a0=some ⟨g,0,none⟩:=I.a0;obtain rfl:a1=some ⟨h,0,none⟩:=I.a1;obtain⟨xk,xa,xb,Z,xn⟩:=x;obtain⟨p,hp,a9⟩:=zmk ha;dsimp only at hp;subst hp;obtain⟨u0,u1⟩:=I.hand (k:=p) (by omega);obtain⟨r,hr,b0⟩:=zmk a6;dsimp only at hr;subst hr;obtain⟨v0,v1⟩:=I.hand (k:=r) (by omega);have II:Hid (WI w R d h g _ V):=I;obtain⟨l0,l1,l2,l3,fz,lt⟩:=zak I.box;dsimp only at l0 l1 l2 l3;rw[hl] at l1;have b8:d<V.heap.size:=lt;have b9:h<V.heap.size:=yd _ _ u0;have c6:(p:Int)<16:=by omega
 have c7:(r:Int)<16:=by omega
 show yM _ #[.pointer (some ⟨d,0,none⟩),.agg #[.int .i64 xk,.int .i64 p,.int .i64 r,.int .i64 Z,.int .i64 xn]] V _;obtain⟨ns,J⟩:∃ n,R.s.length=n:=⟨_,rfl⟩;have b1:Hid (R.s.length=ns):=J;have DH:Hid (∀ W,Calls _ _ _ _ _):=fun W=>zcF ⟨some ⟨g,0,none⟩,some ⟨h,0,none⟩,a2,a3,c0,c1,c2,c3⟩ R Z W hl;dsimp only[rlV] at DH;rw[hl] at DH;rw[yF a8] at DH;obtain⟨ni,M⟩:∃ n,R.i.length=n:=⟨_,rfl⟩;obtain⟨nt,O⟩:∃ n,R.t.length=n:=⟨_,rfl⟩;rw[J,M,O] at DH;rw[M] at l2;rw[O] at l3;clear M O;rw[J] at l0;dsimp only at a7;have b7:0<=Z:=by omega
 clear ha a6 hl J I a8 a7 u0 u1 v0 v1 wf
 go_enter Tryz.func177,Tryz.ntmps177
 go_upto_region 3 with fail
 obtain⟨D,E⟩:∃ D,V.alloc (.cells #[.int .i64 xk,.int .i64 p,.int .i64 r,.int .i64 Z,.int .i64 xn] 36)=D:=⟨_,rfl⟩;have U:Hid (Below V.heap.size V D):=by rw[<- E];exact zaa _ _
 have y0:D.cell? ⟨V.heap.size,0,none⟩=some (.int .i64 xk):=by rw[<- E];exact zad _ _ _ 0 rfl
 have y1:D.cell? ⟨V.heap.size,1,none⟩=some (.int .i64 p):=by rw[<- E];exact zad _ _ _ 1 rfl
 have y2:D.cell? ⟨V.heap.size,2,none⟩=some (.int .i64 r):=by rw[<- E];exact zad _ _ _ 2 rfl
 have y3:D.cell? ⟨V.heap.size,3,none⟩=some (.int .i64 Z):=by rw[<- E];exact zad _ _ _ 3 rfl
 have y4:D.cell? ⟨V.heap.size,4,none⟩=some (.int .i64 xn):=by rw[<- E];exact zad _ _ _ 4 rfl
 have sV:V.heap.size<D.heap.size:=yd _ _ y0;rw[E];clear E;replace l0:=zab l0 U.out;replace l1:=zab l1 U.out;replace l2:=zab l2 U.out;replace l3:=zab l3 U.out;have n0:¬ D.heap.size=d:=by omega
 have o0:¬ d=D.heap.size:=by omega
 have n1:¬ D.heap.size=h:=by omega
 have o1:¬ h=D.heap.size:=by omega
 have n2:¬ D.heap.size=V.heap.size:=by omega
 have o2:¬ V.heap.size=D.heap.size:=by omega
 have c8:d<D.heap.size:=by omega
 have c9:h<D.heap.size:=by omega
 clear fz lt
 go_region_held3 (fun F=>F.cell? ⟨d,0,none⟩=some (.slice (some ⟨g,0,none⟩) ns c0)/\F.cell? ⟨d,1,none⟩=some (.slice (some ⟨h,0,none⟩) 16 c1)/\F.cell? ⟨d,2,none⟩=some (.slice a2 ni c2)/\F.cell? ⟨d,3,none⟩=some (.slice a3 nt c3)/\F.cell? ⟨V.heap.size,3,none⟩=some (.int .i64 Z)) (go_keep) (first|(go_at_call 161;refine ye (DH.out D.drew) ?_;rintro e w2 ⟨rfl,a5⟩;have T:Hid (Below D.heap.size D w2):=(yk _ _).drew.trans a5;have b2:=zab l0 T.out;have b3:=zab l1 T.out;have b4:=zab l2 T.out;have b5:=zab l3 T.out;have b6:=zab y3 T.out;clear a5))
 have I2:Hid _:=II.out.below (U.out.trans (T.out.mono U.out.size))
 go_wp2
 refine yw (v:=.tuple #[.int .i64 0,.int .i64 4]) (by simp[results,Tryz.results177,go_sem]) rfl ?_
 first|exact⟨0,rfl,I2.out.bel,fun hE=>absurd hE (by decide)⟩|exact⟨⟨0,rfl⟩,I2.out.bel⟩
theorem zqN{W:World}{b:Nat}{x y:Int}(h0:W.cell? ⟨b,0,none⟩=some (.int .i64 x))(h1:W.cell? ⟨b,1,none⟩=some (.int .i64 y)):zas W (some ⟨b,0,none⟩) [(x,y)]:=fun i hi=>by
 obtain rfl:i=0:=by simpa using hi
 exact⟨b,0,rfl,h0,h1⟩
theorem zwo(w:World)(R:Rl)(x:Ac)(wf:WF R.s)(hl:R.hs.length=16)(ha:isH x.a)(c6:isH x.b)(b4:isH x.c):zmh 177 #[] w R x (zdK R (hd R x.a) (hd R x.b) [hd R x.c]):=fun d h g A V I=>by
 unfold zdK;rw[zlk];obtain⟨M,Z⟩:∃ l:List (Int × Int),[hd R x.c]=l:=⟨_,rfl⟩;have hm:M.length<=1:=by rw[<- Z];simp
 have h0:M.length=1:=by rw[<- Z];rfl
 rw[Z];obtain⟨a0,a1,a2,a3,c0,c1,c2,c3⟩:=A;obtain rfl:a0=some ⟨g,0,none⟩:=I.a0;obtain rfl:a1=some ⟨h,0,none⟩:=I.a1;obtain⟨xk,xa,xb,xc,xn⟩:=x;obtain⟨p,hp,e8⟩:=zmk ha;dsimp only at hp;subst hp;obtain⟨u0,u1⟩:=I.hand (k:=p) (by omega);obtain⟨r,hr,e9⟩:=zmk c6;dsimp only at hr;subst hr;obtain⟨v0,v1⟩:=I.hand (k:=r) (by omega);have II:Hid (WI w R d h g _ V):=I;obtain⟨l0,l1,l2,l3,fz,lt⟩:=zak I.box;dsimp only at l0 l1 l2 l3;rw[hl] at l1;have g9:d<V.heap.size:=lt;have h3:h<V.heap.size:=yd _ _ u0;have h4:(p:Int)<16:=by omega
 have h6:(r:Int)<16:=by omega
 obtain⟨s,hs,g0⟩:=zmk b4;dsimp only at hs;subst hs;dsimp only at Z;have b8:decide (isH (s:Int))=true:=yG b4;obtain⟨t0,t1⟩:=I.hand (k:=s) (by omega);have h7:(s:Int)<16:=by omega
 show yM _ #[.pointer (some ⟨d,0,none⟩),.agg #[.int .i64 xk,.int .i64 p,.int .i64 r,.int .i64 s,.int .i64 xn]] V _;obtain⟨ns,b0⟩:∃ n,R.s.length=n:=⟨_,rfl⟩;have g7:Hid (R.s.length=ns):=b0;have D:Hid (∀ (ha:Option Addr) (hc:Nat) W,Below V.heap.size V W->zas W ha M->yM 192 #[.agg #[.slice (some ⟨g,0,none⟩) R.s.length c0],.agg #[.int .i64 (hd R (p:Int)).1,.int .i64 (hd R (p:Int)).2],.agg #[.int .i64 (hd R (r:Int)).1,.int .i64 (hd R (r:Int)).2],.slice ha M.length hc] W fun e w' => ∃ a' c', e=.returned (.tuple #[.agg #[.slice a' (rS (zjX R.s (hd R (p:Int)).1 (hd R (p:Int)).2 (hd R (r:Int)).1 (hd R (r:Int)).2 M) (zpD R.s (hd R (p:Int)).1 (hd R (r:Int)).1 M)).length c'],.int .i64 (zjX R.s (hd R (p:Int)).1 (hd R (p:Int)).2 (hd R (r:Int)).1 (hd R (r:Int)).2 M)])/\Below W.heap.size W w' /\ St (fun b=>b<W.heap.size) (fun V=>zai V a' (rS (zjX R.s (hd R (p:Int)).1 (hd R (p:Int)).2 (hd R (r:Int)).1 (hd R (r:Int)).2 M) (zpD R.s (hd R (p:Int)).1 (hd R (r:Int)).1 M))) w'):=fun ha hc W hW hH=>zkL R.s _ _ M ha hc wf hm (some ⟨g,0,none⟩) c0 W (I.nds.below hW) hH;have DH:Hid (∀ W,Calls _ _ _ _ _):=fun W=>zcF ⟨some ⟨g,0,none⟩,some ⟨h,0,none⟩,a2,a3,c0,c1,c2,c3⟩ R (s:Int) W hl;dsimp only[rlV] at DH;rw[hl] at DH;rw[b8] at DH;obtain⟨ni,b5⟩:∃ n,R.i.length=n:=⟨_,rfl⟩;obtain⟨nt,b6⟩:∃ n,R.t.length=n:=⟨_,rfl⟩;rw[b0,b5,b6] at DH;rw[b5] at l2;rw[b6] at l3;clear b5 b6;have HH:Hid ([hd R (s:Int)]=M):=Z;clear b4 b8 Z;clear ha c6 hl;generalize hd R (p:Int)=hA at *;obtain⟨P,U⟩:=hA;generalize hd R (r:Int)=hB at *
 obtain⟨P2,U2⟩:=hB;dsimp only at u0 u1 v0 v1 D |-;obtain⟨E,hE⟩:∃ E,zjX R.s P U P2 U2 M=E:=⟨_,rfl⟩;obtain⟨T,hT⟩:∃ T,zpD R.s P P2 M=T:=⟨_,rfl⟩;rw[hE,hT] at D;rw[hE,hT];clear hE hT;rw[b0] at D l0;clear b0 I hm;rw[h0] at D;clear h0;generalize hd R (s:Int)=hC at *;obtain⟨P3,U3⟩:=hC;dsimp only at t0 t1
 go_enter Tryz.func177,Tryz.ntmps177
 go_upto_region 3 with fail
 obtain⟨O,a5⟩:∃ O,V.alloc (.cells #[.int .i64 xk,.int .i64 p,.int .i64 r,.int .i64 s,.int .i64 xn] 36)=O:=⟨_,rfl⟩;have BV:Hid (Below V.heap.size V O):=by rw[<- a5];exact zaa _ _
 have y0:O.cell? ⟨V.heap.size,0,none⟩=some (.int .i64 xk):=by rw[<- a5];exact zad _ _ _ 0 rfl
 have y1:O.cell? ⟨V.heap.size,1,none⟩=some (.int .i64 p):=by rw[<- a5];exact zad _ _ _ 1 rfl
 have y2:O.cell? ⟨V.heap.size,2,none⟩=some (.int .i64 r):=by rw[<- a5];exact zad _ _ _ 2 rfl
 have y3:O.cell? ⟨V.heap.size,3,none⟩=some (.int .i64 s):=by rw[<- a5];exact zad _ _ _ 3 rfl
 have y4:O.cell? ⟨V.heap.size,4,none⟩=some (.int .i64 xn):=by rw[<- a5];exact zad _ _ _ 4 rfl
 have sV:V.heap.size<O.heap.size:=yd _ _ y0;rw[a5];clear a5;replace u0:=zab u0 BV.out;replace u1:=zab u1 BV.out;replace l0:=zab l0 BV.out;replace l1:=zab l1 BV.out;replace l2:=zab l2 BV.out;replace l3:=zab l3 BV.out;have n0:¬ O.heap.size=d:=by omega
 have o0:¬ d=O.heap.size:=by omega
 have n1:¬ O.heap.size=h:=by omega
 have o1:¬ h=O.heap.size:=by omega
 have n2:¬ O.heap.size=V.heap.size:=by omega
 have o2:¬ V.heap.size=O.heap.size:=by omega
 have c7:d<O.heap.size:=by omega
 have c8:h<O.heap.size:=by omega
 clear fz lt;replace v0:=zab v0 BV.out;replace v1:=zab v1 BV.out;replace t0:=zab t0 BV.out;replace t1:=zab t1 BV.out
 go_region_held3 (fun F=>F.cell? ⟨d,0,none⟩=some (.slice (some ⟨g,0,none⟩) ns c0)/\F.cell? ⟨d,1,none⟩=some (.slice (some ⟨h,0,none⟩) 16 c1)/\F.cell? ⟨d,2,none⟩=some (.slice a2 ni c2)/\F.cell? ⟨d,3,none⟩=some (.slice a3 nt c3)/\F.cell? ⟨V.heap.size,3,none⟩=some (.int .i64 s)) (go_keep) (first|(go_at_call 161;refine ye (DH.out O.drew) ?_;rintro e w2 ⟨rfl,b9⟩;have B2:Hid (Below O.heap.size O w2):=(yk _ _).drew.trans b9;have b1:=zab l0 B2.out;have b2:=zab l1 B2.out;have c9:=zab l2 B2.out;have d4:=zab l3 B2.out;have e7:=zab y3 B2.out;clear b9))
 clear b1 b2 c9 d4 e7;replace l0:=zab l0 B2.out;replace l1:=zab l1 B2.out;replace u0:=zab u0 B2.out;replace u1:=zab u1 B2.out;replace v0:=zab v0 B2.out;replace v1:=zab v1 B2.out;replace t0:=zab t0 B2.out;replace t1:=zab t1 B2.out;replace y1:=zab y1 B2.out;replace y2:=zab y2 B2.out;replace y3:=zab y3 B2.out;have b7:Hid (Below V.heap.size V w2):=BV.out.trans (B2.out.mono BV.out.size);have s2:=B2.out.size;have g4:d<w2.heap.size:=by omega
 have g5:h<w2.heap.size:=by omega
 have g6:V.heap.size<w2.heap.size:=by omega
 have e0:¬ w2.heap.size=d:=by omega
 have e1:¬ w2.heap.size=h:=by omega
 have e2:¬ w2.heap.size=V.heap.size:=by omega
 have e3:¬ d=w2.heap.size:=by omega
 have e4:¬ h=w2.heap.size:=by omega
 have e5:¬ V.heap.size=w2.heap.size:=by omega
 clear n0 n1 n2 o0 o1 o2 c7 c8 B2 BV l2 l3 y0 y4 DH sV
 go_wp2_with fail
 go_region_held3 (fun F=>F.cell? ⟨d,1,none⟩=some (.slice (some ⟨h,0,none⟩) 16 c1)/\F.cell? ⟨h,s*2,none⟩=some (.int .i64 P3)/\F.cell? ⟨h,s*2+1,none⟩=some (.int .i64 U3)/\F.cell? ⟨V.heap.size,3,none⟩=some (.int .i64 s)) (go_keep) (fail)
 go_upto_region 6 with fail
 obtain⟨J,a9⟩:∃ J,(w2.alloc (.cells #[.int .i64 P3,.int .i64 U3] 61)).drew=J:=⟨_,rfl⟩;have B4:Hid (Below w2.heap.size w2 J):=by rw[<- a9];exact(zaa _ _).drew
 have a6:Hid (Below V.heap.size V J):=b7.out.trans (B4.out.mono b7.out.size);have X4:Hid (J.heap[w2.heap.size]?=some (.cells #[.int .i64 P3,.int .i64 U3] 61 (0,0))):=by rw[<- a9];exact yL w2 _
 rw[a9];clear a9;obtain⟨j0,j1,jl⟩:=zbi X4.out;have H4:Hid (zas J (some ⟨w2.heap.size,0,none⟩) M):=by rw[<- HH.out];exact zqN j0 j1
 have s4:=B4.out.size;replace l0:=zab l0 B4.out;replace l1:=zab l1 B4.out;replace u0:=zab u0 B4.out;replace u1:=zab u1 B4.out;replace v0:=zab v0 B4.out;replace v1:=zab v1 B4.out;replace y1:=zab y1 B4.out;replace y2:=zab y2 B4.out;clear t0 t1 y3 j0 j1 e0 e1 e2 e3 e4 e5;have c7:d<J.heap.size:=by omega
 have c8:h<J.heap.size:=by omega
 have h8:V.heap.size<J.heap.size:=by omega
 have n0:¬ J.heap.size=d:=by omega
 have n1:¬ J.heap.size=h:=by omega
 have n2:¬ J.heap.size=V.heap.size:=by omega
 have o0:¬ d=J.heap.size:=by omega
 have o1:¬ h=J.heap.size:=by omega
 have o2:¬ V.heap.size=J.heap.size:=by omega
 go_cut [7,8] (fun s7 s8 wx=>∃ (b:Nat) (a' : Option Addr) (c' : Nat),s7=.pointer (some ⟨b,0,none⟩)/\s8=.int .i64 E/\Hid (Below J.heap.size J wx)/\Hid (St (fun b=>b<J.heap.size) (fun V=>zai V a' (rS E T)) wx)/\wx.cell? ⟨b,0,none⟩=some (.slice a' (rS E T).length c')/\J.heap.size<=b)
 case first =>
  go_region_held3 (fun F=>F.cell? ⟨d,0,none⟩=some (.slice (some ⟨g,0,none⟩) ns c0)/\F.cell? ⟨d,1,none⟩=some (.slice (some ⟨h,0,none⟩) 16 c1)/\F.cell? ⟨h,p*2,none⟩=some (.int .i64 P)/\F.cell? ⟨h,p*2+1,none⟩=some (.int .i64 U)/\F.cell? ⟨h,r*2,none⟩=some (.int .i64 P2)/\F.cell? ⟨h,r*2+1,none⟩=some (.int .i64 U2)/\F.cell? ⟨V.heap.size,1,none⟩=some (.int .i64 p)/\F.cell? ⟨V.heap.size,2,none⟩=some (.int .i64 r)) (go_keep) (first|(go_at_call 192;refine ye (D.out (some ⟨w2.heap.size,0,none⟩) 1 J.drew a6.out.drew (H4.out.below (yk _ _).drew)) ?_;rintro e w3 ⟨a', c', rfl,a7,a8⟩;have B3:Hid (Below J.heap.size J w3):=(yk _ _).drew.trans a7;have N3:Hid (St (fun b=>b<J.heap.size) (fun V=>zai V a' (rS E T)) w3):=a8;have b1:=zab l0 B3.out;have b2:=zab l1 B3.out;have d5:=zab u0 B3.out;have d6:=zab u1 B3.out;have d7:=zab v0 B3.out;have d8:=zab v1 B3.out;have d9:=zab y1 B3.out;have e6:=zab y2 B3.out;clear a7 a8)|(go_at_call 192;refine ye (D.out (some ⟨w2.heap.size,0,none⟩) 1 (J.alloc (.cells #[.slice none 0 0] 43)).drew (a6.out.trans ((zaa J _).mono a6.out.size)).drew (H4.out.below (zaa J _).drew)) ?_;rintro e w3 ⟨a', c', rfl,a7,a8⟩;have B3:Hid (Below J.heap.size J w3):=(zaa J _).drew.trans (a7.mono (by simp));have N3:Hid (St (fun b=>b<J.heap.size+1) (fun V=>zai V a' (rS E T)) w3):=(by have h:=a8;simp only[yr,World.size_drew] at h;exact h);have b1:=zab l0 B3.out;have b2:=zab l1 B3.out;have d5:=zab u0 B3.out;have d6:=zab u1 B3.out;have d7:=zab v0 B3.out;have d8:=zab v1 B3.out;have d9:=zab y1 B3.out;have e6:=zab y2 B3.out;have X3:Hid (w3.heap[J.heap.size]?=some (.cells #[.slice none 0 0] 43 (0,0))):=zaA (W:=(J.alloc (.cells #[.slice none 0 0] 43)).drew) (yL J _) a7;have x3:=zaJ X3.out;have xf:=zaW (o:=0) X3.out;have xl:J.heap.size<w3.heap.size:=zaw X3.out;clear a7 a8))
  ·go_wp2_with fail
   go_meet
   case rel=>exact⟨_,_,_,rfl,rfl,zBh _ _ (yk J.heap.size J) B3.out N3.out⟩
  ·go_wp2_with fail
   go_meet
   case rel=>exact⟨_,_,_,rfl,rfl,zBi _ (yk J.heap.size J) B3.out N3.out X3.out⟩
 case rest =>
  obtain⟨b,a', c', rfl,rfl,HB,HN,b3,g8⟩:=hcut;have I2:Hid _:=II.out.below (a6.out.trans (HB.out.mono a6.out.size));have HS:Hid _:=I2.out.store c' HN.out (by have h1:=II.out.base;have h2:=a6.out.size;omega);obtain⟨m0,m1,m2,m3,mf,ml⟩:=zak I2.out.box;have bl:b<wc.heap.size:=yd _ _ b3;have h9:¬ b=d:=by omega
  clear II D u0 u1 v0 v1 l0 l1 y1 y2
  go_wp2
  refine yw (v:=.tuple #[.int .i64 0,.int .i64 E]) (by simp[results,Tryz.results177,go_sem]) rfl ⟨0,rfl,HS.out.1,fun hE=>?_⟩;rw[zlj hE];have h2:=HS.out.2;rw[hE,zhQ] at h2;rw[hE,zhQ];exact⟨rfl,_,h2⟩
end Go.Proofs.YtcbcpomacdngmaaGreat
