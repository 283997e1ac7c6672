/-
  x
-/
import Derived.Test.YtcbcpomacdngmaaGreatQ12
import Derived.BigRegion
namespace Go.Proofs.YtcbcpomacdngmaaGreat
set_option maxRecDepth 100000
set_option maxHeartbeats 4000000
set_option linter.unusedVariables false
open Go.RowKit
def zAO(F:World)(E D:Nat)(k:Nat)(wr:World):Prop :=
 Off (fun b=>b=E\/b=D) F wr/\(∃ g,wr.cell? ⟨E,0,none⟩=some (.slice (some ⟨g,0,none⟩) 6 6)/\zah wr (some ⟨g,0,none⟩) (SK k)) /\
 (∀ i,i<3->wr.cell? ⟨D,i*2,none⟩=some (.int .i64 (if i<k then (i:Int) else 0))/\wr.cell? ⟨D,i*2+1,none⟩=some (.int .i64 (if i<k then 1 else 0))) /\
 (∀ o,wr.frozen? ⟨E,o,none⟩=false)/\(∀ o,wr.frozen? ⟨D,o,none⟩=false)
theorem zfF{b D o E:Nat}(h:b≠D):(⟨b,o,none⟩:Addr)≠⟨D,E,none⟩:=fun e=>h (congrArg Addr.block e)
theorem ziH{b E o D:Nat}(h:o≠D):(⟨b,o,none⟩:Addr)≠⟨E,D,none⟩:=fun e=>h (congrArg Addr.off e)
theorem zAO.step{Z wr T:World}{E D k I:Nat}(h:zAO Z E D k wr)(F:E≠D)(hk:k<3)(h3:E<wr.heap.size)(J:D<wr.heap.size)(M:Below wr.heap.size wr T)(hg:wr.heap.size<=I)(hS:∀ w3:World,(∀ b,I<=b->w3.heap[b]?=T.heap[b]?)->zah w3 (some ⟨I,0,none⟩) (SK (k+1))) :
  zAO Z E D (k+1) (((T.setCell ⟨E,0,none⟩ (.slice (some ⟨I,0,none⟩) 6 6)).setCell ⟨D,k*2,none⟩ (.int .i64 k)).setCell ⟨D,k*2+1,none⟩ (.int .i64 1)):=by
 obtain⟨O,⟨g,c3,_⟩,hh,f3,fh⟩:=h;have U:=(M.cell (p:=⟨E,0,none⟩) h3).trans c3;refine⟨?_,⟨I,?_,?_⟩,fun i hi=>?_,fun o=>?_,fun o=>?_⟩
 ·exact(((O.trans (Off.of_below M)).trans (zbI _ (Or.inl rfl) _)).trans (zbI _ (Or.inr rfl) _)).trans (zbI _ (Or.inr rfl) _)
 ·rw[World.cell?_setCell_other _ _ _ _ (zfF (Ne.symm F)),World.cell?_setCell_other _ _ _ _ (zfF (Ne.symm F))];exact World.cell?_setCell_same _ _ _ U
 ·refine hS _ (fun b a5=>?_);rw[ys _ _ _ _ (by show b≠D;omega),ys _ _ _ _ (by show b≠D;omega),ys _ _ _ _ (by show b≠E;omega)]
 ·obtain⟨x0,x1⟩:=hh i hi;have y0:=(M.cell (p:=⟨D,i*2,none⟩) J).trans x0;have y1:=(M.cell (p:=⟨D,i*2+1,none⟩) J).trans x1;have z0:(T.setCell ⟨E,0,none⟩ (.slice (some ⟨I,0,none⟩) 6 6)).cell? ⟨D,i*2,none⟩=_:=(World.cell?_setCell_other _ _ _ _ (zfF F)).trans y0;have z1:(T.setCell ⟨E,0,none⟩ (.slice (some ⟨I,0,none⟩) 6 6)).cell? ⟨D,i*2+1,none⟩=_:=(World.cell?_setCell_other _ _ _ _ (zfF F)).trans y1;by_cases e:i=k
  ·subst e;rw[yb (by omega),yb (by omega)];constructor
   ·rw[World.cell?_setCell_other _ _ _ _ (by simp)];exact World.cell?_setCell_same _ _ _ z0
   ·refine World.cell?_setCell_same _ _ _ (u:=.int .i64 (if i<i then 1 else 0)) ?_;rw[World.cell?_setCell_other _ _ _ _ (by simp)];exact z1
  ·have e1:(if i<k+1 then (i:Int) else 0)=if i<k then (i:Int) else 0:=by
    by_cases h:i<k
    ·rw[yb h,yb (by omega)]
    ·rw[ya h,ya (by omega)]
   have e2:(if i<k+1 then (1:Int) else 0)=if i<k then (1:Int) else 0:=by
    by_cases h:i<k
    ·rw[yb h,yb (by omega)]
    ·rw[ya h,ya (by omega)]
   rw[e1,e2];constructor
   ·rw[World.cell?_setCell_other _ _ _ _ (ziH (by omega)),World.cell?_setCell_other _ _ _ _ (ziH (by omega))];exact z0
   ·rw[World.cell?_setCell_other _ _ _ _ (ziH (by omega)),World.cell?_setCell_other _ _ _ _ (ziH (by omega))];exact z1
 ·rw[World.frozen?_setCell,World.frozen?_setCell,World.frozen?_setCell];exact(M.frozen (p:=⟨E,o,none⟩) h3).trans (f3 o)
 ·rw[World.frozen?_setCell,World.frozen?_setCell,World.frozen?_setCell];exact(M.frozen (p:=⟨D,o,none⟩) J).trans (fh o)
theorem heap_drew(X:World):X.drew.heap=X.heap:=rfl
def znM(w:World)(g:Nat)(S:List Nd):Prop :=
 ∃ F,w.rowIs g 57 (S.length*8) F/\∀ i,i<S.length->∃ kb kc,NdR w F (i*8) (nd S i) kb kc/\g<kb
theorem znM.nds{w:World}{g:Nat}{S:List Nd}(h:znM w g S):zah w (some ⟨g,0,none⟩) S:=fun i hi=>by
 obtain⟨F,D,hN⟩:=h;obtain⟨kb,kc,⟨E,I,J,M,O,T,U,Z,e8,a5,G,hG,e9⟩,_⟩:=hN i hi;refine⟨g,0,rfl,?_⟩;rw[yz];refine⟨?_,?_,?_,?_,?_,⟨some ⟨kb,0,none⟩,kc,?_,fun j hj=>⟨kb,0,rfl,?_⟩⟩,?_,?_⟩
 ·rw[D.cell (by omega),E]
 ·rw[D.cell (by omega),I]
 ·rw[D.cell (by omega),J]
 ·rw[D.cell (by omega),M]
 ·rw[D.cell (by omega),O]
 ·rw[D.cell (by omega),T]
 ·rw[yz,hG.cell (by omega),e9 j hj]
 ·rw[D.cell (by omega),U]
 ·rw[D.cell (by omega),Z]
theorem znM.up{w w3:World}{g:Nat}{S:List Nd}(h:znM w g S)(D:∀ b,g<=b->b<w.heap.size->w3.heap[b]?=w.heap[b]?):znM w3 g S:=by
 obtain⟨F,I,hN⟩:=h;refine⟨F,I.of_block (D g (yj _) I.lt),fun i hi=>?_⟩;obtain⟨kb,kc,⟨O,T,U,Z,e4,e5,e6,e7,e8,E,G,J,e9⟩,M⟩:=hN i hi;exact⟨kb,kc,⟨O,T,U,Z,e4,e5,e6,e7,e8,E,G,J.of_block (D kb (Nat.le_of_lt M) J.lt),e9⟩,M⟩
theorem znM.root{w:World}{g:Nat}{S:List Nd}{k:Nat}(h:znM w g S)(hk:k<S.length)(hh:Int)(I:Bool) :
  znM ((w.setCell ⟨g,k*8+6,none⟩ (.int .i64 hh)).setCell ⟨g,k*8+7,none⟩ (.bool I)) g (S.set k { nd S k with h:=hh,c:=I }):=by
 obtain⟨F,hF,hN⟩:=h;refine⟨_,by rw[List.length_set];exact(hF.set (k*8+6) (.int .i64 hh)).set (k*8+7) (.bool I),fun i hi=>?_⟩;rw[List.length_set] at hi;obtain⟨kb,kc,⟨T,U,Z,e3,e4,e5,e6,e7,M,D,G,hG,O⟩,J⟩:=hN i hi;have E:=(hG.setOther (a:=⟨g,k*8+6,none⟩) (by simp;omega) (.int .i64 hh)).setOther (a:=⟨g,k*8+7,none⟩) (by simp;omega) (.bool I);refine⟨kb,kc,?_,J⟩;rw[zct S k i _ hk];by_cases e:i=k
 ·subst e;rw[yb rfl];refine⟨?_,?_,?_,?_,?_,?_,?_,?_,M,D,G,E,O⟩
  all_goals dsimp only
  ·rw[ya (by omega),ya (by omega),T]
  ·rw[ya (by omega),ya (by omega),U]
  ·rw[ya (by omega),ya (by omega),Z]
  ·rw[ya (by omega),ya (by omega),e3]
  ·rw[ya (by omega),ya (by omega),e4]
  ·rw[ya (by omega),ya (by omega),e5]
  ·rw[ya (by omega),yb rfl]
  ·rw[yb rfl]
 ·rw[ya e];refine⟨?_,?_,?_,?_,?_,?_,?_,?_,M,D,G,E,O⟩
  all_goals
   dsimp only;rw[ya (by omega),ya (by omega)];assumption
theorem zpN(a:Option Addr)(c:Nat)(S:List Nd)(t:Int)(w:World)(hN:S.length<=24)(hK:∀ i,i<S.length->(nd S i).ks.length<=1000)(hS:zah w a S)(hC:zbq S=0)(h7:0<=t)(h8:t<=99)(k:Nat)(hk:k<S.length)(T:zco (nd S k)=true)(h0:0<=(nd S k).n)(a6:∀ i,i<k->zco (nd S i)=false) :
  Calls Tryz.prog 182 #[.agg #[.slice a S.length c],.int .i64 t] w fun e w' => ∃ g,e=.returned (.tuple #[.agg #[.slice (some ⟨g,0,none⟩) S.length S.length],.agg #[.int .i64 k,.int .i64 ((nd S k).n+1)],.int .i64 0])/\Below w.heap.size w w' /\ w.heap.size<=g/\znM w' g (S.set k (zbP (nd S k) t)):=by
 have h2:(nd S k).n<1000000:=by
  unfold zco at T;simp at T;exact T.2
 have HS:Hid (zah w a S):=hS;have df:=fun(W:World) (hW:zah W a S)=>zmL a c S W (by omega) hW k hk T a6;have DF:Hid _:=df;have dc:=fun(W:World) (hW:zah W a S)=>copy_any a c S W hN hK hW;have DC:Hid _:=dc;have d0:=fun W hW=>zdT a c S W (by omega) (fun i hi=>yE (hK i hi) (by omega)) hW;rw[hC] at d0;have D0:Hid _:=d0
 have TU:Hid (∀ (w w' : World) (B g:Nat) (kb kc:Nat->Nat) (h:Own w B g S kb kc S.length) (F' : Nat->Value) (J:w'.rowIs g 57 (S.length*8) F')
  (hN:∀ F,w.rowIs g 57 (S.length*8) F->(∀ i,i<S.length->NdR w F (i*8) (nd S i) (kb i) (kc i))->(∀ i,i<S.length->g<kb i)->∀ i,i<S.length->∃ c8 g6,NdR w' F' (i*8) (nd (S.set k (zbP (nd S k) t)) i) c8 g6/\g<c8),znM w' g (S.set k (zbP (nd S k) t))):=fun w w' B g kb kc h F' J hN=>by
  obtain⟨_,F,a8,a9,a5,_⟩:=h;exact⟨F', by rw[List.length_set];exact J,fun i hi=>hN F a8 a9 a5 i (by rw[List.length_set] at hi;exact hi)⟩
 have d6:Hid (∀ i,nd (S.set k (zbP (nd S k) t)) i=if i=k then zbP (nd S k) t else nd S i):=fun i=>zct S k i _ hk
 have OC:Hid (∀ (wr:World) (B g:Nat) (kb kc:Nat->Nat),Own wr B g S kb kc S.length->(g<wr.heap.size/\(∀ o,wr.frozen? ⟨g,o,none⟩=false)/\(∃ F:Nat->Value,wr.rowIs g 57 (S.length*8) F)/\wr.cell? ⟨g,k*8,none⟩=some (.bool (nd S k).u)/\wr.cell? ⟨g,k*8+1,none⟩=some (.int .i64 (nd S k).n)/\wr.cell? ⟨g,k*8+2,none⟩=some (.int .i64 (nd S k).t))):=fun wr B g kb kc h=>by
  obtain⟨_,F,J,d8,_⟩:=h;obtain⟨e0,e1,e2,_⟩:=d8 k hk;exact⟨J.lt,J.frozen,⟨F,J⟩,by rw[J.cell (by omega),e0],by rw[J.cell (by omega),e1],by rw[J.cell (by omega),e2]⟩
 clear hS a6 df dc d0 hC hK T;generalize hn:S.length=n at *;generalize b7:(nd S k).n=nk at *;have h4:(k:Int)<(n:Int):=by omega
 have h6:decide ((k:Int)<0)=false:=decide_eq_false (by omega);clear hn;have d4:Hid _:=b7;clear b7
 go_enter Tryz.func182,Tryz.ntmps182
 go_wp2_with (go_at_call 42;refine(D0.out _ (HS.out.below (zar _ _ _ _))).mono ?_;rintro e w0 ⟨rfl,I⟩;simp only[yr] at I;obtain⟨l0,l1,l2,l3,z1,z2,z3⟩:=zdA I;have b3:Below w.heap.size w w0:=(zar _ _ _ _).trans (I.mono (by omega)))
 go_wp2_with (go_at_call 66;refine(zes _ _ _ _ (by omega) (by omega)).mono ?_;rintro e w' ⟨rfl,rfl⟩)
 refine(DF.out _ (HS.out.below b3)).mono ?_;rintro e w1 ⟨rfl,a7⟩;have b9:=I.size;simp only[yr] at b9;have M:=I.trans (a7.mono b9);have d7:Below w.heap.size w w1:=(zar _ _ _ _).trans (M.mono (by omega));clear l0 l1 l2 l3 z1 z2 z3 I a7 b3;obtain⟨l0,l1,l2,l3,z1,z2,z3⟩:=zdA M
 go_wp2_with fail
 refine(DC.out _ (HS.out.below d7)).mono ?_;rintro e w2 ⟨g,kb,kc,rfl,b6,Z⟩;have c6:=M.size;simp only[yr] at c6;have O:=M.trans (b6.mono c6);obtain⟨m0,m1,m2,m3,y1,y2,y3⟩:=zdA O;obtain⟨h3,g0,⟨F,J⟩,d0,d1,d2⟩:=OC.out _ _ _ _ _ Z;have g7:w1.heap.size<=g:=Z.1;have g4:w.heap.size+1+1<g:=by omega
 have d5:Hid (Own w2 w1.heap.size g S kb kc n):=Z;have HB:Hid (Below (w.heap.size+1+1+1) (((w.alloc (.cells #[.slice a n c] 43)).alloc (.cells #[.slice none 0 0] 43)).alloc (.cells #[.int .i64 0,.int .i64 0] 61)) w2):=O;have HF:Hid (w2.rowIs g 57 (n*8) F):=J;clear Z J l0 l1 l2 l3 z1 z2 z3 M b6 O
 go_wp2
 obtain⟨U,D⟩:∃ U,U=(((w2.setCell ⟨g,k*8,none⟩ (Value.bool true)).setCell ⟨g,k*8+1,none⟩ (Value.int IntKind.i64 (nk+1))).setCell ⟨g,k*8+2,none⟩ (Value.int IntKind.i64 t)).alloc (Obj.cells #[Value.slice (some ⟨g,0,none⟩) n n] 43):=⟨_,rfl⟩;rw[<- D];have q8:U.cell? ⟨w2.heap.size,0,none⟩=some (.slice (some ⟨g,0,none⟩) n n):=by rw[D];go_simp
 have q1:U.cell? ⟨g,k*8+1,none⟩=some (.int .i64 (nk+1)):=by rw[D];go_simp
 have c7:U.heap.size=w2.heap.size+1:=by rw[D];simp
 have b0:Below (w.heap.size+1+1+1) (((w.alloc (.cells #[.slice a n c] 43)).alloc (.cells #[.slice none 0 0] 43)).alloc (.cells #[.int .i64 0,.int .i64 0] 61)) U:=by
  rw[D];exact(((HB.out.setCell (by simp;omega) _).setCell (by simp;omega) _).setCell (by simp;omega) _).alloc (by simp;omega) _
 clear m0 m1 m2 m3 y1 y2 y3 d0 d1 d2 g0;obtain⟨m0,m1,m2,m3,y1,y2,y3⟩:=zdA b0;have c9:Hid (Below (w.heap.size+1+1+1) (((w.alloc (.cells #[.slice a n c] 43)).alloc (.cells #[.slice none 0 0] 43)).alloc (.cells #[.int .i64 0,.int .i64 0] 61)) U):=b0;have b1:Hid (U=(((w2.setCell ⟨g,k*8,none⟩ (Value.bool true)).setCell ⟨g,k*8+1,none⟩ (Value.int IntKind.i64 (nk+1))).setCell ⟨g,k*8+2,none⟩ (Value.int IntKind.i64 t)).alloc (Obj.cells #[Value.slice (some ⟨g,0,none⟩) n n] 43)):=D;have g8:Hid (U.heap.size=w2.heap.size+1):=c7;clear b0 D HB c7
 go_region
 all_goals (try go_wp2)
 refine yv (v:=.tuple #[.agg #[.slice (some ⟨g,0,none⟩) n n],.agg #[.int .i64 k,.int .i64 (nk+1)],.int .i64 0]) (by simp[results,Tryz.results182,go_sem,m1,m2,m3]) rfl ⟨g,rfl,?_,by omega,?_⟩
 ·have d9:Below w.heap.size w U:=(zar _ _ _ _).trans (c9.out.mono (by omega));exact(((d9.setCell (by simp) _).setCell (by simp;omega) _).setCell (by simp;omega) _).drew
 ·have b8:=(((HF.out.set (k*8) (.bool true)).set (k*8+1) (.int .i64 (nk+1))).set (k*8+2) (.int .i64 t)).alloc (Obj.cells #[Value.slice (some ⟨g,0,none⟩) n n] 43);rw[<- b1.out] at b8;have g5:=(((b8.setOther (a:=⟨w.heap.size+1,0,none⟩) (by simp;omega) (.slice (some ⟨g,0,none⟩) n n)).setOther (a:=⟨w.heap.size+1+1,0,none⟩) (by simp;omega) (.int .i64 k)).setOther (a:=⟨w.heap.size+1+1,1,none⟩) (by simp;omega) (.int .i64 (nk+1))).drew;refine TU.out w2 _ _ g kb kc d5.out _ g5 (fun F0 a8 a9 a5 i hi=>⟨kb i,kc i,?_,a5 i hi⟩)
  have E:∀ j,j<n*8->F j=F0 j:=fun j hj=>by
   have h1:=HF.out.cell hj;rw[a8.cell hj] at h1;exact(Option.some.inj h1).symm
  have g9:=a5 i hi;obtain⟨e0,e1,e2,e3,e4,e5,e6,e7,e8,b2,G,hG,e9⟩:=a9 i hi;have b4:=(((hG.setOther (a:=⟨g,k*8,none⟩) (by simp;omega) (.bool true)).setOther (a:=⟨g,k*8+1,none⟩) (by simp;omega) (.int .i64 (nk+1))).setOther (a:=⟨g,k*8+2,none⟩) (by simp;omega) (.int .i64 t)).alloc (Obj.cells #[Value.slice (some ⟨g,0,none⟩) n n] 43);rw[<- b1.out] at b4;have b5:=(((b4.setOther (a:=⟨w.heap.size+1,0,none⟩) (by simp;omega) (.slice (some ⟨g,0,none⟩) n n)).setOther (a:=⟨w.heap.size+1+1,0,none⟩) (by simp;omega) (.int .i64 k)).setOther (a:=⟨w.heap.size+1+1,1,none⟩) (by simp;omega) (.int .i64 (nk+1))).drew;rw[d6.out i];by_cases e:i=k
  ·subst e;rw[yb rfl];unfold zbP;refine⟨?_,?_,?_,?_,?_,?_,?_,?_,e8,b2,G,b5,e9⟩
   all_goals dsimp only
   ·rw[ya (by omega),ya (by omega),yb rfl]
   ·rw[ya (by omega),yb rfl,d4.out]
   ·rw[yb rfl]
   ·rw[ya (by omega),ya (by omega),ya (by omega),E _ (by omega),e3]
   ·rw[ya (by omega),ya (by omega),ya (by omega),E _ (by omega),e4]
   ·rw[ya (by omega),ya (by omega),ya (by omega),E _ (by omega),e5]
   ·rw[ya (by omega),ya (by omega),ya (by omega),E _ (by omega),e6]
   ·rw[ya (by omega),ya (by omega),ya (by omega),E _ (by omega),e7]
  ·rw[ya e];refine⟨?_,?_,?_,?_,?_,?_,?_,?_,e8,b2,G,b5,e9⟩
   all_goals
    dsimp only;rw[ya (by omega),ya (by omega),ya (by omega),E _ (by omega)];assumption
def zbQ(x:Nd)(k:Nat)(cl:Bool):Nd:={ zbP x 0 with h:=(k:Int),c:=cl }
theorem WF.no_under{S:List Nd}(h:WF S){f:Nat}(O:f<S.length)(F:(nd S f).u=false){i a:Nat}(hi:i<S.length)(ha:Up S a i f):a=0:=by
 obtain⟨t0,m0,p0,k0,h0,c0⟩:=h.unused O F
 cases a with
 | zero=>rfl
 | succ a =>
  exfalso
  have key:∀ (a i:Nat),i<S.length->Up S (a+1) i f->False:=by
   intro a
   induction a with
   | zero =>
    rintro i hi ⟨z,J,D,e⟩;have M:z=f:=e;subst M;unfold zal at D;by_cases E:(nd S i).h = -1
    ·rw[yb E] at D;have T:(nd S i).p≠-1:=by omega
     obtain⟨pa,Z,_,_,_,I⟩:=h.parent_place hi T;have:pa=z:=by omega
     rw[this,F] at I;cases I
    ·rw[ya E] at D;have:=(h.hosts i hi E).1;rw[D,yi,F] at this;cases this
   | succ a U =>
    rintro i hi ⟨z,J,D,e⟩;exact U z J e
  exact key a i hi ha
theorem WF.attach{S:List Nd}(h:WF S){f k:Nat}(cl:Bool)(M:f<S.length)(a8:zco (nd S f)=true)(hk:k<S.length)(J:(nd S k).u=true)(hH:zfs S k=false):WF (S.set f (zbQ (nd S f) k cl)):=by
 obtain⟨O,hn⟩:=zfO a8;obtain⟨t0,m0,p0,k0,h0,c0⟩:=h.unused M O;obtain⟨n0,n1,_⟩:=h.uses M;have Z:k≠f:=fun e=>by rw[e,O] at J;cases J
 have T:=zgv.1 hH;have hl:(S.set f (zbQ (nd S f) k cl)).length=S.length:=by simp
 have D:∀ i,nd (S.set f (zbQ (nd S f) k cl)) i=if i=f then zbQ (nd S f) k cl else nd S i:=fun i=>zct S f i _ M
 refine⟨by rw[hl];exact h.small,fun i hi=>?_,zft (fun i hi=>?_) (fun i hi x E=>?_) (fun j hj F=>?_),fun i hi=>?_,fun i hi=>?_⟩
 ·rw[hl] at hi |-;rw[D];split
  ·refine zgB ?_ (zeH ?_ ?_ (fun y hy=>absurd hy (by unfold zbQ zbP;dsimp only;rw[k0];simp))) ?_
   ·unfold zcS zbQ zbP;simp only[Bool.and_eq_true,decide_eq_true_eq];exact⟨⟨by omega,by omega⟩,⟨by omega,by omega⟩,by rw[m0];omega,by rw[m0];omega⟩
   ·unfold zbQ zbP zlU;exact decide_eq_true ⟨by dsimp only;omega,by dsimp only;omega⟩
   ·unfold zbQ zbP zlU;exact decide_eq_true ⟨by dsimp only;omega,by dsimp only;omega⟩
   ·unfold zdZ zbQ zbP;simp only[if_true];rw[ya (by omega),ya (by omega)];exact decide_eq_true p0
  ·exact h.node i hi
 ·rw[hl] at hi;rw[D];split
  ·unfold zbQ zbP;dsimp only;rw[k0];exact List.nodup_nil
  ·exact h.kids_nodup hi
 ·rw[hl] at hi |-;rw[D] at E
  split at E
  ·unfold zbQ zbP at E;dsimp only at E;rw[k0] at E;cases E
  ·obtain⟨y,rfl,y1,y2,y3,_⟩:=h.kid hi E;have a6:y≠f:=fun e=>by rw[e,O] at y2;cases y2
   exact⟨y,rfl,y1,by rw[D,ya a6];exact y2,by rw[D,ya a6];exact y3⟩
 ·rw[hl] at hj |-;rw[D] at F
  split at F
  ·exact absurd (show (zbQ (nd S f) k cl).p = -1 from p0) F
  ·obtain⟨i,i1,i2,_,i3,_⟩:=h.parent_place hj F;refine⟨i,i2,?_⟩;rw[D];split
   ·rename_i e;subst e;rw[k0] at i3;cases i3
   ·exact i3
 ·rw[hl] at hi;intro hh;by_cases e:i=f
  ·subst e;have I:(nd (S.set i (zbQ (nd S i) k cl)) i).h=(k:Int):=by rw[D,yb rfl];rfl
   rw[I,yi];refine⟨by rw[D,ya Z];exact J,fun i' U=>?_⟩;rw[D,ya (by omega)];exact T i' (by omega)
  ·have I:nd (S.set f (zbQ (nd S f) k cl)) i=nd S i:=by rw[D,ya e]
   rw[I] at hh |-;obtain⟨g1,g2⟩:=h.hosts i hi hh;refine⟨?_,fun i' U=>?_⟩
   ·rw[D];split
    ·rfl
    ·exact g1
   ·rw[D];split
    ·exact fun e2=>T i hi e2.symm
    ·exact g2 i' U
 ·rw[hl] at hi;have hr:∀ y,y<S.length->y≠f->zal (nd (S.set f (zbQ (nd S f) k cl)) y)=zal (nd S y):=fun y _ e=>by rw[D,ya e]
  have a9:zal (nd (S.set f (zbQ (nd S f) k cl)) f)=k:=by
   rw[D,yb rfl];unfold zal zbQ zbP;dsimp only;rw[ya (by omega)]
  have a7:∀ (j x:Nat),x<S.length->x≠f->¬ Up (S.set f (zbQ (nd S f) k cl)) j x f:=fun j x E a5 b1=>by
   rcases zhp hl hr E b1 with g |⟨a,m,_,g,_⟩
   ·have:=h.no_under M O E g;subst this;exact a5 g
   ·have:=h.no_under M O E g;subst this;exact a5 g
  cases hb:zbt (S.set f (zbQ (nd S f) k cl)) i i with
  | false=>rfl
  | true =>
   obtain⟨j,j1,j2,j3⟩:=zga (by rw[hl];exact hi) hb;rw[hl] at j2;by_cases e:i=f
   ·subst e;obtain⟨j', rfl⟩:∃ j', j=j' + 1:=⟨j-1,by omega⟩;obtain⟨z,hz,b0,b2⟩:=j3;rw[a9] at b0;have:z=k:=by omega
    subst this;exact absurd b2 (a7 j' z hk Z)
   ·rcases zhp hl hr hi j3 with g |⟨a,m,_,g,_⟩
    ·exact absurd g (h.no_ring hi j1 j2)
    ·have:=h.no_under M O hi g;subst this;exact absurd g e
theorem zkh(W:World)(Z F U gs N:Nat)(near:Bool)(st:(Nat->Bool) × List Int)(j:Nat)(O:World)(hj:j<N)(hN:N<=1000)(h:zlh W F gs N st O)
  (b8:Z<W.heap.size) (b6:F<W.heap.size) (b9:gs<W.heap.size) (b7:U<W.heap.size) (n1:Z≠F) (n2:Z≠gs) (n3:U≠F) (n4:U≠gs) (n5:F≠gs)
  (cs:W.cell? ⟨Z,0,none⟩=some (.slice (some ⟨gs,0,none⟩) N N)) (cn:W.cell? ⟨U,0,none⟩=some (.bool near)) :
  Calls Tryz.prog 220 #[.int .i64 (j:Int),.pointer (some ⟨Z,0,none⟩),.pointer (some ⟨F,0,none⟩),.pointer (some ⟨U,0,none⟩)] O fun e J=>e=.returned (.bool (zbn near st j).2)/\zlh W F gs N (zbn near st j).1 J/\Off (fun k=>k=F\/k=gs\/W.heap.size<=k) O J/\∀ (k:Nat) x t,O.heap[k]?=some (.cells #[x] t (0,0))->t≠48->t≠4->t≠3->J.heap[k]?=O.heap[k]?:=by
 obtain⟨i0,c6,c7,c8,c9⟩:=info_parts info3;have e1:(j:Int)<(N:Int):=by omega
 have e3:=h.small;have HI:Hid (zlh W F gs N st O):=h;have T:Hid (∀ v,O.heap[F]?=some (.cells #[v] 48 (0,0))->O.ownsRow W.heap.size 3 1 v st.2.length (st.2.map (Value.int .i64))->∀ v' J o1,st.1 j=false->J.ownsRow W.heap.size 3 1 v' (st.2.length+1) (st.2.map (Value.int .i64)++[.int .i64 (j:Int)])->((O.setCell ⟨gs,j,none⟩ (.bool true)).alloc o1).grownBy J v.ownBlock->_):=fun v hc D v' J o1 hs E hg=>zlh.step h b6 b9 n5 hj hs hc o1 D E hg;obtain⟨hO,hR,_,v,hc,D⟩:=h;have e4:=hO.size;have x1:=(hO.cell (p:=⟨Z,0,none⟩) b8 (by show ¬ (Z=F\/Z=gs);omega)).trans cs;have x2:=hR.cell hj;have f2:=hR.frozen j;have e0:=hR.lt;have a9:Hid (∀ a7 J,zlh W F gs N a7 J->J.cell? ⟨U,0,none⟩=some (.bool near)):=fun a7 J h2=>(h2.1.cell (p:=⟨U,0,none⟩) b7 (by show ¬ (U=F\/U=gs);omega)).trans cn;have HC:Hid _:=hc;have HO:Hid _:=D;have cb:=zaJ hc;have d9:=yd _ _ cb;have e2:=yd _ _ x1
 cases hs:st.1 j with
 | true =>
  rw[zdJ hs];rw[hs] at x2;clear hO hR D hc T
  go_enter Tryz.func220,Tryz.ntmps220
  go_wp2
  go_ret;exact⟨rfl,HI.out,Off.refl _ _,fun _ _ _ _ _ _ _=>rfl⟩
 | false =>
  rw[zev hs];rw[hs] at x2;have b5:Hid _:=T.out v hc D;have HS:Hid _:=hs;have d4:(O.setCell ⟨gs,j,none⟩ (.bool true)).cell? ⟨F,0,none⟩=some v:=(World.cell?_setCell_other _ _ _ _ (by intro e;exact n5 (by simpa using (congrArg Addr.block e).symm))).trans cb
  have b0:Hid ((O.setCell ⟨gs,j,none⟩ (.bool true)).ownsRow W.heap.size 3 1 v st.2.length (st.2.map (Value.int .i64))):=D.kept (grownBy_setCell O ⟨gs,j,none⟩ (.bool true)) (by
   cases hv:v.ownBlock with
   | none=>exact Or.inl rfl
   | some k=>right;intro e;have:=(D.lt k hv).1;simp at e;omega)
  have b4:Hid (∀ v' J o1,((O.setCell ⟨gs,j,none⟩ (.bool true)).alloc o1).grownBy J v.ownBlock->Off (fun k=>k=F\/k=gs\/W.heap.size<=k) O (J.setCell ⟨F,0,none⟩ v')):=fun v' J o1 hg=>⟨hg.os,hg.tape,hg.output,by have:=hg.size;simp at this |-;omega,fun k hk hx=>by
   rw[ys _ _ _ _ (by show k≠F;exact fun e=>hx (Or.inl e)),hg.block k (by simp;omega) (fun e=>by have:=(D.lt k e.symm).1;exact hx (Or.inr (Or.inr this))),Below.heap_alloc _ _ _ (by simp;omega),ys _ _ _ _ (by show k≠gs;exact fun e=>hx (Or.inr (Or.inl e)))]⟩
  clear hO hR D hc T hs cb HO;generalize ((fun i=>if i=j then true else st.1 i,st.2++[(j:Int)]):(Nat->Bool) × List Int)=a7 at *
  go_enter Tryz.func220,Tryz.ntmps220
  go_wp2_with (at_builtin;refine wpList_append_own _ rfl _ _ 48 rfl W.heap.size 3 i0 (.int .i64 0) 1 8 Tryz.underlying48 c6 c7 c8 c9 rfl (by decide) _ _ _ rfl (b0.out.alloc _) ⟨O.heap.size,0,none⟩ 1 1 [.int .i64 (j:Int)] rfl rfl ?c1 ?c2 ?c3 ?c4 ?c5 ?_)
  case c2=>rfl
  case c3=>unfold maxLen;omega
  case c4=>omega
  case c5=>omega
  intro v' J E M _
  obtain⟨g', I,rfl⟩:∃ g' I,v' = .slice (some ⟨g', 0,none⟩) (st.2.length+1) I:=by
   rcases E.2 with ⟨_,h⟩ |⟨g', I,d7,h,_⟩
   ·omega
   ·exact⟨g', I,h⟩
  obtain⟨a6,b1,a5⟩:=b5.out _ _ _ HS.out E M;have a8:Hid _:=b4.out (.slice (some ⟨g', 0,none⟩) (st.2.length+1) I) _ _ M;have b2:Hid _:=a5;have b3:Hid _:=b1;have d5:=zaJ a6;have d8:=fun o=>zaX (o:=o) a6;have d6:=a9.out _ _ a5;clear E M a5 b1 a6
  go_wp2
  go_ret;exact⟨rfl,b2.out,a8.out,b3.out⟩
theorem zry(x:Nd)(k:Value)(w:World) :
  Calls Tryz.prog 219 #[.agg #[.bool x.u,.int .i64 x.n,.int .i64 x.t,.int .i64 x.m,.int .i64 x.p,k,.int .i64 x.h,.bool x.c]] w fun e w' => e=.returned (.int .i64 x.p)/\Below w.heap.size w w' := by
 go_enter Tryz.func219,Tryz.ntmps219
 go_wp2
 go_ret;exact⟨rfl,(yk _ _).alloc (yj _) _⟩
theorem zoh(W0 W:World)(a:Option Addr)(c:Nat)(S:List Nd)(near:Bool)(F D E gs:Nat)(hN:S.length<=24)(hS:zah W0 a S)(Z:Below W0.heap.size W0 W)(h1:W0.heap.size<=D)(h2:W0.heap.size<=gs)
  (T:F<W.heap.size) (M:D<W.heap.size) (U:gs<W.heap.size) (O:E<W.heap.size) (n1:F≠D) (n2:F≠gs) (n3:E≠D) (n4:E≠gs) (n5:D≠gs)
  (cs:W.cell? ⟨F,0,none⟩=some (.slice (some ⟨gs,0,none⟩) S.length S.length)) (cn:W.cell? ⟨E,0,none⟩=some (.bool near)) (st:(Nat->Bool) × List Int) (place:Int) (w:World) (h:zlh W D gs S.length st w) :
  Calls Tryz.prog 150 #[.agg #[.slice a S.length c],.int .i64 place,.func (.func 219) #[] #[],.func (.func 220) #[] #[.pointer (some ⟨F,0,none⟩),.pointer (some ⟨D,0,none⟩),.pointer (some ⟨E,0,none⟩)]] w fun e w' => e=.returned (.tuple #[])/\zlh W D gs S.length (zgR S near st place) w' := by
 refine(zmC a c S w place 219 220 #[.pointer (some ⟨F,0,none⟩),.pointer (some ⟨D,0,none⟩),.pointer (some ⟨E,0,none⟩)] Nd.p (zbn near) (zlh W D gs S.length) (fun k=>k=D\/k=gs\/W.heap.size<=k) st (by omega)
  (fun st J h=>hS.below (Z.trans (h.1.below (B:=W0.heap.size) Z.size (fun k I=>by rcases I with I|I <;> omega))))
  (fun st J w2 h hb=>h.below hb)
  (enters_of Tryz.func219 (by kernel_rfl) rfl) (enters_of Tryz.func220 (by kernel_rfl) rfl)
  (fun x k J=>zry x k J)
  (fun st x J h _ hx=>?_) h).mono ?_
 ·have hq:0<=x/\x<=(S.length:Int)-1:=of_decide_eq_true hx;obtain⟨j,rfl⟩:∃ j:Nat,x=(j:Int):=⟨x.toNat,by omega⟩;refine(zkh W F D E gs S.length near st j J (by omega) (by omega) h T M U O n1 n2 n3 n4 n5 cs cn).mono ?_;rintro e w2 ⟨rfl,g1,g2,g3⟩;exact⟨rfl,g1,g2,fun k I=>g3 k _ _ I (by decide) (by decide) (by decide)⟩
 ·rintro e w' ⟨rfl,g1,_⟩;exact⟨rfl,g1⟩
theorem zqM(w:World)(D E o3 F I:Obj):Below w.heap.size w (((((w.alloc D).alloc E).alloc o3).alloc F).alloc I):=(((zar w D E o3).alloc (by simp;omega) _).alloc (by simp;omega) _)
theorem zsp(a:Option Addr)(c:Nat)(S:List Nd)(pa:Option Addr)(pc:Nat)(places:List Int)(near:Bool)(w:World)(hN:S.length<=24)(hS:zah w a S)(hL:places.length<=1000000)(hP:zaj w pa places) :
  Calls Tryz.prog 213 #[.agg #[.slice a S.length c],.slice pa places.length pc,.bool near] w fun e w' => ∃ v,e=.returned v/\Below w.heap.size w w' /\ w'.ownsRow w.heap.size 3 1 v (zcP S near places).length ((zcP S near places).map (Value.int .i64))/\(zcP S near places).length<=S.length:=by
 have b5:=ztK S.length hN;have HS:Hid (zah w a S):=hS;have HP:Hid (zaj w pa places):=hP;have HT:Hid (∀ k,k<places.length->zdI S near (places.take (k+1))=zgR S near (zdI S near (places.take k)) (places.getD k 0)):=fun k I=>zmw S near places k I;have CL:Hid (∀ W bs bf bn gs,_):=fun W bs bf bn gs=>fun(D:Below w.heap.size w W) h1 h2 b0 a8 b1 a9 n1 n2 n3 n4 n5 cs Z st place W1 h=>zoh w W a c S near bs bf bn gs hN hS D h1 h2 b0 a8 b1 a9 n1 n2 n3 n4 n5 cs Z st place W1 h;have H0:Hid (zdI S near (places.take 0)=(fun _=>false,[])):=rfl;have HE:Hid (zcP S near places=(zdI S near (places.take places.length)).2):=by show _=_;rw[List.take_length];rfl
 generalize zcP S near places=R at *;clear hS hP;generalize hn:S.length=n at *;have HN:Hid _:=hn;clear hn;generalize hl:places.length=L at *;have HL:Hid _:=hl;clear hl
 go_enter Tryz.func213,Tryz.ntmps213
 go_wp2
 obtain⟨W,D⟩:∃ W,W=(((((w.alloc (.cells #[.slice a n c] 43)).alloc (.cells #[.bool near] 4)).alloc (.cells (madeCells #[.bool false] n) 4)).alloc (.cells #[.slice (some ⟨w.heap.size+1+1,0,none⟩) n n] 259)).alloc (.cells #[.slice none 0 0] 48)):=⟨_,rfl⟩;rw[<- D];have hb:Below w.heap.size w W:=by rw[D];exact zqM _ _ _ _ _ _
 have hz:W.heap.size=w.heap.size+1+1+1+1+1:=by rw[D];simp
 have c0:W.cell? ⟨w.heap.size,0,none⟩=some (.slice a n c):=by rw[D];go_simp
 have Z:W.cell? ⟨w.heap.size+1,0,none⟩=some (.bool near):=by rw[D];go_simp
 have cs:W.cell? ⟨w.heap.size+1+1+1,0,none⟩=some (.slice (some ⟨w.heap.size+1+1,0,none⟩) n n):=by rw[D];go_simp
 have M:zlh W (w.heap.size+1+1+1+1) (w.heap.size+1+1) n (fun _=>false,[]) W:=by
  refine⟨Off.refl _ _,?_,⟨by simp,fun x hx=>by cases hx⟩,.slice none 0 0,?_,World.ownsRow_nil _ _ _ _⟩
  ·rw[D];have h0:=World.rowIs_made ((w.alloc (.cells #[.slice a n c] 43)).alloc (.cells #[.bool near] 4)) (.bool false) n 4;have h1:Below (w.heap.size+1+1+1) (((w.alloc (.cells #[.slice a n c] 43)).alloc (.cells #[.bool near] 4)).alloc (.cells (madeCells #[.bool false] n) 4)) (((((w.alloc (.cells #[.slice a n c] 43)).alloc (.cells #[.bool near] 4)).alloc (.cells (madeCells #[.bool false] n) 4)).alloc (.cells #[.slice (some ⟨w.heap.size+1+1,0,none⟩) n n] 259)).alloc (.cells #[.slice none 0 0] 48)):=((yk _ _).alloc (by simp) _).alloc (by first|(simp;done)|(simp;omega)) _;simp only[yr] at h0;exact h0.of_block (h1.block _ (by omega))
  ·rw[D];have:=heap_alloc_new ((((w.alloc (.cells #[.slice a n c] 43)).alloc (.cells #[.bool near] 4)).alloc (.cells (madeCells #[.bool false] n) 4)).alloc (.cells #[.slice (some ⟨w.heap.size+1+1,0,none⟩) n n] 259)) (.cells #[.slice none 0 0] 48);simpa using this
 have a7:Hid _:=M;have J:Hid (Below w.heap.size w W):=hb;have a5:Hid _:=CL.out W (w.heap.size+1+1+1) (w.heap.size+1+1+1+1) (w.heap.size+1) (w.heap.size+1+1) hb (by omega) (by omega) (by omega) (by omega) (by omega) (by omega) (by omega) (by omega) (by omega) (by omega) (by omega) cs Z;have C0:Hid (∀ st T,zlh W (w.heap.size+1+1+1+1) (w.heap.size+1+1) n st T->T.cell? ⟨w.heap.size,0,none⟩=some (.slice a n c)/\Below w.heap.size w T/\w.heap.size<T.heap.size):=fun st T h=>⟨(h.1.cell (p:=⟨w.heap.size,0,none⟩) (by show w.heap.size < _;omega) (by show ¬ (w.heap.size=w.heap.size+1+1+1+1\/w.heap.size=w.heap.size+1+1);omega)).trans c0,J.out.trans (h.1.below J.out.size (fun k I=>by rcases I with I|I <;> omega)),by have:=h.1.size;omega⟩;clear D hb c0 Z cs M CL
 go_loopg [17] L (fun g1 s17 wr=>∃ k:Nat,k<=L/\L-k<=g1/\s17=.int .i64 k/\Hid (zlh W (w.heap.size+1+1+1+1) (w.heap.size+1+1) n (zdI S near (places.take k)) wr))
 case atStart=>exact⟨0,by omega,by omega,rfl,by rw[H0.out];exact a7⟩
 case round =>
  obtain⟨k,I,b4,rfl,U⟩:=hrel;obtain⟨c0,E,b7⟩:=C0.out _ _ U.out;have a6:Hid _:=E;by_cases O:k<L
  ·have b3:(k:Int)<(L:Int):=by omega
   obtain⟨pb,po,rfl,hp⟩:=(HP.out.below E) k (by rw[HL.out];exact O);have b6:=yd _ _ hp;have hc:=a5.out (zdI S near (places.take k)) (places.getD k 0) wr U.out;have TK:=HT.out k O;rw[<- TK] at hc;have HC:Hid _:=hc;clear hc TK E;generalize places.getD k 0=y at *
   go_wp2_with fail
   refine ye HC.out ?_;rintro e w2 ⟨rfl,I2⟩
   go_wp2
   go_roundg (L-(k+1))
   case measure=>omega
   case rel=>exact⟨k+1,by omega,by omega,by go_num,I2⟩
  ·have b2:k=L:=by omega
   subst b2;obtain⟨hO,_,_,v,hv,F⟩:=U.out;have cb:=zaJ hv
   have OW:Hid (wr.ownsRow w.heap.size 3 1 v R.length (R.map (Value.int .i64))):=by
    rw[HE.out];exact zfz F (by omega)
   have SM:Hid (R.length<=n):=by show _<=_;rw[HE.out];exact U.out.small
   clear hO hv F E
   go_wp2
   go_ret;exact⟨v,rfl,a6.out,OW.out,SM.out⟩
end Go.Proofs.YtcbcpomacdngmaaGreat
