/-
  x
-/
import Derived.Test.YtcbcpomacdngmaaGreatM12
namespace Go.Proofs.YtcbcpomacdngmaaGreat
set_option maxRecDepth 100000
set_option maxHeartbeats 4000000
set_option linter.unusedVariables false
open Go.RowKit
def znz(w:World)(g:Nat)(S:List Nd):Prop :=
 ∃ F,w.rowIs g 57 (S.length*8) F/\∀ i,i<S.length->∃ kb kc,NdR w F (i*8) (nd S i) kb kc/\g<kb
theorem znz.nds{w:World}{g:Nat}{S:List Nd}(h:znz w g S):zah w (some ⟨g,0,none⟩) S:=fun i hi=>by
 obtain⟨F,D,hN⟩:=h;obtain⟨kb,kc,⟨E,I,J,M,O,T,U,Z,e8,a5,G,hG,e9⟩,_⟩:=hN i hi;refine⟨g,0,rfl,?_⟩;rw[yz];refine⟨?_,?_,?_,?_,?_,⟨some ⟨kb,0,none⟩,kc,?_,fun j hj=>⟨kb,0,rfl,?_⟩⟩,?_,?_⟩
 ·rw[D.cell (by omega),E]
 ·rw[D.cell (by omega),I]
 ·rw[D.cell (by omega),J]
 ·rw[D.cell (by omega),M]
 ·rw[D.cell (by omega),O]
 ·rw[D.cell (by omega),T]
 ·rw[yz,hG.cell (by omega),e9 j hj]
 ·rw[D.cell (by omega),U]
 ·rw[D.cell (by omega),Z]
theorem znz.up{w w3:World}{g:Nat}{S:List Nd}(h:znz w g S)(D:∀ b,g<=b->b<w.heap.size->w3.heap[b]?=w.heap[b]?):znz w3 g S:=by
 obtain⟨F,I,hN⟩:=h;refine⟨F,I.of_block (D g (yj _) I.lt),fun i hi=>?_⟩;obtain⟨kb,kc,⟨O,T,U,Z,e4,e5,e6,e7,e8,E,G,J,e9⟩,M⟩:=hN i hi;exact⟨kb,kc,⟨O,T,U,Z,e4,e5,e6,e7,e8,E,G,J.of_block (D kb (Nat.le_of_lt M) J.lt),e9⟩,M⟩
theorem znz.root{w:World}{g:Nat}{S:List Nd}{k:Nat}(h:znz w g S)(hk:k<S.length)(hh:Int)(I:Bool) :
  znz ((w.setCell ⟨g,k*8+6,none⟩ (.int .i64 hh)).setCell ⟨g,k*8+7,none⟩ (.bool I)) g (S.set k { nd S k with h:=hh,c:=I }):=by
 obtain⟨F,hF,hN⟩:=h;refine⟨_,by rw[List.length_set];exact(hF.set (k*8+6) (.int .i64 hh)).set (k*8+7) (.bool I),fun i hi=>?_⟩;rw[List.length_set] at hi;obtain⟨kb,kc,⟨T,U,Z,e3,e4,e5,e6,e7,M,D,G,hG,O⟩,J⟩:=hN i hi;have E:=(hG.setOther (a:=⟨g,k*8+6,none⟩) (by simp;omega) (.int .i64 hh)).setOther (a:=⟨g,k*8+7,none⟩) (by simp;omega) (.bool I);refine⟨kb,kc,?_,J⟩;rw[zcR S k i _ hk];by_cases e:i=k
 ·subst e;rw[yb rfl];refine⟨?_,?_,?_,?_,?_,?_,?_,?_,M,D,G,E,O⟩
  all_goals dsimp only
  ·rw[ya (by omega),ya (by omega),T]
  ·rw[ya (by omega),ya (by omega),U]
  ·rw[ya (by omega),ya (by omega),Z]
  ·rw[ya (by omega),ya (by omega),e3]
  ·rw[ya (by omega),ya (by omega),e4]
  ·rw[ya (by omega),ya (by omega),e5]
  ·rw[ya (by omega),yb rfl]
  ·rw[yb rfl]
 ·rw[ya e];refine⟨?_,?_,?_,?_,?_,?_,?_,?_,M,D,G,E,O⟩
  all_goals
   dsimp only;rw[ya (by omega),ya (by omega)];assumption
theorem zps(a:Option Addr)(c:Nat)(S:List Nd)(t:Int)(w:World)(hN:S.length<=24)(hK:∀ i,i<S.length->(nd S i).ks.length<=1000)(hS:zah w a S)(hC:zbr S=0)(h7:0<=t)(h8:t<=99)(k:Nat)(hk:k<S.length)(T:zcn (nd S k)=true)(h0:0<=(nd S k).n)(a6:∀ i,i<k->zcn (nd S i)=false) :
  yL 182 #[.agg #[.slice a S.length c],.int .i64 t] w fun e w' => ∃ g,e=.returned (.tuple #[.agg #[.slice (some ⟨g,0,none⟩) S.length S.length],.agg #[.int .i64 k,.int .i64 ((nd S k).n+1)],.int .i64 0])/\Below w.heap.size w w' /\ w.heap.size<=g/\znz w' g (S.set k (zbQ (nd S k) t)):=by
 have h2:(nd S k).n<1000000:=by
  unfold zcn at T;simp at T;exact T.2
 have HS:Hid (zah w a S):=hS;have df:=fun(W:World) (hW:zah W a S)=>zmC a c S W (by omega) hW k hk T a6;have DF:Hid _:=df;have dc:=fun(W:World) (hW:zah W a S)=>copy_any a c S W hN hK hW;have DC:Hid _:=dc;have d0:=fun W hW=>zdW a c S W (by omega) (fun i hi=>yG (hK i hi) (by omega)) hW;rw[hC] at d0;have D0:Hid _:=d0
 have TU:Hid (∀ (w w' : World) (B g:Nat) (kb kc:Nat->Nat) (h:Own w B g S kb kc S.length) (F' : Nat->Value) (J:w'.rowIs g 57 (S.length*8) F')
  (hN:∀ F,w.rowIs g 57 (S.length*8) F->(∀ i,i<S.length->NdR w F (i*8) (nd S i) (kb i) (kc i))->(∀ i,i<S.length->g<kb i)->∀ i,i<S.length->∃ c8 g6,NdR w' F' (i*8) (nd (S.set k (zbQ (nd S k) t)) i) c8 g6/\g<c8),znz w' g (S.set k (zbQ (nd S k) t))):=fun w w' B g kb kc h F' J hN=>by
  obtain⟨_,F,a8,a9,a5,_⟩:=h;exact⟨F', by rw[List.length_set];exact J,fun i hi=>hN F a8 a9 a5 i (by rw[List.length_set] at hi;exact hi)⟩
 have d6:Hid (∀ i,nd (S.set k (zbQ (nd S k) t)) i=if i=k then zbQ (nd S k) t else nd S i):=fun i=>zcR S k i _ hk
 have OC:Hid (∀ (wr:World) (B g:Nat) (kb kc:Nat->Nat),Own wr B g S kb kc S.length->(g<wr.heap.size/\(∀ o,wr.frozen? ⟨g,o,none⟩=false)/\(∃ F:Nat->Value,wr.rowIs g 57 (S.length*8) F)/\wr.cell? ⟨g,k*8,none⟩=some (.bool (nd S k).u)/\wr.cell? ⟨g,k*8+1,none⟩=some (.int .i64 (nd S k).n)/\wr.cell? ⟨g,k*8+2,none⟩=some (.int .i64 (nd S k).t))):=fun wr B g kb kc h=>by
  obtain⟨_,F,J,d8,_⟩:=h;obtain⟨e0,e1,e2,_⟩:=d8 k hk;exact⟨J.lt,J.frozen,⟨F,J⟩,by rw[J.cell (by omega),e0],by rw[J.cell (by omega),e1],by rw[J.cell (by omega),e2]⟩
 clear hS a6 df dc d0 hC hK T;generalize hn:S.length=n at *;generalize b7:(nd S k).n=nk at *;have h4:(k:Int)<(n:Int):=by omega
 have h6:decide ((k:Int)<0)=false:=yE (by omega);clear hn;have d4:Hid _:=b7;clear b7
 go_enter Tryz.func182,Tryz.ntmps182
 go_wp2_with (go_at_call 42;refine(D0.out _ (HS.out.below (zas _ _ _ _))).mono ?_;rintro e w0 ⟨rfl,I⟩;simp only[yr] at I;obtain⟨l0,l1,l2,l3,z1,z2,z3⟩:=zdI I;have b3:Below w.heap.size w w0:=(zas _ _ _ _).trans (I.mono (by omega)))
 go_wp2_with (go_at_call 66;refine(zet _ _ _ _ (by omega) (by omega)).mono ?_;rintro e w' ⟨rfl,rfl⟩)
 refine(DF.out _ (HS.out.below b3)).mono ?_;rintro e w1 ⟨rfl,a7⟩;have b9:=I.size;simp only[yr] at b9;have M:=I.trans (a7.mono b9);have d7:Below w.heap.size w w1:=(zas _ _ _ _).trans (M.mono (by omega));clear l0 l1 l2 l3 z1 z2 z3 I a7 b3;obtain⟨l0,l1,l2,l3,z1,z2,z3⟩:=zdI M
 go_wp2_with fail
 refine(DC.out _ (HS.out.below d7)).mono ?_;rintro e w2 ⟨g,kb,kc,rfl,b6,Z⟩;have c6:=M.size;simp only[yr] at c6;have O:=M.trans (b6.mono c6);obtain⟨m0,m1,m2,m3,y1,y2,y3⟩:=zdI O;obtain⟨h3,g0,⟨F,J⟩,d0,d1,d2⟩:=OC.out _ _ _ _ _ Z;have g7:w1.heap.size<=g:=Z.1;have g4:w.heap.size+1+1<g:=by omega
 have d5:Hid (Own w2 w1.heap.size g S kb kc n):=Z;have HB:Hid (Below (w.heap.size+1+1+1) (((w.alloc (.cells #[.slice a n c] 43)).alloc (.cells #[.slice none 0 0] 43)).alloc (.cells #[.int .i64 0,.int .i64 0] 61)) w2):=O;have HF:Hid (w2.rowIs g 57 (n*8) F):=J;clear Z J l0 l1 l2 l3 z1 z2 z3 M b6 O
 go_wp2
 obtain⟨U,D⟩:∃ U,U=(((w2.setCell ⟨g,k*8,none⟩ (Value.bool true)).setCell ⟨g,k*8+1,none⟩ (Value.int IntKind.i64 (nk+1))).setCell ⟨g,k*8+2,none⟩ (Value.int IntKind.i64 t)).alloc (Obj.cells #[Value.slice (some ⟨g,0,none⟩) n n] 43):=⟨_,rfl⟩;rw[<- D];have q8:U.cell? ⟨w2.heap.size,0,none⟩=some (.slice (some ⟨g,0,none⟩) n n):=by rw[D];go_simp
 have q1:U.cell? ⟨g,k*8+1,none⟩=some (.int .i64 (nk+1)):=by rw[D];go_simp
 have c7:U.heap.size=w2.heap.size+1:=by rw[D];simp
 have b0:Below (w.heap.size+1+1+1) (((w.alloc (.cells #[.slice a n c] 43)).alloc (.cells #[.slice none 0 0] 43)).alloc (.cells #[.int .i64 0,.int .i64 0] 61)) U:=by
  rw[D];exact(((HB.out.setCell (by simp;omega) _).setCell (by simp;omega) _).setCell (by simp;omega) _).alloc (by simp;omega) _
 clear m0 m1 m2 m3 y1 y2 y3 d0 d1 d2 g0;obtain⟨m0,m1,m2,m3,y1,y2,y3⟩:=zdI b0;have c9:Hid (Below (w.heap.size+1+1+1) (((w.alloc (.cells #[.slice a n c] 43)).alloc (.cells #[.slice none 0 0] 43)).alloc (.cells #[.int .i64 0,.int .i64 0] 61)) U):=b0;have b1:Hid (U=(((w2.setCell ⟨g,k*8,none⟩ (Value.bool true)).setCell ⟨g,k*8+1,none⟩ (Value.int IntKind.i64 (nk+1))).setCell ⟨g,k*8+2,none⟩ (Value.int IntKind.i64 t)).alloc (Obj.cells #[Value.slice (some ⟨g,0,none⟩) n n] 43)):=D;have g8:Hid (U.heap.size=w2.heap.size+1):=c7;clear b0 D HB c7
 go_region
 all_goals (try go_wp2)
 refine yv (v:=.tuple #[.agg #[.slice (some ⟨g,0,none⟩) n n],.agg #[.int .i64 k,.int .i64 (nk+1)],.int .i64 0]) (by simp[results,Tryz.results182,go_sem,m1,m2,m3]) rfl ⟨g,rfl,?_,by omega,?_⟩
 ·have d9:Below w.heap.size w U:=(zas _ _ _ _).trans (c9.out.mono (by omega));exact(((d9.setCell (by simp) _).setCell (by simp;omega) _).setCell (by simp;omega) _).drew
 ·have b8:=(((HF.out.set (k*8) (.bool true)).set (k*8+1) (.int .i64 (nk+1))).set (k*8+2) (.int .i64 t)).alloc (Obj.cells #[Value.slice (some ⟨g,0,none⟩) n n] 43);rw[<- b1.out] at b8;have g5:=(((b8.setOther (a:=⟨w.heap.size+1,0,none⟩) (by simp;omega) (.slice (some ⟨g,0,none⟩) n n)).setOther (a:=⟨w.heap.size+1+1,0,none⟩) (by simp;omega) (.int .i64 k)).setOther (a:=⟨w.heap.size+1+1,1,none⟩) (by simp;omega) (.int .i64 (nk+1))).drew;refine TU.out w2 _ _ g kb kc d5.out _ g5 (fun F0 a8 a9 a5 i hi=>⟨kb i,kc i,?_,a5 i hi⟩)
  have E:∀ j,j<n*8->F j=F0 j:=fun j hj=>by
   have h1:=HF.out.cell hj;rw[a8.cell hj] at h1;exact(Option.some.inj h1).symm
  have g9:=a5 i hi;obtain⟨e0,e1,e2,e3,e4,e5,e6,e7,e8,b2,G,hG,e9⟩:=a9 i hi;have b4:=(((hG.setOther (a:=⟨g,k*8,none⟩) (by simp;omega) (.bool true)).setOther (a:=⟨g,k*8+1,none⟩) (by simp;omega) (.int .i64 (nk+1))).setOther (a:=⟨g,k*8+2,none⟩) (by simp;omega) (.int .i64 t)).alloc (Obj.cells #[Value.slice (some ⟨g,0,none⟩) n n] 43);rw[<- b1.out] at b4;have b5:=(((b4.setOther (a:=⟨w.heap.size+1,0,none⟩) (by simp;omega) (.slice (some ⟨g,0,none⟩) n n)).setOther (a:=⟨w.heap.size+1+1,0,none⟩) (by simp;omega) (.int .i64 k)).setOther (a:=⟨w.heap.size+1+1,1,none⟩) (by simp;omega) (.int .i64 (nk+1))).drew;rw[d6.out i];by_cases e:i=k
  ·subst e;rw[yb rfl];unfold zbQ;refine⟨?_,?_,?_,?_,?_,?_,?_,?_,e8,b2,G,b5,e9⟩
   all_goals dsimp only
   ·rw[ya (by omega),ya (by omega),yb rfl]
   ·rw[ya (by omega),yb rfl,d4.out]
   ·rw[yb rfl]
   ·rw[ya (by omega),ya (by omega),ya (by omega),E _ (by omega),e3]
   ·rw[ya (by omega),ya (by omega),ya (by omega),E _ (by omega),e4]
   ·rw[ya (by omega),ya (by omega),ya (by omega),E _ (by omega),e5]
   ·rw[ya (by omega),ya (by omega),ya (by omega),E _ (by omega),e6]
   ·rw[ya (by omega),ya (by omega),ya (by omega),E _ (by omega),e7]
  ·rw[ya e];refine⟨?_,?_,?_,?_,?_,?_,?_,?_,e8,b2,G,b5,e9⟩
   all_goals
    dsimp only;rw[ya (by omega),ya (by omega),ya (by omega),E _ (by omega)];assumption
def zbS(x:Nd)(k:Nat)(cl:Bool):Nd:={ zbQ x 0 with h:=(k:Int),c:=cl }
theorem WF.no_under{S:List Nd}(h:WF S){f:Nat}(O:f<S.length)(F:(nd S f).u=false){i a:Nat}(hi:i<S.length)(ha:Up S a i f):a=0:=by
 obtain⟨t0,m0,p0,k0,h0,c0⟩:=h.unused O F
 cases a with
 | zero=>rfl
 | succ a =>
  exfalso
  have key:∀ (a i:Nat),i<S.length->Up S (a+1) i f->False:=by
   intro a
   induction a with
   | zero =>
    rintro i hi ⟨z,J,D,e⟩;have M:z=f:=e;subst M;unfold zak at D;by_cases E:(nd S i).h = -1
    ·rw[yb E] at D;have T:(nd S i).p≠-1:=(by omega);obtain⟨pa,Z,_,_,_,I⟩:=h.parent_place hi T;have:pa=z:=(by omega);rw[this,F] at I;cases I
    ·rw[ya E] at D;have:=(h.hosts i hi E).1;rw[D,yi,F] at this;cases this
   | succ a U =>
    rintro i hi ⟨z,J,D,e⟩;exact U z J e
  exact key a i hi ha
theorem WF.attach{S:List Nd}(h:WF S){f k:Nat}(cl:Bool)(M:f<S.length)(a8:zcn (nd S f)=true)(hk:k<S.length)(J:(nd S k).u=true)(hH:zfj S k=false):WF (S.set f (zbS (nd S f) k cl)):=by
 obtain⟨O,hn⟩:=zfG a8;obtain⟨t0,m0,p0,k0,h0,c0⟩:=h.unused M O;obtain⟨n0,n1,_⟩:=h.uses M;have Z:k≠f:=fun e=>by rw[e,O] at J;cases J
 have T:=zgn.1 hH;have hl:(S.set f (zbS (nd S f) k cl)).length=S.length:=by simp
 have D:∀ i,nd (S.set f (zbS (nd S f) k cl)) i=if i=f then zbS (nd S f) k cl else nd S i:=fun i=>zcR S f i _ M
 refine⟨by rw[hl];exact h.small,fun i hi=>?_,zfk (fun i hi=>?_) (fun i hi x E=>?_) (fun j hj F=>?_),fun i hi=>?_,fun i hi=>?_⟩
 ·rw[hl] at hi |-;rw[D];split
  ·refine zgt ?_ (zeH ?_ ?_ (fun y hy=>absurd hy (by unfold zbS zbQ;dsimp only;rw[k0];simp))) ?_
   ·unfold zcT zbS zbQ;simp only[Bool.and_eq_true,decide_eq_true_eq];exact⟨⟨by omega,by omega⟩,⟨by omega,by omega⟩,by rw[m0];omega,by rw[m0];omega⟩
   ·unfold zbS zbQ zlJ;exact yF ⟨by dsimp only;omega,by dsimp only;omega⟩
   ·unfold zbS zbQ zlJ;exact yF ⟨by dsimp only;omega,by dsimp only;omega⟩
   ·unfold zec zbS zbQ;simp only[if_true];rw[ya (by omega),ya (by omega)];exact yF p0
  ·exact h.node i hi
 ·rw[hl] at hi;rw[D];split
  ·unfold zbS zbQ;dsimp only;rw[k0];exact List.nodup_nil
  ·exact h.kids_nodup hi
 ·rw[hl] at hi |-;rw[D] at E
  split at E
  ·unfold zbS zbQ at E;dsimp only at E;rw[k0] at E;cases E
  ·obtain⟨y,rfl,y1,y2,y3,_⟩:=h.kid hi E;have a6:y≠f:=fun e=>by rw[e,O] at y2;cases y2
   exact⟨y,rfl,y1,by rw[D,ya a6];exact y2,by rw[D,ya a6];exact y3⟩
 ·rw[hl] at hj |-;rw[D] at F
  split at F
  ·exact absurd (show (zbS (nd S f) k cl).p = -1 from p0) F
  ·obtain⟨i,i1,i2,_,i3,_⟩:=h.parent_place hj F;refine⟨i,i2,?_⟩;rw[D];split
   ·rename_i e;subst e;rw[k0] at i3;cases i3
   ·exact i3
 ·rw[hl] at hi;intro hh;by_cases e:i=f
  ·subst e;have I:(nd (S.set i (zbS (nd S i) k cl)) i).h=(k:Int):=(by rw[D,yb rfl];rfl);rw[I,yi];refine⟨by rw[D,ya Z];exact J,fun i' U=>?_⟩;rw[D,ya (by omega)];exact T i' (by omega)
  ·have I:nd (S.set f (zbS (nd S f) k cl)) i=nd S i:=(by rw[D,ya e]);rw[I] at hh |-;obtain⟨g1,g2⟩:=h.hosts i hi hh;refine⟨?_,fun i' U=>?_⟩
   ·rw[D];split
    ·rfl
    ·exact g1
   ·rw[D];split
    ·exact fun e2=>T i hi e2.symm
    ·exact g2 i' U
 ·rw[hl] at hi;have hr:∀ y,y<S.length->y≠f->zak (nd (S.set f (zbS (nd S f) k cl)) y)=zak (nd S y):=fun y _ e=>by rw[D,ya e]
  have a9:zak (nd (S.set f (zbS (nd S f) k cl)) f)=k:=by
   rw[D,yb rfl];unfold zak zbS zbQ;dsimp only;rw[ya (by omega)]
  have a7:∀ (j x:Nat),x<S.length->x≠f->¬ Up (S.set f (zbS (nd S f) k cl)) j x f:=fun j x E a5 b1=>by
   rcases zhh hl hr E b1 with g |⟨a,m,_,g,_⟩
   ·have:=h.no_under M O E g;subst this;exact a5 g
   ·have:=h.no_under M O E g;subst this;exact a5 g
  cases hb:zbv (S.set f (zbS (nd S f) k cl)) i i with
  | false=>rfl
  | true =>
   obtain⟨j,j1,j2,j3⟩:=zfQ (by rw[hl];exact hi) hb;rw[hl] at j2;by_cases e:i=f
   ·subst e;obtain⟨j', rfl⟩:∃ j', j=j' + 1:=⟨j-1,by omega⟩;obtain⟨z,hz,b0,b2⟩:=j3;rw[a9] at b0;have:z=k:=(by omega);subst this;exact absurd b2 (a7 j' z hk Z)
   ·rcases zhh hl hr hi j3 with g |⟨a,m,_,g,_⟩
    ·exact absurd g (h.no_ring hi j1 j2)
    ·have:=h.no_under M O hi g;subst this;exact absurd g e
theorem zrf(x:Nd)(k:Value)(w:World) :
  yL 219 #[.agg #[.bool x.u,.int .i64 x.n,.int .i64 x.t,.int .i64 x.m,.int .i64 x.p,k,.int .i64 x.h,.bool x.c]] w fun e w' => e=.returned (.int .i64 x.p)/\Below w.heap.size w w' := by
 go_enter Tryz.func219,Tryz.ntmps219
 go_wp2
 go_ret;exact⟨rfl,(yk _ _).alloc (yj _) _⟩
theorem znQ(W0 W:World)(a:Option Addr)(c:Nat)(S:List Nd)(near:Bool)(F D E gs:Nat)(hN:S.length<=24)(hS:zah W0 a S)(U:Below W0.heap.size W0 W)(h1:W0.heap.size<=D)(h2:W0.heap.size<=gs)
  (O:F<W.heap.size) (J:D<W.heap.size) (T:gs<W.heap.size) (M:E<W.heap.size) (n1:F≠D) (n2:F≠gs) (n3:E≠D) (n4:E≠gs) (n5:D≠gs)
  (cs:W.cell? ⟨F,0,none⟩=some (.slice (some ⟨gs,0,none⟩) S.length S.length)) (Z:W.cell? ⟨E,0,none⟩=some (.bool near)) (st:(Nat->Bool) × List Int) (place:Int) (w:World) (h:zla W D gs S.length st w) :
  yL 150 #[.agg #[.slice a S.length c],.int .i64 place,.func (.func 219) #[] #[],.func (.func 220) #[] #[.pointer (some ⟨F,0,none⟩),.pointer (some ⟨D,0,none⟩),.pointer (some ⟨E,0,none⟩)]] w fun e w' => e=.returned (.tuple #[])/\zla W D gs S.length (zgK S near st place) w' := by
 refine(zmt a c S w place 219 220 #[.pointer (some ⟨F,0,none⟩),.pointer (some ⟨D,0,none⟩),.pointer (some ⟨E,0,none⟩)] Nd.p (zbn near) (zla W D gs S.length) (fun k=>k=D\/k=gs\/W.heap.size<=k) st (by omega)
  (fun st w1 h=>hS.below (U.trans (h.1.below (B:=W0.heap.size) U.size (fun k I=>by rcases I with I|I <;> omega))))
  (fun st w1 w2 h hb=>h.below hb)
  (yJ Tryz.func219 (by kernel_rfl) rfl) (yJ Tryz.func220 (by kernel_rfl) rfl)
  (fun x k w1=>zrf x k w1)
  (fun st x w1 h _ hx=>?_) h).mono ?_
 ·have hq:0<=x/\x<=(S.length:Int)-1:=of_decide_eq_true hx;obtain⟨j,rfl⟩:∃ j:Nat,x=(j:Int):=⟨x.toNat,by omega⟩;refine(zjX W F D E gs S.length near st j w1 (by omega) (by omega) h O J T M n1 n2 n3 n4 n5 cs Z).mono ?_;rintro e w2 ⟨rfl,g1,g2,g3⟩;exact⟨rfl,g1,g2,fun k I=>g3 k _ _ I (by decide) (by decide) (by decide)⟩
 ·rintro e w' ⟨rfl,g1,_⟩;exact⟨rfl,g1⟩
theorem zqv(w:World)(D E o3 F I:Obj):Below w.heap.size w (((((w.alloc D).alloc E).alloc o3).alloc F).alloc I):=(((zas w D E o3).alloc (by simp;omega) _).alloc (by simp;omega) _)
theorem zrV(a:Option Addr)(c:Nat)(S:List Nd)(pa:Option Addr)(pc:Nat)(places:List Int)(near:Bool)(w:World)(hN:S.length<=24)(hS:zah w a S)(hL:places.length<=1000000)(hP:zal w pa places) :
  yL 213 #[.agg #[.slice a S.length c],.slice pa places.length pc,.bool near] w fun e w' => ∃ v,e=.returned v/\Below w.heap.size w w' /\ w'.ownsRow w.heap.size 3 1 v (zcP S near places).length ((zcP S near places).map (Value.int .i64))/\(zcP S near places).length<=S.length:=by
 have b5:=ztt S.length hN;have HS:Hid (zah w a S):=hS;have HP:Hid (zal w pa places):=hP;have HT:Hid (∀ k,k<places.length->zdO S near (places.take (k+1))=zgK S near (zdO S near (places.take k)) (places.getD k 0)):=fun k I=>zml S near places k I;have CL:Hid (∀ W bs bf bn gs,_):=fun W bs bf bn gs=>fun(D:Below w.heap.size w W) h1 h2 b0 a8 b1 a9 n1 n2 n3 n4 n5 Z U st place W1 h=>znQ w W a c S near bs bf bn gs hN hS D h1 h2 b0 a8 b1 a9 n1 n2 n3 n4 n5 Z U st place W1 h;have H0:Hid (zdO S near (places.take 0)=(fun _=>false,[])):=rfl;have HE:Hid (zcP S near places=(zdO S near (places.take places.length)).2):=by show _=_;rw[List.take_length];rfl
 generalize zcP S near places=R at *;clear hS hP;generalize hn:S.length=n at *;have HN:Hid _:=hn;clear hn;generalize hl:places.length=L at *;have HL:Hid _:=hl;clear hl
 go_enter Tryz.func213,Tryz.ntmps213
 go_wp2
 obtain⟨W,D⟩:∃ W,W=(((((w.alloc (.cells #[.slice a n c] 43)).alloc (.cells #[.bool near] 4)).alloc (.cells (madeCells #[.bool false] n) 4)).alloc (.cells #[.slice (some ⟨w.heap.size+1+1,0,none⟩) n n] 259)).alloc (.cells #[.slice none 0 0] 48)):=⟨_,rfl⟩;rw[<- D];have hb:Below w.heap.size w W:=by rw[D];exact zqv _ _ _ _ _ _
 have hz:W.heap.size=w.heap.size+1+1+1+1+1:=by rw[D];simp
 have c0:W.cell? ⟨w.heap.size,0,none⟩=some (.slice a n c):=by rw[D];go_simp
 have U:W.cell? ⟨w.heap.size+1,0,none⟩=some (.bool near):=by rw[D];go_simp
 have Z:W.cell? ⟨w.heap.size+1+1+1,0,none⟩=some (.slice (some ⟨w.heap.size+1+1,0,none⟩) n n):=by rw[D];go_simp
 have M:zla W (w.heap.size+1+1+1+1) (w.heap.size+1+1) n (fun _=>false,[]) W:=by
  refine⟨Off.refl _ _,?_,⟨by simp,fun x hx=>by cases hx⟩,.slice none 0 0,?_,World.ownsRow_nil _ _ _ _⟩
  ·rw[D];have h0:=World.rowIs_made ((w.alloc (.cells #[.slice a n c] 43)).alloc (.cells #[.bool near] 4)) (.bool false) n 4;have h1:Below (w.heap.size+1+1+1) (((w.alloc (.cells #[.slice a n c] 43)).alloc (.cells #[.bool near] 4)).alloc (.cells (madeCells #[.bool false] n) 4)) (((((w.alloc (.cells #[.slice a n c] 43)).alloc (.cells #[.bool near] 4)).alloc (.cells (madeCells #[.bool false] n) 4)).alloc (.cells #[.slice (some ⟨w.heap.size+1+1,0,none⟩) n n] 259)).alloc (.cells #[.slice none 0 0] 48)):=((yk _ _).alloc (by simp) _).alloc (by first|(simp;done)|(simp;omega)) _;simp only[yr] at h0;exact h0.of_block (h1.block _ (by omega))
  ·rw[D];have:=yK ((((w.alloc (.cells #[.slice a n c] 43)).alloc (.cells #[.bool near] 4)).alloc (.cells (madeCells #[.bool false] n) 4)).alloc (.cells #[.slice (some ⟨w.heap.size+1+1,0,none⟩) n n] 259)) (.cells #[.slice none 0 0] 48);simpa using this
 have a7:Hid _:=M;have J:Hid (Below w.heap.size w W):=hb;have a5:Hid _:=CL.out W (w.heap.size+1+1+1) (w.heap.size+1+1+1+1) (w.heap.size+1) (w.heap.size+1+1) hb (by omega) (by omega) (by omega) (by omega) (by omega) (by omega) (by omega) (by omega) (by omega) (by omega) (by omega) Z U;have C0:Hid (∀ st w1,zla W (w.heap.size+1+1+1+1) (w.heap.size+1+1) n st w1->w1.cell? ⟨w.heap.size,0,none⟩=some (.slice a n c)/\Below w.heap.size w w1/\w.heap.size<w1.heap.size):=fun st w1 h=>⟨(h.1.cell (p:=⟨w.heap.size,0,none⟩) (by show w.heap.size < _;omega) (by show ¬ (w.heap.size=w.heap.size+1+1+1+1\/w.heap.size=w.heap.size+1+1);omega)).trans c0,J.out.trans (h.1.below J.out.size (fun k I=>by rcases I with I|I <;> omega)),by have:=h.1.size;omega⟩;clear D hb c0 U Z M CL
 go_loopg [17] L (fun g1 s17 wr=>∃ k:Nat,k<=L/\L-k<=g1/\s17=.int .i64 k/\Hid (zla W (w.heap.size+1+1+1+1) (w.heap.size+1+1) n (zdO S near (places.take k)) wr))
 case atStart=>exact⟨0,by omega,by omega,rfl,by rw[H0.out];exact a7⟩
 case round =>
  obtain⟨k,I,b4,rfl,T⟩:=hrel;obtain⟨c0,E,b7⟩:=C0.out _ _ T.out;have a6:Hid _:=E;by_cases O:k<L
  ·have b3:(k:Int)<(L:Int):=(by omega);obtain⟨pb,po,rfl,hp⟩:=(HP.out.below E) k (by rw[HL.out];exact O);have b6:=yd _ _ hp;have hc:=a5.out (zdO S near (places.take k)) (places.getD k 0) wr T.out;have TK:=HT.out k O;rw[<- TK] at hc;have HC:Hid _:=hc;clear hc TK E;generalize places.getD k 0=y at *
   go_wp2_with fail
   refine ye HC.out ?_;rintro e w2 ⟨rfl,I2⟩
   go_wp2
   go_roundg (L-(k+1))
   case measure=>omega
   case rel=>exact⟨k+1,by omega,by omega,by go_num,I2⟩
  ·have b2:k=L:=(by omega);subst b2;obtain⟨hO,_,_,v,hv,F⟩:=T.out;have cb:=zaI hv
   have OW:Hid (wr.ownsRow w.heap.size 3 1 v R.length (R.map (Value.int .i64))):=by
    rw[HE.out];exact zfs F (by omega)
   have SM:Hid (R.length<=n):=(by show _<=_;rw[HE.out];exact T.out.small);clear hO hv F E
   go_wp2
   go_ret;exact⟨v,rfl,a6.out,OW.out,SM.out⟩
structure Fr where
 p:Int
 o:Int
 m:Int
 t:Int
 g:Bool
 deriving DecidableEq
def fr(L:List Fr)(i:Nat):Fr:=L.getD i ⟨0,0,0,0,false⟩
theorem zgk{L:List Fr}{i:Nat}(h:i<L.length):fr L i=L[i]:=zae L _ h
theorem zzv{L M:List Fr}(hl:L.length=M.length)(h:∀ i,i<L.length->fr L i=fr M i):L=M:=by
 apply List.ext_getElem hl;intro i h1 D;have:=h i h1
 rwa [zgk h1,zgk D] at this
theorem zAO{P:Int->Prop}(h:∀ a:Fin 8,P ((a.val:Nat):Int)){a:Int}(h0:0<=a)(D:a<=7):P a:=by
 obtain⟨n,rfl⟩:=Int.eq_ofNat_of_zero_le h0;exact h ⟨n,by omega⟩
def zgC(x:Fr)(k:Nat):Prop:=if k=0 then x.p = -1 else 0<=x.p/\x.p<=(k:Int)-1
def zdQ(x:Fr):Prop:=(0<=x.o/\x.o<=9)/\(0<=x.m/\x.m<=7)/\(0<=x.t/\x.t<=1000)
def zgO(x y:Fr):Prop:=bits .andNot .i64 x.m y.m=0/\(x.g=true\/y.g=false)
instance (x:Fr) (k:Nat):Decidable (zgC x k):=by unfold zgC;infer_instance
instance (x:Fr):Decidable (zdQ x):=by unfold zdQ;infer_instance
instance (x y:Fr):Decidable (zgO x y):=by unfold zgO;infer_instance
def frE(L:List Fr)(k:Nat):Int:=if ¬ zgC (fr L k) k then 4 else if ¬ zdQ (fr L k) then 2 else if 0<k/\¬ zgO (fr L k) (fr L (fr L k).p.toNat) then 3 else 0
def znW(L:List Fr):Nat->Nat->Int
 | _,0=>0
 | i,n+1=>if frE L i=0 then znW L (i+1) n else frE L i
def znV(L:List Fr)(i:Nat):Int:=znW L i (L.length-i)
def zaO(L:List Fr):Int:=if 8<L.length then 1 else znV L 0
theorem zsI{L:List Fr}{i:Nat}(h:i<L.length):znV L i=if frE L i=0 then znV L (i+1) else frE L i:=by
 unfold znV;obtain⟨n,hn⟩:∃ n,L.length-i=n+1:=⟨L.length-i-1,by omega⟩;rw[hn,znW,show L.length-(i+1)=n by omega]
theorem zvv{L:List Fr}{i:Nat}(h:L.length<=i):znV L i=0:=by
 unfold znV;rw[show L.length-i=0 by omega,znW]
structure zcl (L:List Fr):Prop where
 few:L.length<=8
 ok:∀ i,i<L.length->frE L i=0
theorem zkC{L:List Fr}:∀ n i,znW L i n=0↔∀ j,i<=j->j<i+n->frE L j=0
 | 0,i=>by simp[znW];omega
 | n+1,i=>by
  rw[znW];by_cases h:frE L i=0
  ·rw[yb h,zkC n (i+1)];constructor
   ·intro H j h1 D;by_cases e:j=i
    ·rw[e];exact h
    ·exact H j (by omega) (by omega)
   ·intro H j h1 D;exact H j (by omega) (by omega)
  ·rw[ya h];constructor
   ·intro H;exact absurd H h
   ·intro H;exact H i (yj _) (by omega)
theorem zdv{L:List Fr}:zaO L=0↔zcl L:=by
 unfold zaO znV;by_cases h:8<L.length
 ·rw[yb h];exact⟨fun e=>by omega,fun R=>absurd R.few (by omega)⟩
 ·rw[ya h,zkC];exact⟨fun H=>⟨by omega,fun i hi=>H i (by omega) (by omega)⟩,fun R j _ D=>R.ok j (by omega)⟩
theorem zde{L:List Fr}{k:Nat}:frE L k=0↔zgC (fr L k) k/\zdQ (fr L k)/\(0<k->zgO (fr L k) (fr L (fr L k).p.toNat)):=by
 unfold frE;by_cases h1:zgC (fr L k) k
 ·rw[ya (yI h1)];by_cases E:zdQ (fr L k)
  ·rw[ya (yI E)];by_cases D:0<k/\¬ zgO (fr L k) (fr L (fr L k).p.toNat)
   ·rw[yb D];exact⟨fun e=>by omega,fun⟨_,_,h⟩=>absurd (h D.1) D.2⟩
   ·rw[ya D];refine⟨fun _=>⟨h1,E,fun h0=>?_⟩,fun _=>rfl⟩;by_cases F:zgO (fr L k) (fr L (fr L k).p.toNat)
    ·exact F
    ·exact absurd ⟨h0,F⟩ D
  ·rw[yb E];exact⟨fun e=>by omega,fun⟨_,h,_⟩=>absurd h E⟩
 ·rw[yb h1];exact⟨fun e=>by omega,fun⟨h,_⟩=>absurd h h1⟩
theorem zcl.first{L:List Fr}(R:zcl L)(h:0<L.length):(fr L 0).p = -1:=by
 have:=(zde.1 (R.ok 0 h)).1;unfold zgC at this;simpa using this
theorem zcl.up{L:List Fr}(R:zcl L){i:Nat}(h:i<L.length)(h0:0<i):∃ q:Nat,(fr L i).p=q/\q<i/\zgO (fr L i) (fr L q):=by
 obtain⟨h1,_,F⟩:=zde.1 (R.ok i h);unfold zgC at h1;rw[ya (by omega)] at h1;obtain⟨q,E⟩:=Int.eq_ofNat_of_zero_le h1.1;have D:=F h0;rw[E] at D;refine⟨q,E,by omega,D⟩
theorem zcl.low{L:List Fr}(R:zcl L){i:Nat}(h:i<L.length):(fr L i).p<i:=by
 by_cases h0:0<i
 ·obtain⟨q,E,D,_⟩:=R.up h h0;omega
 ·have:i=0:=by omega
  subst this;rw[R.first h];omega
theorem zcl.may{L:List Fr}(R:zcl L){i:Nat}(h:i<L.length):0<=(fr L i).m/\(fr L i).m<=7:=(zde.1 (R.ok i h)).2.1.2.1
def zcW(L:List Fr):Nat->Int->Int->Bool
 | 0,_,_=>false
 | n+1,k,top=>if 0<=k/\k<L.length then (if k=top then true else zcW L n (fr L k.toNat).p top) else false
def inF(L:List Fr)(k top:Int):Bool:=zcW L L.length k top
theorem zes{L:List Fr}{n:Nat}{k top:Int}(h:¬ (0<=k/\k<L.length)):zcW L n k top=false:=by
 cases n with
 | zero=>rfl
 | succ n=>rw[zcW,ya h]
theorem znw{L:List Fr}(R:zcl L)(top:Int):∀ (n m:Nat) (k:Int),k<n->k<m->zcW L n k top=zcW L m k top
 | 0,m,k,h1,E=>by rw[zes (by omega),zes (by omega)]
 | n+1,0,k,h1,E=>by rw[zes (by omega),zes (by omega)]
 | n+1,m+1,k,h1,E=>by
  rw[zcW,zcW];by_cases D:0<=k/\k<L.length
  ·rw[yb D,yb D];by_cases e:k=top
   ·rw[yb e,yb e]
   ·rw[ya e,ya e];have:=R.low (i:=k.toNat) (by omega);exact znw R top n m _ (by omega) (by omega)
  ·rw[ya D,ya D]
theorem ztd{L:List Fr}{k:Nat}(h:k<L.length):inF L k k=true:=by
 unfold inF;obtain⟨n,hn⟩:∃ n,L.length=n+1:=⟨L.length-1,by omega⟩;rw[hn,zcW,yb (by omega),yb rfl]
theorem zvQ{L:List Fr}(R:zcl L){i:Nat}{top:Int}(h:i<L.length)(D:(i:Int)≠top):inF L i top=inF L (fr L i).p top:=by
 unfold inF;have hl:=R.low h;obtain⟨n,hn⟩:∃ n,L.length=n+1:=⟨L.length-1,by omega⟩
 have e:zcW L L.length (i:Int) top=zcW L n (fr L i).p top:=by
  rw[hn,zcW,yb (by omega),ya D,yi]
 rw[e];exact znw R top _ _ _ (by omega) (by omega)
def zax(L:List Fr)(k:Int):Int:=if ¬ (0<=k/\k<L.length) then 4 else if (fr L k.toNat).g=true then 5 else 0
def zcs(L:List Fr)(k:Int):Int:=if zaO L=0 then zax L k else zaO L
theorem zfD{L:List Fr}{k:Int}(h:zax L k=0):∃ q:Nat,k=q/\q<L.length/\(fr L q).g=false:=by
 unfold zax at h;by_cases h1:0<=k/\k<L.length
 ·rw[ya (yI h1)] at h;obtain⟨q,rfl⟩:=Int.eq_ofNat_of_zero_le h1.1
  cases hg:(fr L q).g with
  | true=>rw[yb (by exact hg)] at h;cases h
  | false=>exact⟨q,rfl,by omega,hg⟩
 ·rw[yb h1] at h;cases h
theorem zfg{L:List Fr}{k:Int}(h:zcs L k=0):zcl L/\∃ q:Nat,k=q/\q<L.length/\(fr L q).g=false:=by
 unfold zcs at h;by_cases h1:zaO L=0
 ·rw[yb h1] at h;exact⟨zdv.1 h1,zfD h⟩
 ·rw[ya h1] at h;exact absurd h h1
def zjR(L:List Fr)(k:Int):List Fr:=(List.range L.length).map fun i=>{ fr L i with g:=(fr L i).g || inF L i k }
theorem zdu(L:List Fr)(k:Int):(zjR L k).length=L.length:=by unfold zjR;simp
theorem zpf{L:List Fr}{k:Int}{i:Nat}(h:i<L.length):fr (zjR L k) i={ fr L i with g:=(fr L i).g || inF L i k }:=by
 rw[zgk (by rw[zdu];exact h)];unfold zjR;simp
theorem zsF{L:List Fr}(R:zcl L)(k:Int):zcl (zjR L k):=by
 refine⟨by rw[zdu];exact R.few,fun i hi=>?_⟩;rw[zdu] at hi;obtain⟨a1,a2,a3⟩:=zde.1 (R.ok i hi);rw[zde,zpf hi];refine⟨a1,a2,fun h0=>?_⟩;dsimp only;obtain⟨q,E,F,D⟩:=R.up hi h0;rw[E,yi,zpf (by omega)];refine⟨D.1,?_⟩;dsimp only;by_cases e:(i:Int)=k
 ·left;subst e;rw[ztd hi,Bool.or_true]
 ·rw[zvQ R hi e,E];rcases D.2 with h|h
  ·left;rw[h,Bool.true_or]
  ·rw[h]
   cases hin:inF L (q:Int) k with
   | true=>left;rw[Bool.or_true]
   | false=>right;rfl
def zki(L:List Fr)(k:Int):Nat:=L.countP (fun f=>decide (f.p=k) && !f.g)
theorem zwe{L:List Fr}{j:Nat}(k:Int)(h:j<L.length):zki (L.take (j+1)) k=zki (L.take j) k+(if (fr L j).p=k/\(fr L j).g=false then 1 else 0):=by
 unfold zki;rw[List.take_succ_eq_append_getElem h,List.countP_append,zgk h];by_cases h1:L[j].p=k
 ·cases hg:L[j].g <;> simp[hg,h1]
 ·simp[h1]
end Go.Proofs.YtcbcpomacdngmaaGreat
