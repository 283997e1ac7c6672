/-
  x
-/
import Derived.Test.YtcbcpomacdngmaaGreatQ12
namespace Go.Proofs.YtcbcpomacdngmaaGreat
set_option maxRecDepth 100000
set_option maxHeartbeats 4000000
set_option linter.unusedVariables false
open Go.RowKit
def znO(w:World)(g:Nat)(S:List Nd):Prop :=
 ∃ F,w.rowIs g 57 (S.length*8) F/\∀ i,i<S.length->∃ kb kc,NdR w F (i*8) (nd S i) kb kc/\g<kb
theorem znO.nds{w:World}{g:Nat}{S:List Nd}(h:znO w g S):zai w (some ⟨g,0,none⟩) S:=fun i hi=>by
 obtain⟨F,D,hN⟩:=h;obtain⟨kb,kc,⟨E,I,J,M,O,T,U,Z,e8,a5,G,hG,e9⟩,_⟩:=hN i hi;refine⟨g,0,rfl,?_⟩;rw[yB];refine⟨?_,?_,?_,?_,?_,⟨some ⟨kb,0,none⟩,kc,?_,fun j hj=>⟨kb,0,rfl,?_⟩⟩,?_,?_⟩
 ·rw[D.cell (by omega),E]
 ·rw[D.cell (by omega),I]
 ·rw[D.cell (by omega),J]
 ·rw[D.cell (by omega),M]
 ·rw[D.cell (by omega),O]
 ·rw[D.cell (by omega),T]
 ·rw[yB,hG.cell (by omega),e9 j hj]
 ·rw[D.cell (by omega),U]
 ·rw[D.cell (by omega),Z]
theorem znO.up{w w3:World}{g:Nat}{S:List Nd}(h:znO w g S)(D:∀ b,g<=b->b<w.heap.size->w3.heap[b]?=w.heap[b]?):znO w3 g S:=by
 obtain⟨F,I,hN⟩:=h;refine⟨F,I.of_block (D g (yk _) I.lt),fun i hi=>?_⟩;obtain⟨kb,kc,⟨O,T,U,Z,e4,e5,e6,e7,e8,E,G,J,e9⟩,M⟩:=hN i hi;exact⟨kb,kc,⟨O,T,U,Z,e4,e5,e6,e7,e8,E,G,J.of_block (D kb (Nat.le_of_lt M) J.lt),e9⟩,M⟩
theorem znO.root{w:World}{g:Nat}{S:List Nd}{k:Nat}(h:znO w g S)(hk:k<S.length)(hh:Int)(I:Bool) :
  znO ((w.setCell ⟨g,k*8+6,none⟩ (.int .i64 hh)).setCell ⟨g,k*8+7,none⟩ (.bool I)) g (S.set k { nd S k with h:=hh,c:=I }):=by
 obtain⟨F,hF,hN⟩:=h;refine⟨_,by rw[List.length_set];exact(hF.set (k*8+6) (.int .i64 hh)).set (k*8+7) (.bool I),fun i hi=>?_⟩;rw[List.length_set] at hi;obtain⟨kb,kc,⟨T,U,Z,e3,e4,e5,e6,e7,M,D,G,hG,O⟩,J⟩:=hN i hi;have E:=(hG.setOther (a:=⟨g,k*8+6,none⟩) (by simp;omega) (.int .i64 hh)).setOther (a:=⟨g,k*8+7,none⟩) (by simp;omega) (.bool I);refine⟨kb,kc,?_,J⟩;rw[zcX S k i _ hk];by_cases e:i=k
 ·subst e;rw[yd rfl];refine⟨?_,?_,?_,?_,?_,?_,?_,?_,M,D,G,E,O⟩
  all_goals dsimp only
  ·rw[ya (by omega),ya (by omega),T]
  ·rw[ya (by omega),ya (by omega),U]
  ·rw[ya (by omega),ya (by omega),Z]
  ·rw[ya (by omega),ya (by omega),e3]
  ·rw[ya (by omega),ya (by omega),e4]
  ·rw[ya (by omega),ya (by omega),e5]
  ·rw[ya (by omega),yd rfl]
  ·rw[yd rfl]
 ·rw[ya e];refine⟨?_,?_,?_,?_,?_,?_,?_,?_,M,D,G,E,O⟩
  all_goals
   dsimp only;rw[ya (by omega),ya (by omega)];assumption
theorem zpU(a:Option Addr)(c:Nat)(S:List Nd)(t:Int)(w:World)(hN:S.length<=24)(hK:∀ i,i<S.length->(nd S i).ks.length<=1000)(hS:zai w a S)(hC:zbo S=0)(h7:0<=t)(h8:t<=99)(k:Nat)(hk:k<S.length)(T:zcu (nd S k)=true)(h0:0<=(nd S k).n)(a6:∀ i,i<k->zcu (nd S i)=false) :
  Calls Tryz.prog 182 #[.agg #[.slice a S.length c],.int .i64 t] w fun e w' => ∃ g,e=.returned (.tuple #[.agg #[.slice (some ⟨g,0,none⟩) S.length S.length],.agg #[.int .i64 k,.int .i64 ((nd S k).n+1)],.int .i64 0])/\Below w.heap.size w w' /\ w.heap.size<=g/\znO w' g (S.set k (zbS (nd S k) t)):=by
 have h2:(nd S k).n<1000000:=by
  unfold zcu at T;simp at T;exact T.2
 have HS:Hid (zai w a S):=hS;have df:=fun(W:World) (hW:zai W a S)=>zmO a c S W (by omega) hW k hk T a6;have DF:Hid _:=df;have dc:=fun(W:World) (hW:zai W a S)=>copy_any a c S W hN hK hW;have DC:Hid _:=dc;have d0:=fun W hW=>zec a c S W (by omega) (fun i hi=>yH (hK i hi) (by omega)) hW;rw[hC] at d0;have D0:Hid _:=d0
 have TU:Hid (∀ (w w' : World) (B g:Nat) (kb kc:Nat->Nat) (h:Own w B g S kb kc S.length) (F' : Nat->Value) (J:w'.rowIs g 57 (S.length*8) F')
  (hN:∀ F,w.rowIs g 57 (S.length*8) F->(∀ i,i<S.length->NdR w F (i*8) (nd S i) (kb i) (kc i))->(∀ i,i<S.length->g<kb i)->∀ i,i<S.length->∃ c8 g6,NdR w' F' (i*8) (nd (S.set k (zbS (nd S k) t)) i) c8 g6/\g<c8),znO w' g (S.set k (zbS (nd S k) t))):=fun w w' B g kb kc h F' J hN=>by
  obtain⟨_,F,a8,a9,a5,_⟩:=h;exact⟨F', by rw[List.length_set];exact J,fun i hi=>hN F a8 a9 a5 i (by rw[List.length_set] at hi;exact hi)⟩
 have d6:Hid (∀ i,nd (S.set k (zbS (nd S k) t)) i=if i=k then zbS (nd S k) t else nd S i):=fun i=>zcX S k i _ hk
 have OC:Hid (∀ (wr:World) (B g:Nat) (kb kc:Nat->Nat),Own wr B g S kb kc S.length->(g<wr.heap.size/\(∀ o,wr.frozen? ⟨g,o,none⟩=false)/\(∃ F:Nat->Value,wr.rowIs g 57 (S.length*8) F)/\wr.cell? ⟨g,k*8,none⟩=some (.bool (nd S k).u)/\wr.cell? ⟨g,k*8+1,none⟩=some (.int .i64 (nd S k).n)/\wr.cell? ⟨g,k*8+2,none⟩=some (.int .i64 (nd S k).t))):=fun wr B g kb kc h=>by
  obtain⟨_,F,J,d8,_⟩:=h;obtain⟨e0,e1,e2,_⟩:=d8 k hk;exact⟨J.lt,J.frozen,⟨F,J⟩,by rw[J.cell (by omega),e0],by rw[J.cell (by omega),e1],by rw[J.cell (by omega),e2]⟩
 clear hS a6 df dc d0 hC hK T;generalize hn:S.length=n at *;generalize b7:(nd S k).n=nk at *;have h4:(k:Int)<(n:Int):=by omega
 have h6:decide ((k:Int)<0)=false:=yF (by omega);clear hn;have d4:Hid _:=b7;clear b7
 go_enter Tryz.func182,Tryz.ntmps182
 go_wp2_with (go_at_call 42;refine(D0.out _ (HS.out.below (zas _ _ _ _))).mono ?_;rintro e w0 ⟨rfl,I⟩;simp only[ys] at I;obtain⟨l0,l1,l2,l3,z1,z2,z3⟩:=zdL I;have b3:Below w.heap.size w w0:=(zas _ _ _ _).trans (I.mono (by omega)))
 go_wp2_with (go_at_call 66;refine(zeA _ _ _ _ (by omega) (by omega)).mono ?_;rintro e w' ⟨rfl,rfl⟩)
 refine(DF.out _ (HS.out.below b3)).mono ?_;rintro e w1 ⟨rfl,a7⟩;have b9:=I.size;simp only[ys] at b9;have M:=I.trans (a7.mono b9);have d7:Below w.heap.size w w1:=(zas _ _ _ _).trans (M.mono (by omega));clear l0 l1 l2 l3 z1 z2 z3 I a7 b3;obtain⟨l0,l1,l2,l3,z1,z2,z3⟩:=zdL M
 go_wp2_with fail
 refine(DC.out _ (HS.out.below d7)).mono ?_;rintro e w2 ⟨g,kb,kc,rfl,b6,Z⟩;have c6:=M.size;simp only[ys] at c6;have O:=M.trans (b6.mono c6);obtain⟨m0,m1,m2,m3,y1,y2,y3⟩:=zdL O;obtain⟨h3,g0,⟨F,J⟩,d0,d1,d2⟩:=OC.out _ _ _ _ _ Z;have g7:w1.heap.size<=g:=Z.1;have g4:w.heap.size+1+1<g:=by omega
 have d5:Hid (Own w2 w1.heap.size g S kb kc n):=Z;have HB:Hid (Below (w.heap.size+1+1+1) (((w.alloc (.cells #[.slice a n c] 43)).alloc (.cells #[.slice none 0 0] 43)).alloc (.cells #[.int .i64 0,.int .i64 0] 61)) w2):=O;have HF:Hid (w2.rowIs g 57 (n*8) F):=J;clear Z J l0 l1 l2 l3 z1 z2 z3 M b6 O
 go_wp2
 obtain⟨U,D⟩:∃ U,U=(((w2.setCell ⟨g,k*8,none⟩ (Value.bool true)).setCell ⟨g,k*8+1,none⟩ (Value.int IntKind.i64 (nk+1))).setCell ⟨g,k*8+2,none⟩ (Value.int IntKind.i64 t)).alloc (Obj.cells #[Value.slice (some ⟨g,0,none⟩) n n] 43):=⟨_,rfl⟩;rw[<- D];have q8:U.cell? ⟨w2.heap.size,0,none⟩=some (.slice (some ⟨g,0,none⟩) n n):=by rw[D];go_simp
 have q1:U.cell? ⟨g,k*8+1,none⟩=some (.int .i64 (nk+1)):=by rw[D];go_simp
 have c7:U.heap.size=w2.heap.size+1:=by rw[D];simp
 have b0:Below (w.heap.size+1+1+1) (((w.alloc (.cells #[.slice a n c] 43)).alloc (.cells #[.slice none 0 0] 43)).alloc (.cells #[.int .i64 0,.int .i64 0] 61)) U:=by
  rw[D];exact(((HB.out.setCell (by simp;omega) _).setCell (by simp;omega) _).setCell (by simp;omega) _).alloc (by simp;omega) _
 clear m0 m1 m2 m3 y1 y2 y3 d0 d1 d2 g0;obtain⟨m0,m1,m2,m3,y1,y2,y3⟩:=zdL b0;have c9:Hid (Below (w.heap.size+1+1+1) (((w.alloc (.cells #[.slice a n c] 43)).alloc (.cells #[.slice none 0 0] 43)).alloc (.cells #[.int .i64 0,.int .i64 0] 61)) U):=b0;have b1:Hid (U=(((w2.setCell ⟨g,k*8,none⟩ (Value.bool true)).setCell ⟨g,k*8+1,none⟩ (Value.int IntKind.i64 (nk+1))).setCell ⟨g,k*8+2,none⟩ (Value.int IntKind.i64 t)).alloc (Obj.cells #[Value.slice (some ⟨g,0,none⟩) n n] 43)):=D;have g8:Hid (U.heap.size=w2.heap.size+1):=c7;clear b0 D HB c7
 go_region
 all_goals (try go_wp2)
 refine yw (v:=.tuple #[.agg #[.slice (some ⟨g,0,none⟩) n n],.agg #[.int .i64 k,.int .i64 (nk+1)],.int .i64 0]) (by simp[results,Tryz.results182,go_sem,m1,m2,m3]) rfl ⟨g,rfl,?_,by omega,?_⟩
 ·have d9:Below w.heap.size w U:=(zas _ _ _ _).trans (c9.out.mono (by omega));exact(((d9.setCell (by simp) _).setCell (by simp;omega) _).setCell (by simp;omega) _).drew
 ·have b8:=(((HF.out.set (k*8) (.bool true)).set (k*8+1) (.int .i64 (nk+1))).set (k*8+2) (.int .i64 t)).alloc (Obj.cells #[Value.slice (some ⟨g,0,none⟩) n n] 43);rw[<- b1.out] at b8;have g5:=(((b8.setOther (a:=⟨w.heap.size+1,0,none⟩) (by simp;omega) (.slice (some ⟨g,0,none⟩) n n)).setOther (a:=⟨w.heap.size+1+1,0,none⟩) (by simp;omega) (.int .i64 k)).setOther (a:=⟨w.heap.size+1+1,1,none⟩) (by simp;omega) (.int .i64 (nk+1))).drew;refine TU.out w2 _ _ g kb kc d5.out _ g5 (fun F0 a8 a9 a5 i hi=>⟨kb i,kc i,?_,a5 i hi⟩)
  have E:∀ j,j<n*8->F j=F0 j:=fun j hj=>by
   have h1:=HF.out.cell hj;rw[a8.cell hj] at h1;exact(Option.some.inj h1).symm
  have g9:=a5 i hi;obtain⟨e0,e1,e2,e3,e4,e5,e6,e7,e8,b2,G,hG,e9⟩:=a9 i hi;have b4:=(((hG.setOther (a:=⟨g,k*8,none⟩) (by simp;omega) (.bool true)).setOther (a:=⟨g,k*8+1,none⟩) (by simp;omega) (.int .i64 (nk+1))).setOther (a:=⟨g,k*8+2,none⟩) (by simp;omega) (.int .i64 t)).alloc (Obj.cells #[Value.slice (some ⟨g,0,none⟩) n n] 43);rw[<- b1.out] at b4;have b5:=(((b4.setOther (a:=⟨w.heap.size+1,0,none⟩) (by simp;omega) (.slice (some ⟨g,0,none⟩) n n)).setOther (a:=⟨w.heap.size+1+1,0,none⟩) (by simp;omega) (.int .i64 k)).setOther (a:=⟨w.heap.size+1+1,1,none⟩) (by simp;omega) (.int .i64 (nk+1))).drew;rw[d6.out i];by_cases e:i=k
  ·subst e;rw[yd rfl];unfold zbS;refine⟨?_,?_,?_,?_,?_,?_,?_,?_,e8,b2,G,b5,e9⟩
   all_goals dsimp only
   ·rw[ya (by omega),ya (by omega),yd rfl]
   ·rw[ya (by omega),yd rfl,d4.out]
   ·rw[yd rfl]
   ·rw[ya (by omega),ya (by omega),ya (by omega),E _ (by omega),e3]
   ·rw[ya (by omega),ya (by omega),ya (by omega),E _ (by omega),e4]
   ·rw[ya (by omega),ya (by omega),ya (by omega),E _ (by omega),e5]
   ·rw[ya (by omega),ya (by omega),ya (by omega),E _ (by omega),e6]
   ·rw[ya (by omega),ya (by omega),ya (by omega),E _ (by omega),e7]
  ·rw[ya e];refine⟨?_,?_,?_,?_,?_,?_,?_,?_,e8,b2,G,b5,e9⟩
   all_goals
    dsimp only;rw[ya (by omega),ya (by omega),ya (by omega),E _ (by omega)];assumption
def zbT(x:Nd)(k:Nat)(cl:Bool):Nd:={ zbS x 0 with h:=(k:Int),c:=cl }
theorem WF.no_under{S:List Nd}(h:WF S){f:Nat}(O:f<S.length)(F:(nd S f).u=false){i a:Nat}(hi:i<S.length)(ha:Up S a i f):a=0:=by
 obtain⟨t0,m0,p0,k0,h0,c0⟩:=h.unused O F
 cases a with
 | zero=>rfl
 | succ a =>
  exfalso
  have key:∀ (a i:Nat),i<S.length->Up S (a+1) i f->False:=by
   intro a
   induction a with
   | zero =>
    rintro i hi ⟨z,J,D,e⟩;have M:z=f:=e;subst M;unfold zam at D;by_cases E:(nd S i).h = -1
    ·rw[yd E] at D;have T:(nd S i).p≠-1:=by omega
     obtain⟨pa,Z,_,_,_,I⟩:=h.parent_place hi T;have:pa=z:=by omega
     rw[this,F] at I;cases I
    ·rw[ya E] at D;have:=(h.hosts i hi E).1;rw[D,yj,F] at this;cases this
   | succ a U =>
    rintro i hi ⟨z,J,D,e⟩;exact U z J e
  exact key a i hi ha
theorem WF.attach{S:List Nd}(h:WF S){f k:Nat}(cl:Bool)(M:f<S.length)(a8:zcu (nd S f)=true)(hk:k<S.length)(J:(nd S k).u=true)(hH:zfy S k=false):WF (S.set f (zbT (nd S f) k cl)):=by
 obtain⟨O,hn⟩:=zfU a8;obtain⟨t0,m0,p0,k0,h0,c0⟩:=h.unused M O;obtain⟨n0,n1,_⟩:=h.uses M;have Z:k≠f:=fun e=>by rw[e,O] at J;cases J
 have T:=zgA.1 hH;have hl:(S.set f (zbT (nd S f) k cl)).length=S.length:=by simp
 have D:∀ i,nd (S.set f (zbT (nd S f) k cl)) i=if i=f then zbT (nd S f) k cl else nd S i:=fun i=>zcX S f i _ M
 refine⟨by rw[hl];exact h.small,fun i hi=>?_,zfz (fun i hi=>?_) (fun i hi x E=>?_) (fun j hj F=>?_),fun i hi=>?_,fun i hi=>?_⟩
 ·rw[hl] at hi |-;rw[D];split
  ·refine zgG ?_ (zeP ?_ ?_ (fun y hy=>absurd hy (by unfold zbT zbS;dsimp only;rw[k0];simp))) ?_
   ·unfold zda zbT zbS;simp only[Bool.and_eq_true,decide_eq_true_eq];exact⟨⟨by omega,by omega⟩,⟨by omega,by omega⟩,by rw[m0];omega,by rw[m0];omega⟩
   ·unfold zbT zbS zlX;exact yG ⟨by dsimp only;omega,by dsimp only;omega⟩
   ·unfold zbT zbS zlX;exact yG ⟨by dsimp only;omega,by dsimp only;omega⟩
   ·unfold zei zbT zbS;simp only[if_true];rw[ya (by omega),ya (by omega)];exact yG p0
  ·exact h.node i hi
 ·rw[hl] at hi;rw[D];split
  ·unfold zbT zbS;dsimp only;rw[k0];exact List.nodup_nil
  ·exact h.kids_nodup hi
 ·rw[hl] at hi |-;rw[D] at E
  split at E
  ·unfold zbT zbS at E;dsimp only at E;rw[k0] at E;cases E
  ·obtain⟨y,rfl,y1,y2,y3,_⟩:=h.kid hi E;have a6:y≠f:=fun e=>by rw[e,O] at y2;cases y2
   exact⟨y,rfl,y1,by rw[D,ya a6];exact y2,by rw[D,ya a6];exact y3⟩
 ·rw[hl] at hj |-;rw[D] at F
  split at F
  ·exact absurd (show (zbT (nd S f) k cl).p = -1 from p0) F
  ·obtain⟨i,i1,i2,_,i3,_⟩:=h.parent_place hj F;refine⟨i,i2,?_⟩;rw[D];split
   ·rename_i e;subst e;rw[k0] at i3;cases i3
   ·exact i3
 ·rw[hl] at hi;intro hh;by_cases e:i=f
  ·subst e;have I:(nd (S.set i (zbT (nd S i) k cl)) i).h=(k:Int):=by rw[D,yd rfl];rfl
   rw[I,yj];refine⟨by rw[D,ya Z];exact J,fun i' U=>?_⟩;rw[D,ya (by omega)];exact T i' (by omega)
  ·have I:nd (S.set f (zbT (nd S f) k cl)) i=nd S i:=by rw[D,ya e]
   rw[I] at hh |-;obtain⟨g1,g2⟩:=h.hosts i hi hh;refine⟨?_,fun i' U=>?_⟩
   ·rw[D];split
    ·rfl
    ·exact g1
   ·rw[D];split
    ·exact fun e2=>T i hi e2.symm
    ·exact g2 i' U
 ·rw[hl] at hi;have hr:∀ y,y<S.length->y≠f->zam (nd (S.set f (zbT (nd S f) k cl)) y)=zam (nd S y):=fun y _ e=>by rw[D,ya e]
  have a9:zam (nd (S.set f (zbT (nd S f) k cl)) f)=k:=by
   rw[D,yd rfl];unfold zam zbT zbS;dsimp only;rw[ya (by omega)]
  have a7:∀ (j x:Nat),x<S.length->x≠f->¬ Up (S.set f (zbT (nd S f) k cl)) j x f:=fun j x E a5 b1=>by
   rcases zhu hl hr E b1 with g |⟨a,m,_,g,_⟩
   ·have:=h.no_under M O E g;subst this;exact a5 g
   ·have:=h.no_under M O E g;subst this;exact a5 g
  cases hb:zbw (S.set f (zbT (nd S f) k cl)) i i with
  | false=>rfl
  | true =>
   obtain⟨j,j1,j2,j3⟩:=zgf (by rw[hl];exact hi) hb;rw[hl] at j2;by_cases e:i=f
   ·subst e;obtain⟨j', rfl⟩:∃ j', j=j' + 1:=⟨j-1,by omega⟩;obtain⟨z,hz,b0,b2⟩:=j3;rw[a9] at b0;have:z=k:=by omega
    subst this;exact absurd b2 (a7 j' z hk Z)
   ·rcases zhu hl hr hi j3 with g |⟨a,m,_,g,_⟩
    ·exact absurd g (h.no_ring hi j1 j2)
    ·have:=h.no_under M O hi g;subst this;exact absurd g e
theorem znI(T M:Int)(near:Bool)(x:Nd)(k:Value)(w:World) :
  Calls Tryz.prog 212 #[.agg #[.int .i64 T,.int .i64 M,.bool near],.agg #[.bool x.u,.int .i64 x.n,.int .i64 x.t,.int .i64 x.m,.int .i64 x.p,k,.int .i64 x.h,.bool x.c]] w fun e w' => e=.returned (.bool (zxA T M x))/\Below w.heap.size w w' := by
 obtain⟨xu,xn,O,F,xp,Z,xh,xc⟩:=x;unfold zxA;dsimp only;by_cases h1:T = -1000001
 ·subst h1;simp only[decide_true,Bool.true_or,Bool.true_and];by_cases D:M = -1000001
  ·subst D;simp only[decide_true,Bool.true_or]
   go_enter Tryz.func212,Tryz.ntmps212
   go_wp2
   go_ret;exact⟨rfl,((yr _ _).alloc (yk _) _).alloc (by simp) _⟩
  ·have U:(M == -1000001)=false:=beq_eq_false_iff_ne.2 D;rw[yF D,Bool.false_or];by_cases E:M=F
   ·subst E;simp only[decide_true]
    go_enter Tryz.func212,Tryz.ntmps212
    go_wp2
    go_ret;exact⟨by simp,((yr _ _).alloc (yk _) _).alloc (by simp) _⟩
   ·have I:(M == F)=false:=beq_eq_false_iff_ne.2 E;rw[yF E]
    go_enter Tryz.func212,Tryz.ntmps212
    go_wp2
    go_ret;refine⟨?_,((yr _ _).alloc (yk _) _).alloc (by simp) _⟩
    first
     | rfl
     | simp[I]
 ·have e1:(T == -1000001)=false:=beq_eq_false_iff_ne.2 h1;rw[yF h1,Bool.false_or];by_cases J:T=O
  ·subst J;simp only[decide_true,Bool.true_and];by_cases D:M = -1000001
   ·subst D;simp only[decide_true,Bool.true_or]
    go_enter Tryz.func212,Tryz.ntmps212
    go_wp2
    go_ret;exact⟨rfl,((yr _ _).alloc (yk _) _).alloc (by simp) _⟩
   ·have U:(M == -1000001)=false:=beq_eq_false_iff_ne.2 D;rw[yF D,Bool.false_or];by_cases E:M=F
    ·subst E;simp only[decide_true]
     go_enter Tryz.func212,Tryz.ntmps212
     go_wp2
     go_ret;exact⟨by simp,((yr _ _).alloc (yk _) _).alloc (by simp) _⟩
    ·have I:(M == F)=false:=beq_eq_false_iff_ne.2 E;rw[yF E]
     go_enter Tryz.func212,Tryz.ntmps212
     go_wp2
     go_ret;refine⟨?_,((yr _ _).alloc (yk _) _).alloc (by simp) _⟩
     first
      | rfl
      | simp[I]
  ·have e2:(T == O)=false:=beq_eq_false_iff_ne.2 J;rw[yF J,Bool.false_and]
   go_enter Tryz.func212,Tryz.ntmps212
   go_wp2
   go_ret;exact⟨rfl,((yr _ _).alloc (yk _) _).alloc (by simp) _⟩
theorem zxu(a:Option Addr)(c:Nat)(S:List Nd)(T M:Int)(near:Bool)(F Z:Nat)(k:Nat)(w:World)(hk:k<S.length)(hS:zai w a S)(J:w.cell? ⟨F,0,none⟩=some (.int .i64 T))(O:w.cell? ⟨F,1,none⟩=some (.int .i64 M))(U:w.cell? ⟨F,2,none⟩=some (.bool near))(hs:w.cell? ⟨Z,0,none⟩=some (.slice a S.length c)) :
  Calls Tryz.prog 211 #[.int .i64 (k:Int),.pointer (some ⟨F,0,none⟩),.pointer (some ⟨Z,0,none⟩)] w fun e w' => e=.returned (.bool (!zxA T M (nd S k)))/\Below w.heap.size w w' := by
 have a5:(k:Int)<(S.length:Int):=by omega
 obtain⟨b,o,rfl,c0,c1,c2,c3,c4,⟨ka,kc,c5,_⟩,c6,c7⟩:=hS k hk;have d1:=fun v W=>znI T M near (nd S k) v W;clear hS;generalize zxA T M (nd S k)=r at *;generalize nd S k=x at *;generalize S.length=n at *
 go_enter Tryz.func211,Tryz.ntmps211
 go_wp2_with fail
 go_region_held3 (fun E=>E.cell? ⟨F,0,none⟩=some (.int .i64 T)/\E.cell? ⟨F,1,none⟩=some (.int .i64 M)/\E.cell? ⟨F,2,none⟩=some (.bool near)/\E.cell? ⟨Z,0,none⟩=some (.slice (some ⟨b,o,none⟩) n c)/\E.cell? ⟨b,o+k*8,none⟩=some (.bool x.u)/\E.cell? ⟨b,o+k*8+1,none⟩=some (.int .i64 x.n)/\E.cell? ⟨b,o+k*8+2,none⟩=some (.int .i64 x.t)/\E.cell? ⟨b,o+k*8+3,none⟩=some (.int .i64 x.m)/\E.cell? ⟨b,o+k*8+4,none⟩=some (.int .i64 x.p)/\E.cell? ⟨b,o+k*8+5,none⟩=some (.slice ka x.ks.length kc)/\E.cell? ⟨b,o+k*8+6,none⟩=some (.int .i64 x.h)/\E.cell? ⟨b,o+k*8+7,none⟩=some (.bool x.c)) (go_keep) (first|(go_at_call 212;refine(d1 _ _).mono ?_;rintro e w2 ⟨rfl,I⟩;have D:Below w.heap.size w w2:=((yr _ _).drew).trans I;have m0:=(D.cell (ye _ _ J)).trans J;have m1:=(D.cell (ye _ _ O)).trans O;have m2:=(D.cell (ye _ _ U)).trans U;have m3:=(D.cell (ye _ _ hs)).trans hs;have n0:=(D.cell (ye _ _ c0)).trans c0;have n1:=(D.cell (ye _ _ c1)).trans c1;have n2:=(D.cell (ye _ _ c2)).trans c2;have n3:=(D.cell (ye _ _ c3)).trans c3;have n4:=(D.cell (ye _ _ c4)).trans c4;have n5:=(D.cell (ye _ _ c5)).trans c5;have n6:=(D.cell (ye _ _ c6)).trans c6;have n7:=(D.cell (ye _ _ c7)).trans c7;clear I))
 all_goals go_wp2
 all_goals go_ret
 all_goals exact⟨rfl,D⟩
def zlp(W:World)(D gs N:Nat)(st:(Nat->Bool) × List Int)(w1:World):Prop :=
 Off (fun k=>k=D\/k=gs) W w1/\w1.rowIs gs 4 N (fun j=>.bool (st.1 j))/\(st.2.Nodup/\∀ x ∈ st.2,∃ j:Nat,j<N/\x=j/\st.1 j=true) /\
 ∃ v,w1.heap[D]?=some (.cells #[v] 48 (0,0))/\w1.ownsRow W.heap.size 3 1 v st.2.length (st.2.map (Value.int .i64))
theorem zlp.small{W w1:World}{D gs N:Nat}{st:(Nat->Bool) × List Int}(h:zlp W D gs N st w1):st.2.length<=N:=by
 obtain⟨_,_,⟨h1,E⟩,_⟩:=h
 have:=h1.length_le_of_subset (l₂:=(List.range N).map (fun i:Nat=>(i:Int))) (fun x I=>by
  obtain⟨j,F,rfl,_⟩:=E x I;exact List.mem_map.2 ⟨j,List.mem_range.2 F,rfl⟩)
 simpa using this
theorem zlp.below{W w1 M:World}{I gs N:Nat}{st:(Nat->Bool) × List Int}(h:zlp W I gs N st w1)(D:Below w1.heap.size w1 M):zlp W I gs N st M:=by
 obtain⟨T,J,O,v,hc,E⟩:=h;have F:=(Array.getElem?_eq_some_iff.1 hc).1
 exact⟨T.trans (Off.of_below D),J.of_block (D.block gs J.lt),O,v,(D.block _ F).trans hc,E.kept (row:=none) ⟨D.os,D.tape,D.output,D.size,fun k U _=>D.block k U⟩ (by
  cases hv:v.ownBlock with
  | none=>exact Or.inl rfl
  | some k=>exact Or.inr (fun e=>by cases e))⟩
theorem zlp.step{W w1 O:World}{D gs N j:Nat}{st:(Nat->Bool) × List Int}(h:zlp W D gs N st w1)(b0:D<W.heap.size)(b5:gs<W.heap.size)(b2:D≠gs)(hj:j<N)(hs:st.1 j=false){v v' : Value}(hc:w1.heap[D]?=some (.cells #[v] 48 (0,0)))(o1:Obj)
  (U:w1.ownsRow W.heap.size 3 1 v st.2.length (st.2.map (Value.int .i64)))
  (I:O.ownsRow W.heap.size 3 1 v' (st.2.length+1) (st.2.map (Value.int .i64)++[.int .i64 (j:Int)])) (hg:((w1.setCell ⟨gs,j,none⟩ (.bool true)).alloc o1).grownBy O v.ownBlock) :
  O.heap[D]?=some (.cells #[v] 48 (0,0))/\(∀ k:Nat,∀ x t,w1.heap[k]?=some (.cells #[x] t (0,0))->t≠48->t≠4->t≠3->(O.setCell ⟨D,0,none⟩ v').heap[k]?=w1.heap[k]?)/\zlp W D gs N (fun i=>if i=j then true else st.1 i,st.2++[(j:Int)]) (O.setCell ⟨D,0,none⟩ v'):=by
 obtain⟨hO,hR,⟨a9,a5⟩,v0,b4,_⟩:=h;have Z:∀ k,v.ownBlock=some k->W.heap.size<=k:=fun k E=>(U.lt k E).1;have b8:=hO.size
 have T:∀ k,k<W.heap.size->k≠gs->O.heap[k]?=w1.heap[k]?:=fun k E b1 =>
  (hg.block k (by simp;omega) (fun e=>by have:=Z k e.symm;omega)).trans ((Below.heap_alloc _ _ _ (by simp;omega)).trans (yv _ _ _ _ (by exact b1)))
 have a7:O.heap[gs]?=(w1.setCell ⟨gs,j,none⟩ (.bool true)).heap[gs]? :=
  (hg.block gs (by simp;omega) (fun e=>by have:=Z gs e.symm;omega)).trans (Below.heap_alloc _ _ _ (by simp;omega))
 have a6:O.heap[D]?=some (.cells #[v] 48 (0,0)):=(T D b0 b2).trans hc;refine⟨a6,fun k x t E h1 h2 h3=>?_,?_,?_,⟨?_,?_⟩,v', ziX a6,?_⟩
 ·have b7:=(Array.getElem?_eq_some_iff.1 E).1;have n1:k≠D:=fun e=>by rw[e,hc] at E;cases E;exact h1 rfl
  have n2:k≠gs:=fun e=>by
   obtain⟨a8,F,_⟩:=hR;rw[e,F] at E;cases E;exact h2 rfl
  rw[yv _ _ _ _ (by exact n1),hg.block k (by simp;omega) (fun e=>by
   rcases U.2 with ⟨hv,_⟩ |⟨g,cap,a8,hv,_,F,_⟩
   ·rw[hv] at e;cases e
   ·rw[hv] at e;have:k=g:=by simpa [Value.ownBlock] using e
    rw[this,F] at E;cases E;exact h3 rfl),Below.heap_alloc _ _ _ (by simp;omega),yv _ _ _ _ (by exact n2)]
 ·refine⟨?_,?_,?_,?_,fun k E M=>?_⟩
  ·exact hg.os.trans hO.os
  ·exact hg.tape.trans hO.tape
  ·exact hg.output.trans hO.output
  ·have:=hg.size;simp at this |-;omega
  ·rw[yv _ _ _ _ (by show k≠D;exact fun e=>M (Or.inl e)),T k E (fun e=>M (Or.inr e))];exact hO.block k E M
 ·have h1:=((hR.set j (.bool true)).of_block a7).setOther (a:=⟨D,0,none⟩) (by simp;omega) v';refine h1.congr (fun i _=>?_);dsimp only;by_cases e:i=j
  ·rw[yd e,yd e]
  ·rw[ya e,ya e]
 ·rw[List.nodup_append];refine⟨a9,by simp,fun a ha b hb e=>?_⟩;have b3:b=(j:Int):=by simpa using hb
  obtain⟨i,hi,b6,J⟩:=a5 a ha;have:i=j:=by omega
  rw[this,hs] at J;cases J
 ·intro x M;rcases List.mem_append.1 M with M|M
  ·obtain⟨i,hi,rfl,J⟩:=a5 x M;refine⟨i,hi,rfl,?_⟩;dsimp only;by_cases e:i=j
   ·rw[yd e]
   ·rw[ya e];exact J
  ·exact⟨j,hj,by simpa using M,yd rfl⟩
 ·have h3:=I.kept (grownBy_setCell O ⟨D,0,none⟩ v') (by
   cases hb:v'.ownBlock with
   | none=>exact Or.inl rfl
   | some k=>right;intro e;have:=(I.lt k hb).1;simp at e;omega)
  simpa using h3
theorem zki(W:World)(U F T gs N:Nat)(near:Bool)(st:(Nat->Bool) × List Int)(j:Nat)(w1:World)(hj:j<N)(hN:N<=1000)(h:zlp W F gs N st w1)
  (b7:U<W.heap.size) (b5:F<W.heap.size) (b8:gs<W.heap.size) (b6:T<W.heap.size) (n1:U≠F) (n2:U≠gs) (n3:T≠F) (n4:T≠gs) (n5:F≠gs)
  (cs:W.cell? ⟨U,0,none⟩=some (.slice (some ⟨gs,0,none⟩) N N)) (cn:W.cell? ⟨T,0,none⟩=some (.bool near)) :
  Calls Tryz.prog 220 #[.int .i64 (j:Int),.pointer (some ⟨U,0,none⟩),.pointer (some ⟨F,0,none⟩),.pointer (some ⟨T,0,none⟩)] w1 fun e J=>e=.returned (.bool (zbn near st j).2)/\zlp W F gs N (zbn near st j).1 J/\Off (fun k=>k=F\/k=gs\/W.heap.size<=k) w1 J/\∀ (k:Nat) x t,w1.heap[k]?=some (.cells #[x] t (0,0))->t≠48->t≠4->t≠3->J.heap[k]?=w1.heap[k]?:=by
 obtain⟨i0,b9,c6,c7,c8⟩:=info_parts info3;have e0:(j:Int)<(N:Int):=by omega
 have e2:=h.small;have HI:Hid (zlp W F gs N st w1):=h;have O:Hid (∀ v,w1.heap[F]?=some (.cells #[v] 48 (0,0))->w1.ownsRow W.heap.size 3 1 v st.2.length (st.2.map (Value.int .i64))->∀ v' J o1,st.1 j=false->J.ownsRow W.heap.size 3 1 v' (st.2.length+1) (st.2.map (Value.int .i64)++[.int .i64 (j:Int)])->((w1.setCell ⟨gs,j,none⟩ (.bool true)).alloc o1).grownBy J v.ownBlock->_):=fun v hc D v' J o1 hs E hg=>zlp.step h b5 b8 n5 hj hs hc o1 D E hg;obtain⟨hO,hR,_,v,hc,D⟩:=h;have e3:=hO.size;have x1:=(hO.cell (p:=⟨U,0,none⟩) b7 (by show ¬ (U=F\/U=gs);omega)).trans cs;have x2:=hR.cell hj;have f2:=hR.frozen j;have d9:=hR.lt;have a8:Hid (∀ a6 J,zlp W F gs N a6 J->J.cell? ⟨T,0,none⟩=some (.bool near)):=fun a6 J h2=>(h2.1.cell (p:=⟨T,0,none⟩) b6 (by show ¬ (T=F\/T=gs);omega)).trans cn;have HC:Hid _:=hc;have HO:Hid _:=D;have cb:=zaJ hc;have d8:=ye _ _ cb;have e1:=ye _ _ x1
 cases hs:st.1 j with
 | true =>
  rw[zdS hs];rw[hs] at x2;clear hO hR D hc O
  go_enter Tryz.func220,Tryz.ntmps220
  go_wp2
  go_ret;exact⟨rfl,HI.out,Off.refl _ _,fun _ _ _ _ _ _ _=>rfl⟩
 | false =>
  rw[zeC hs];rw[hs] at x2;have b4:Hid _:=O.out v hc D;have HS:Hid _:=hs;have c9:(w1.setCell ⟨gs,j,none⟩ (.bool true)).cell? ⟨F,0,none⟩=some v:=(World.cell?_setCell_other _ _ _ _ (by intro e;exact n5 (by simpa using (congrArg Addr.block e).symm))).trans cb
  have a9:Hid ((w1.setCell ⟨gs,j,none⟩ (.bool true)).ownsRow W.heap.size 3 1 v st.2.length (st.2.map (Value.int .i64))):=D.kept (grownBy_setCell w1 ⟨gs,j,none⟩ (.bool true)) (by
   cases hv:v.ownBlock with
   | none=>exact Or.inl rfl
   | some k=>right;intro e;have:=(D.lt k hv).1;simp at e;omega)
  have b3:Hid (∀ v' J o1,((w1.setCell ⟨gs,j,none⟩ (.bool true)).alloc o1).grownBy J v.ownBlock->Off (fun k=>k=F\/k=gs\/W.heap.size<=k) w1 (J.setCell ⟨F,0,none⟩ v')):=fun v' J o1 hg=>⟨hg.os,hg.tape,hg.output,by have:=hg.size;simp at this |-;omega,fun k hk hx=>by
   rw[yv _ _ _ _ (by show k≠F;exact fun e=>hx (Or.inl e)),hg.block k (by simp;omega) (fun e=>by have:=(D.lt k e.symm).1;exact hx (Or.inr (Or.inr this))),Below.heap_alloc _ _ _ (by simp;omega),yv _ _ _ _ (by show k≠gs;exact fun e=>hx (Or.inr (Or.inl e)))]⟩
  clear hO hR D hc O hs cb HO;generalize ((fun i=>if i=j then true else st.1 i,st.2++[(j:Int)]):(Nat->Bool) × List Int)=a6 at *
  go_enter Tryz.func220,Tryz.ntmps220
  go_wp2_with (at_builtin;refine wpList_append_own _ rfl _ _ 48 rfl W.heap.size 3 i0 (.int .i64 0) 1 8 Tryz.underlying48 b9 c6 c7 c8 rfl (by decide) _ _ _ rfl (a9.out.alloc _) ⟨w1.heap.size,0,none⟩ 1 1 [.int .i64 (j:Int)] rfl rfl ?c1 ?c2 ?c3 ?c4 ?c5 ?_)
  case c2=>rfl
  case c3=>unfold maxLen;omega
  case c4=>omega
  case c5=>omega
  intro v' J E M _
  obtain⟨g', I,rfl⟩:∃ g' I,v' = .slice (some ⟨g', 0,none⟩) (st.2.length+1) I:=by
   rcases E.2 with ⟨_,h⟩ |⟨g', I,d6,h,_⟩
   ·omega
   ·exact⟨g', I,h⟩
  obtain⟨a5,b0,Z⟩:=b4.out _ _ _ HS.out E M;have a7:Hid _:=b3.out (.slice (some ⟨g', 0,none⟩) (st.2.length+1) I) _ _ M;have b1:Hid _:=Z;have b2:Hid _:=b0;have d4:=zaJ a5;have d7:=fun o=>zaW (o:=o) a5;have d5:=a8.out _ _ Z;clear E M Z b0 a5
  go_wp2
  go_ret;exact⟨rfl,b1.out,a7.out,b2.out⟩
structure Slt where
 pl:Int
 num:Int
 gv:List Int
def zus(S:List Nd)(x:Int):Int:=(nd S x.toNat).t-90
def zdl(S:List Nd)(H:Nat)(out:List Slt)(x:Int):List Slt :=
 if zus S x<0 then out else out++[⟨x,zus S x,if out.any (fun s=>decide (s.num=zus S x)) then [] else zca S H (zus S x)⟩]
def zbu(S:List Nd)(H:Nat)(l:List Int):List Slt:=l.foldl (zdl S H) []
def zbQ(S:List Nd)(H:Nat):List Slt:=if zcb S H = -1 then [] else zbu S H (zbf S S.length (zcb S H).toNat)
theorem zdo{S:List Nd}{H:Nat}{mk x:Int}:x ∈ zca S H mk↔x ∈ (nd S H).ks/\(nd S x.toNat).m=mk:=by
 unfold zca;rw[zlT];unfold zcl;simp
theorem zeU(S:List Nd)(H:Nat)(l:List Int)(x:Int):zbu S H (l++[x])=zdl S H (zbu S H l) x:=by
 unfold zbu;rw[List.foldl_append];rfl
theorem zeO{α:Type}{P:List α->Prop}(h0:P [])(h1:∀ l x,P l->P (l++[x]))(l:List α):P l:=by
 have:∀ n,∀ l:List α,l.length=n->P l:=by
  intro n
  induction n with
  | zero=>intro l hl;cases l with|nil=>exact h0|cons=>cases hl
  | succ n E =>
   intro l hl;have D:l≠[]:=by intro e;subst e;cases hl
   rw[<- List.dropLast_concat_getLast D];exact h1 _ _ (E _ (by rw[List.length_dropLast];omega))
 exact this _ l rfl
theorem zjP{S:List Nd}{H:Nat}(l:List Int):∀ s ∈ zbu S H l,s.pl ∈ l/\s.num=zus S s.pl/\0<=s.num/\(s.gv=[]\/s.gv=zca S H s.num):=by
 induction l using zeO with
 | h0=>intro s hs;cases hs
 | h1 l x E =>
  intro s hs;rw[zeU] at hs;unfold zdl at hs
  split at hs
  ·obtain⟨h1,D⟩:=E s hs;exact⟨List.mem_append_left _ h1,D⟩
  ·rename_i hn;rcases List.mem_append.1 hs with hs|hs
   ·obtain⟨h1,D⟩:=E s hs;exact⟨List.mem_append_left _ h1,D⟩
   ·have e:=List.mem_singleton.1 hs;subst e;refine⟨by simp,rfl,by dsimp only;omega,?_⟩;dsimp only;split
    ·exact Or.inl rfl
    ·exact Or.inr rfl
theorem znD(S:List Nd)(H:Nat)(l:List Int):(zbu S H l).map Slt.pl=l.filter (fun x=>decide (0<=zus S x)):=by
 induction l using zeO with
 | h0=>rfl
 | h1 l x D =>
  rw[zeU,List.filter_append,<- D];unfold zdl;split
  ·rename_i h;have:¬ 0<=zus S x:=by omega
   simp[this]
  ·rename_i h;have:0<=zus S x:=by omega
   simp[this]
theorem znC(S:List Nd)(H:Nat)(l:List Int):(zbu S H l).length<=l.length:=by
 have h:=congrArg List.length (znD S H l);rw[List.length_map] at h;rw[h];exact List.length_filter_le _ _
theorem zsg(S:List Nd)(H:Nat)(l:List Int):(zbu S H l).Pairwise (fun s F=>F.gv=[]\/s.num≠F.num):=by
 induction l using zeO with
 | h0=>exact List.Pairwise.nil
 | h1 l x I =>
  rw[zeU];unfold zdl;split
  ·exact I
  ·rw[List.pairwise_append];refine⟨I,List.pairwise_singleton _ _,fun s hs F E=>?_⟩;have e:=List.mem_singleton.1 E;subst e;dsimp only;split
   ·exact Or.inl rfl
   ·rename_i D;right;intro e;exact D (List.any_eq_true.2 ⟨s,hs,yG e⟩)
theorem zvd{S:List Nd}{H:Nat}{l:List Int}{s I:Slt}(hs:s ∈ zbu S H l)(F:I ∈ zbu S H l){c:Int}(hc:c ∈ s.gv)(D:c ∈ I.gv):s=I:=by
 obtain⟨_,_,_,h1⟩:=zjP l s hs;obtain⟨_,_,_,h2⟩:=zjP l I F;have U:s.gv≠[]:=fun e=>by rw[e] at hc;cases hc
 have Z:I.gv≠[]:=fun e=>by rw[e] at D;cases D
 have e1:=h1.resolve_left U;have e2:=h2.resolve_left Z;rw[e1] at hc;rw[e2] at D;have O:=(zdo.1 hc).2;have T:=(zdo.1 D).2;have J:=zsg S H l;obtain⟨i,hi,rfl⟩:=List.getElem_of_mem hs;obtain⟨j,M,rfl⟩:=List.getElem_of_mem F;rw[List.pairwise_iff_getElem] at J;rcases Nat.lt_trichotomy i j with E|e|E
 ·rcases J i j hi M E with h|h
  ·exact absurd h Z
  ·exact absurd (O.symm.trans T) h
 ·subst e;rfl
 ·rcases J j i M hi E with h|h
  ·exact absurd h U
  ·exact absurd (T.symm.trans O) h
def zhy(S:List Nd):Nat->Nat->List Int
 | 0,_=>[]
 | h+1,p=>match (zbQ S h).find? (fun s=>decide (s.pl=(p:Int))) with
  | some s=>s.gv
  | none=>zhy S h p
def zwh(S:List Nd)(h:Nat)(L:List Slt)(p:Nat):List Int:=match L.find? (fun s=>decide (s.pl=(p:Int))) with
  | some s=>s.gv
  | none=>zhy S h p
theorem ziO{S:List Nd}:∀ {h p:Nat} {c:Int},c ∈ zhy S h p->∃ H s,H<h/\s ∈ zbQ S H/\s.pl=(p:Int)/\c ∈ s.gv
 | 0,_,_,hc=>by cases hc
 | h+1,p,c,hc=>by
  unfold zhy at hc
  split at hc
  ·rename_i s hs;exact⟨h,s,by omega,List.mem_of_find?_eq_some hs,by have:=List.find?_some hs;simpa using this,hc⟩
  ·obtain⟨H,s,h1,D⟩:=ziO hc;exact⟨H,s,by omega,D⟩
theorem zhN{S:List Nd}:∀ {h p:Nat},zhy S h p=[]\/∃ H s,H<h/\s ∈ zbQ S H/\zhy S h p=s.gv
 | 0,_=>Or.inl rfl
 | h+1,p=>by
  unfold zhy;split
  ·rename_i s hs;exact Or.inr ⟨h,s,by omega,List.mem_of_find?_eq_some hs,rfl⟩
  ·rcases zhN (S:=S) (h:=h) (p:=p) with e |⟨H,s,h1,D⟩
   ·exact Or.inl e
   ·exact Or.inr ⟨H,s,by omega,D⟩
theorem zds{S:List Nd}(h:WF S){H:Nat}{s:Slt}(hs:s ∈ zbQ S H):∃ r k j:Nat,r<S.length/\(nd S r).h=H/\zcb S H=r/\s.pl=k/\k<S.length/\Up S j k r/\s.num=zus S s.pl/\0<=s.num/\(s.gv=[]\/s.gv=zca S H s.num)/\s ∈ zbu S H (zbf S S.length r):=by
 unfold zbQ at hs
 split at hs
 ·cases hs
 ·rename_i I;obtain⟨r,h1,D,E,_⟩:=zcq S H I;rw[D,yj] at hs;obtain⟨M,O,T,U⟩:=zjP _ s hs;obtain⟨q,e,F,_,j,_,J⟩:=zcW h h1 (h.deep_all h1) _ M;exact⟨r,q,j,h1,E,D,e,F,J,O,T,U,hs⟩
theorem zxP{S:List Nd}(h:WF S):zhz S (zhy S S.length) where
 some:=fun p hp c hc=>by
  obtain⟨H,s,h1,F,h3,D⟩:=ziO hc;obtain⟨r,k,j,r1,r2,_,r3,r4,r5,_,_,I,_⟩:=zds h F;have:k=p:=by omega
  subst this;have e:=I.resolve_left (fun e=>by rw[e] at D;cases D);rw[e] at D;exact⟨H,r,j,h1,r1,r2,r5,(zdo.1 D).1⟩
 one:=fun p p' c hp a7 hc T=>by
  obtain⟨H,s,h1,F,h3,D⟩:=ziO hc;obtain⟨H', s', M,O,a6,E⟩:=ziO T;obtain⟨r,_,_,r1,r2,rr,_,_,_,_,_,I,r7⟩:=zds h F;obtain⟨r', _,_,a8,a9,b0,_,_,_,_,_,U,Z⟩:=zds h O;have e:=I.resolve_left (fun e=>by rw[e] at D;cases D);have e' := U.resolve_left (fun e=>by rw[e] at E;cases E);have k1:=D;have k2:=E;rw[e] at k1;rw[e'] at k2;obtain⟨k,ek,_,_,p1,_⟩:=h.kid h1 (zdo.1 k1).1;obtain⟨k', a5,_,_,p2,_⟩:=h.kid M (zdo.1 k2).1;have:k=k' := by omega
  subst this;have:H=H' := by omega
  subst this;have:r=r' := by omega
  subst this;have:=zvd r7 Z D E;subst this;omega
 nodup:=fun p hp=>by
  rcases zhN (S:=S) (h:=S.length) (p:=p) with e |⟨H,s,h1,F,e⟩
  ·rw[e];exact List.nodup_nil
  ·rw[e];obtain⟨_,_,_,_,_,_,_,_,_,_,_,I,_⟩:=zds h F;rcases I with J|J
   ·rw[J];exact List.nodup_nil
   ·rw[J];unfold zca flt;exact(h.kids_nodup h1).filter _
theorem zjv{S:List Nd}(h:WF S){H:Nat}:((zbQ S H).map Slt.pl).Nodup:=by
 unfold zbQ;split
 ·exact List.nodup_nil
 ·rename_i E;obtain⟨r,h1,D,_⟩:=zcq S H E;rw[D,yj,znD];exact(zeR h h1 (yk _) (h.deep_all h1)).filter _
theorem ztv{S:List Nd}{h:Nat}{L:List Slt}(hn:(L.map Slt.pl).Nodup){i:Nat}(hi:i<L.length)(p:Nat):zwh S h (L.take (i+1)) p=if L[i].pl=(p:Int) then L[i].gv else zwh S h (L.take i) p:=by
 unfold zwh;rw[List.take_succ_eq_append_getElem hi,List.find?_append];by_cases e:L[i].pl=(p:Int)
 ·rw[yd e]
  have D:(L.take i).find? (fun s=>decide (s.pl=(p:Int)))=none:=by
   rw[List.find?_eq_none];intro s hs hd;have E:=of_decide_eq_true hd;obtain⟨j,F,rfl⟩:=List.getElem_of_mem hs;rw[List.length_take] at F;rw[List.getElem_take] at E;have:=(List.nodup_iff_pairwise_ne.1 hn);rw[List.pairwise_iff_getElem] at this;have:=this j i (by rw[List.length_map];omega) (by rw[List.length_map];omega) (by omega);rw[List.getElem_map,List.getElem_map] at this;exact this (E.trans e.symm)
  rw[D];simp[e]
 ·rw[ya e]
  cases (L.take i).find? (fun s=>decide (s.pl=(p:Int))) <;> simp[e]
theorem ztw{S:List Nd}(h:WF S){D p:Nat}(hh:D<=S.length):(zhy S D p).length<=24/\∀ c ∈ zhy S D p,∃ k:Nat,c=k/\k<S.length:=by
 have hs:=h.small;rcases zhN (S:=S) (h:=D) (p:=p) with e |⟨H,s,h1,M,e⟩
 ·rw[e];exact⟨by simp,fun c hc=>by cases hc⟩
 ·rw[e];obtain⟨_,_,_,_,_,_,_,_,_,_,_,T,_⟩:=zds h M;rcases T with E|E
  ·rw[E];exact⟨by simp,fun c hc=>by cases hc⟩
  ·rw[E]
   have J:∀ c ∈ zca S H s.num,∃ k:Nat,c=k/\k<S.length:=fun c hc=>by
    obtain⟨k,e,F,_⟩:=h.kid (by omega) (zdo.1 hc).1;exact⟨k,e,F⟩
   refine⟨?_,J⟩;have I:(zca S H s.num).Nodup:=by unfold zca flt;exact(h.kids_nodup (by omega)).filter _
   have:=I.length_le_of_subset (l₂:=(List.range S.length).map (fun i:Nat=>(i:Int))) (fun x O=>by
    obtain⟨k,rfl,F⟩:=J x O;exact List.mem_map.2 ⟨k,List.mem_range.2 F,rfl⟩)
   simp at this;omega
def slt(L:List Slt)(i:Nat):Slt:=L.getD i ⟨0,0,[]⟩
def zgh(w:World)(a:Option Addr)(L:List Slt):Prop :=
 ∀ i,i<L.length->∃ b o,a=some ⟨b,o,none⟩/\w.cell? ⟨b,o+i*3,none⟩=some (.int .i64 (slt L i).pl)/\w.cell? ⟨b,o+i*3+1,none⟩=some (.int .i64 (slt L i).num)/\∃ ga gc,w.cell? ⟨b,o+i*3+2,none⟩=some (.slice ga (slt L i).gv.length gc)/\zak w ga (slt L i).gv
theorem zgh.below{w w' : World}{a:Option Addr}{L:List Slt}(h:zgh w a L)(E:Below w.heap.size w w'):zgh w' a L:=fun i hi=>by
 obtain⟨b,o,e,h1,F,ga,gc,I,J⟩:=h i hi;have D:b<w.heap.size:=ye _ _ h1;exact⟨b,o,e,(E.cell (by exact D)).trans h1,(E.cell (by exact D)).trans F,ga,gc,(E.cell (by exact D)).trans I,J.below E⟩
theorem zeV{L:List Slt}{i:Nat}(h:i<L.length):slt L i=L[i]:=zae L _ h
def zsz(K:Nat)(D:Array Value)(p:Slt->Bool)(w:World):Prop :=
 ∀ (x:Slt) (k:Value) (w1:World),Below w.heap.size w w1->Calls Tryz.prog K (#[.agg #[.int .i64 x.pl,.int .i64 x.num,k]] ++ D) w1 fun e E=>e=.returned (.bool (p x))/\Below w1.heap.size w1 E
theorem zoB(K:Nat)(E:Array Value)(p:Slt->Bool)(a:Option Addr)(c:Nat)(L:List Slt)(w:World)(U:L.length<=9223372036854775807)(T:zgh w a L)
  (eg:∀ args w,(callFunc K args).run Tryz.prog w=.ok (.enter K args) w) (Z:zsz K E p w) :
  Calls Tryz.prog 226 #[.slice a L.length c,.func (.func K) #[] E] w fun e w' => ∃ r:Int,e=.returned (.int .i64 r)/\Below w.heap.size w w' /\
   ((r = -1/\∀ i,i<L.length->p (slt L i)=false)\/(∃ k:Nat,k<L.length/\r=k/\p (slt L k)=true/\∀ i,i<k->p (slt L i)=false)):=by
 have HS:Hid (zgh w a L):=T;have HF:Hid (zsz K E p w):=Z;clear T Z;generalize hn:L.length=n at *;have HN:Hid _:=hn;clear hn
 go_enter Tryz.func226,Tryz.ntmps226
 go_wp2
 go_loopg [8] n (fun g s8 wr=>∃ k:Nat,k<=n/\n-k<=g/\s8=.int .i64 k/\Below w.heap.size w wr/\Hid (∀ i,i<k->p (slt L i)=false))
 case atStart=>exact⟨0,by omega,by omega,rfl,yr _ _,fun i hi=>by omega⟩
 case round =>
  obtain⟨k,hk,hg,rfl,F,A⟩:=hrel;by_cases J:k<n
  ·have a5:(k:Int)<(n:Int):=by omega
   obtain⟨b,o,rfl,c0,c1,ka,kc,c2,_⟩:=(HS.out.below F) k (by rw[HN.out];exact J);have D:=fun v=>HF.out (slt L k) v wr F
   cases hq:p (slt L k) with
   | true =>
    have M:Hid (p (slt L k)=true):=hq;rw[hq] at D;clear hq;generalize O:slt L k=x at D c0 c1 c2;clear O
    go_wp2_with (go_at_fn K;refine(D _).mono ?_;rintro e w' ⟨rfl,I⟩)
    go_ret;exact⟨k,rfl,F.trans (I.mono F.size),Or.inr ⟨k,J,rfl,M.out,A.out⟩⟩
   | false =>
    have M:Hid (p (slt L k)=false):=hq;rw[hq] at D;clear hq;generalize O:slt L k=x at D c0 c1 c2;clear O
    go_wp2_with (go_at_fn K;refine(D _).mono ?_;rintro e w' ⟨rfl,I⟩)
    go_roundg (n-(k+1))
    case measure=>omega
    case rel =>
     refine⟨k+1,by omega,by omega,by go_num,F.trans (I.mono F.size),(show Hid _ from fun i hi=>?_)⟩;by_cases e:i=k
     ·subst e;exact M.out
     ·exact A.out i (by omega)
  ·have:k=n:=by omega
   subst this
   go_wp2
   go_ret;exact⟨-1,rfl,F,Or.inl ⟨rfl,A.out⟩⟩
theorem zkl(K:Nat)(F:Array Value)(p:Slt->Bool)(a:Option Addr)(c:Nat)(L:List Slt)(w:World)(J:L.length<=9223372036854775807)(T:zgh w a L)
  (Z:∀ args w,(callFunc K args).run Tryz.prog w=.ok (.enter K args) w) (U:zsz K F p w) :
  Calls Tryz.prog 221 #[.slice a L.length c,.func (.func K) #[] F] w fun e w' => e=.returned (.bool (L.any p))/\Below w.heap.size w w' := by
 have h:=zoB K F p a c L w J T Z U;have E:∀ k,k<L.length->p (slt L k)=true->L.any p=true:=fun k M O=>List.any_eq_true.2 ⟨slt L k,by rw[zeV M];exact List.getElem_mem M,O⟩
 have D:(∀ i,i<L.length->p (slt L i)=false)->L.any p=false:=fun H=>by
  rw[List.any_eq_false];intro x hx;obtain⟨i,hi,rfl⟩:=List.getElem_of_mem hx;have:=H i hi;rw[zeV hi] at this;simp[this]
 have H:Hid _:=E;have N:Hid _:=D;clear E D T U
 go_enter Tryz.func221,Tryz.ntmps221
 go_wp2_with (go_at_call 226;refine h.mono ?_;rintro e w' ⟨r,rfl,hb,hr⟩)
 go_ret;refine⟨?_,hb⟩;rcases hr with ⟨rfl,I⟩ |⟨k,M,rfl,O,_⟩
 ·rw[N.out I];rfl
 ·rw[H.out k M O];simp
theorem znB(x:Slt)(k:Value)(q:Nat)(y:Int)(w:World)(D:w.cell? ⟨q,0,none⟩=some (.int .i64 y)) :
  Calls Tryz.prog 222 #[.agg #[.int .i64 x.pl,.int .i64 x.num,k],.pointer (some ⟨q,0,none⟩)] w fun e w' => e=.returned (.bool (decide (x.num=y)))/\Below w.heap.size w w' := by
 obtain⟨pl,num,gv⟩:=x;dsimp only;have E:=ye _ _ D;by_cases e:num=y
 ·subst e;rw[yG rfl]
  go_enter Tryz.func222,Tryz.ntmps222
  go_wp2
  go_ret;exact⟨rfl,(yr _ _).alloc (yk _) _⟩
 ·rw[yF e];have F:(num == y)=false:=by simpa using e
  go_enter Tryz.func222,Tryz.ntmps222
  go_wp2
  go_ret;exact⟨rfl,(yr _ _).alloc (yk _) _⟩
theorem zrd(a:Option Addr)(c:Nat)(L:List Slt)(q:Nat)(y:Int)(w:World)(D:L.length<=9223372036854775807)(F:zgh w a L)(E:w.cell? ⟨q,0,none⟩=some (.int .i64 y)) :
  Calls Tryz.prog 221 #[.slice a L.length c,.func (.func 222) #[] #[.pointer (some ⟨q,0,none⟩)]] w fun e w' => e=.returned (.bool (L.any fun s=>decide (s.num=y)))/\Below w.heap.size w w' :=
 zkl 222 _ (fun s=>decide (s.num=y)) a c L w D F (yK Tryz.func222 (by kernel_rfl) rfl) (fun x k w1 h1=>znB x k q y w1 ((h1.cell (by exact ye _ _ E)).trans E))
end Go.Proofs.YtcbcpomacdngmaaGreat
