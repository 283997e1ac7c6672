/-
  x
-/
import Derived.Test.YtcbcpomacdngmaaGreatA11
namespace Go.Proofs.YtcbcpomacdngmaaGreat
set_option maxRecDepth 100000
set_option maxHeartbeats 4000000
set_option linter.unusedVariables false
open Go.RowKit Tryz
variable{S:List Nd}{w W w1 w2:Wd}{g N k f D:Nat}
def iY(w:Wd)(g:Nat)(S:List Nd):Prop :=
 ∃ F,w.rowIs g 57 (S.length*8) F/\∀ i,i<S.length->∃ kb kc,NdR w F (i*8) (nd S i) kb kc/\g<kb
theorem iY.nds(h:iY w g S):aD w (some ⟨g,0,none⟩) S:=fun i hi=>by
 obtain⟨F,D,hN⟩:=h;obtain⟨kb,kc,⟨E,I,J,M,O,T,U,Z,e8,a5,G,hG,e9⟩,_⟩:=hN i hi;refine⟨g,0,rfl,?_⟩;rw[yD];refine⟨?_,?_,?_,?_,?_,⟨some ⟨kb,0,none⟩,kc,?_,fun j hj=>⟨kb,0,rfl,?_⟩⟩,?_,?_⟩
 ·rw[D.cell (by omega),E]
 ·rw[D.cell (by omega),I]
 ·rw[D.cell (by omega),J]
 ·rw[D.cell (by omega),M]
 ·rw[D.cell (by omega),O]
 ·rw[D.cell (by omega),T]
 ·rw[yD,hG.cell (by omega),e9 j hj]
 ·rw[D.cell (by omega),U]
 ·rw[D.cell (by omega),Z]
theorem iY.up{w3:Wd}(h:iY w g S)(D:∀ b,g<=b->b<w.heap.size->w3.heap[b]?=w.heap[b]?):iY w3 g S:=by
 obtain⟨F,I,hN⟩:=h;refine⟨F,I.of_block (D g (yr _) I.lt),fun i hi=>?_⟩;obtain⟨kb,kc,⟨O,T,U,Z,e4,e5,e6,e7,e8,E,G,J,e9⟩,M⟩:=hN i hi;exact⟨kb,kc,⟨O,T,U,Z,e4,e5,e6,e7,e8,E,G,J.of_block (D kb (Nat.le_of_lt M) J.lt),e9⟩,M⟩
theorem iY.root(h:iY w g S)(hk:k<S.length)(hh:Int)(I:Bool) :
  iY ((w.setCell ⟨g,k*8+6,none⟩ (.int .i64 hh)).setCell ⟨g,k*8+7,none⟩ (.bool I)) g (S.set k { nd S k with h:=hh,c:=I }):=by
 obtain⟨F,hF,hN⟩:=h;refine⟨_,by rw[List.length_set];exact(hF.set (k*8+6) (.int .i64 hh)).set (k*8+7) (.bool I),fun i hi=>?_⟩;rw[List.length_set] at hi;obtain⟨kb,kc,⟨T,U,Z,e3,e4,e5,e6,e7,M,D,G,hG,O⟩,J⟩:=hN i hi;have E:=(hG.setOther (a:=⟨g,k*8+6,none⟩) (by simp;omega) (.int .i64 hh)).setOther (a:=⟨g,k*8+7,none⟩) (by simp;omega) (.bool I);refine⟨kb,kc,?_,J⟩;rw[iQ S k i _ hk];by_cases e:i=k
 ·subst e;rw[ye rfl];refine⟨?_,?_,?_,?_,?_,?_,?_,?_,M,D,G,E,O⟩
  all_goals dsimp only
  ·rw[yd (by omega),yd (by omega),T]
  ·rw[yd (by omega),yd (by omega),U]
  ·rw[yd (by omega),yd (by omega),Z]
  ·rw[yd (by omega),yd (by omega),e3]
  ·rw[yd (by omega),yd (by omega),e4]
  ·rw[yd (by omega),yd (by omega),e5]
  ·rw[yd (by omega),ye rfl]
  ·rw[ye rfl]
 ·rw[yd e];refine⟨?_,?_,?_,?_,?_,?_,?_,?_,M,D,G,E,O⟩
  all_goals
   dsimp only;rw[yd (by omega),yd (by omega)];assumption
theorem RJ(a:OA)(c:Nat)(S:List Nd)(t:Int)(w:Wd)(hN:S.length<=24)(hK:∀ i,i<S.length->(nd S i).ks.length<=1000)(hS:aD w a S)(hC:dG S=0)(h7:0<=t)(h8:t<=99)(k:Nat)(hk:k<S.length)(T:dI (nd S k)=true)(h0:0<=(nd S k).n)(a6:∀ i,i<k->dI (nd S i)=false) :
  yO 182 #[.agg #[.slice a S.length c],.int .i64 t] w fun e w' => ∃ g,e=.returned (.tuple #[.agg #[.slice (some ⟨g,0,none⟩) S.length S.length],.agg #[.int .i64 k,.int .i64 ((nd S k).n+1)],.int .i64 0])/\Below w.heap.size w w' /\ w.heap.size<=g/\iY w' g (S.set k (fI (nd S k) t)):=by
 have h2:(nd S k).n<1000000:=by
  unfold dI at T;simp at T;exact T.2
 have HS:Hid (aD w a S):=hS;have df:=fun(W:Wd) (hW:aD W a S)=>Ch a c S W (by omega) hW k hk T a6;have DF:Hid _:=df;have dc:=fun(W:Wd) (hW:aD W a S)=>copy_any a c S W hN hK hW;have DC:Hid _:=dc;have d0:=fun W hW=>tV a c S W (by omega) (fun i hi=>yJ (hK i hi) (by omega)) hW;rw[hC] at d0;have D0:Hid _:=d0
 have TU:Hid (∀ (w w' : World) (B g:Nat) (kb kc:Nat->Nat) (h:Own w B g S kb kc S.length) (F' : Nat->Value) (J:w'.rowIs g 57 (S.length*8) F')
  (hN:∀ F,w.rowIs g 57 (S.length*8) F->(∀ i,i<S.length->NdR w F (i*8) (nd S i) (kb i) (kc i))->(∀ i,i<S.length->g<kb i)->∀ i,i<S.length->∃ c8 g6,NdR w' F' (i*8) (nd (S.set k (fI (nd S k) t)) i) c8 g6/\g<c8),iY w' g (S.set k (fI (nd S k) t))):=fun w w' B g kb kc h F' J hN=>by
  obtain⟨_,F,a8,a9,a5,_⟩:=h;exact⟨F', by rw[List.length_set];exact J,fun i hi=>hN F a8 a9 a5 i (by rw[List.length_set] at hi;exact hi)⟩
 have d6:Hid (∀ i,nd (S.set k (fI (nd S k) t)) i=if i=k then fI (nd S k) t else nd S i):=fun i=>iQ S k i _ hk
 have OC:Hid (∀ (wr:Wd) (B g:Nat) (kb kc:Nat->Nat),Own wr B g S kb kc S.length->(g<wr.heap.size/\(∀ o,wr.frozen? ⟨g,o,none⟩=false)/\(∃ F:Nat->Value,wr.rowIs g 57 (S.length*8) F)/\wr.cell? ⟨g,k*8,none⟩=some (.bool (nd S k).u)/\wr.cell? ⟨g,k*8+1,none⟩=some (.int .i64 (nd S k).n)/\wr.cell? ⟨g,k*8+2,none⟩=some (.int .i64 (nd S k).t))):=fun wr B g kb kc h=>by
  obtain⟨_,F,J,d8,_⟩:=h;obtain⟨e0,e1,e2,_⟩:=d8 k hk;exact⟨J.lt,J.frozen,⟨F,J⟩,by rw[J.cell (by omega),e0],by rw[J.cell (by omega),e1],by rw[J.cell (by omega),e2]⟩
 clear hS a6 df dc d0 hC hK T;generalize hn:S.length=n at *;generalize b7:(nd S k).n=nk at *;have h4:(k:Int)<(n:Int):=by omega
 have h6:decide ((k:Int)<0)=false:=yH (by omega);clear hn;have d4:Hid _:=b7;clear b7
 go_enter func182,ntmps182
 go_wp2_with (go_at_call 42;refine(D0 _ (HS.below (dC _ _ _ _))).mono ?_;rintro e w0 ⟨rfl,I⟩;simp only[yw] at I;obtain⟨l0,l1,l2,l3,z1,z2,z3⟩:=pX I;have b3:Bl w w0:=(dC _ _ _ _).trans (I.mono (by omega)))
 go_wp2_with (go_at_call 66;refine(wH _ _ _ _ (by omega) (by omega)).mono ?_;rintro e w' ⟨rfl,rfl⟩)
 refine(DF _ (HS.below b3)).mono ?_;rintro e w1 ⟨rfl,a7⟩;have b9:=I.size;simp only[yw] at b9;have M:=I.trans (a7.mono b9);have d7:Bl w w1:=(dC _ _ _ _).trans (M.mono (by omega));clear l0 l1 l2 l3 z1 z2 z3 I a7 b3;obtain⟨l0,l1,l2,l3,z1,z2,z3⟩:=pX M
 go_wp2_with fail
 refine(DC _ (HS.below d7)).mono ?_;rintro e w2 ⟨g,kb,kc,rfl,b6,Z⟩;have c6:=M.size;simp only[yw] at c6;have O:=M.trans (b6.mono c6);obtain⟨m0,m1,m2,m3,y1,y2,y3⟩:=pX O;obtain⟨h3,g0,⟨F,J⟩,d0,d1,d2⟩:=OC.o _ _ _ _ _ Z;have g7:w1.heap.size<=g:=Z.1;have g4:w.heap.size+1+1<g:=by omega
 have d5:Hid (Own w2 w1.heap.size g S kb kc n):=Z;have HB:Hid (Below (w.heap.size+1+1+1) (((w.alloc (.cells #[.slice a n c] 43)).alloc (.cells #[.slice none 0 0] 43)).alloc (.cells #[.int .i64 0,.int .i64 0] 61)) w2):=O;have HF:Hid (w2.rowIs g 57 (n*8) F):=J;clear Z J l0 l1 l2 l3 z1 z2 z3 M b6 O
 go_wp2
 obtain⟨U,D⟩:∃ U,U=(((w2.setCell ⟨g,k*8,none⟩ (Value.bool true)).setCell ⟨g,k*8+1,none⟩ (Value.int IntKind.i64 (nk+1))).setCell ⟨g,k*8+2,none⟩ (Value.int IntKind.i64 t)).alloc (Obj.cells #[Value.slice (some ⟨g,0,none⟩) n n] 43):=⟨_,rfl⟩;rw[<- D];have q8:U.cell? ⟨w2.heap.size,0,none⟩=some (.slice (some ⟨g,0,none⟩) n n):=by rw[D];go_simp
 have q1:U.cell? ⟨g,k*8+1,none⟩=some (.int .i64 (nk+1)):=by rw[D];go_simp
 have c7:U.heap.size=w2.heap.size+1:=by rw[D];simp
 have b0:Below (w.heap.size+1+1+1) (((w.alloc (.cells #[.slice a n c] 43)).alloc (.cells #[.slice none 0 0] 43)).alloc (.cells #[.int .i64 0,.int .i64 0] 61)) U:=by
  rw[D];exact(((HB.setCell (by simp;omega) _).setCell (by simp;omega) _).setCell (by simp;omega) _).alloc (by simp;omega) _
 clear m0 m1 m2 m3 y1 y2 y3 d0 d1 d2 g0;obtain⟨m0,m1,m2,m3,y1,y2,y3⟩:=pX b0;have c9:Hid (Below (w.heap.size+1+1+1) (((w.alloc (.cells #[.slice a n c] 43)).alloc (.cells #[.slice none 0 0] 43)).alloc (.cells #[.int .i64 0,.int .i64 0] 61)) U):=b0;have b1:Hid (U=(((w2.setCell ⟨g,k*8,none⟩ (Value.bool true)).setCell ⟨g,k*8+1,none⟩ (Value.int IntKind.i64 (nk+1))).setCell ⟨g,k*8+2,none⟩ (Value.int IntKind.i64 t)).alloc (Obj.cells #[Value.slice (some ⟨g,0,none⟩) n n] 43)):=D;have g8:Hid (U.heap.size=w2.heap.size+1):=c7;clear b0 D HB c7
 go_region
 all_goals (try go_wp2)
 refine yz (v:=.tuple #[.agg #[.slice (some ⟨g,0,none⟩) n n],.agg #[.int .i64 k,.int .i64 (nk+1)],.int .i64 0]) (by simp[results,results182,go_sem,m1,m2,m3]) rfl ⟨g,rfl,?_,by omega,?_⟩
 ·have d9:Bl w U:=(dC _ _ _ _).trans (c9.mono (by omega));exact(((d9.setCell (by simp) _).setCell (by simp;omega) _).setCell (by simp;omega) _).drew
 ·have b8:=(((HF.set (k*8) (.bool true)).set (k*8+1) (.int .i64 (nk+1))).set (k*8+2) (.int .i64 t)).alloc (Obj.cells #[Value.slice (some ⟨g,0,none⟩) n n] 43);rw[<- b1.o] at b8;have g5:=(((b8.setOther (a:=⟨w.heap.size+1,0,none⟩) (by simp;omega) (.slice (some ⟨g,0,none⟩) n n)).setOther (a:=⟨w.heap.size+1+1,0,none⟩) (by simp;omega) (.int .i64 k)).setOther (a:=⟨w.heap.size+1+1,1,none⟩) (by simp;omega) (.int .i64 (nk+1))).drew;refine TU.o w2 _ _ g kb kc d5.o _ g5 (fun F0 a8 a9 a5 i hi=>⟨kb i,kc i,?_,a5 i hi⟩)
  have E:∀ j,j<n*8->F j=F0 j:=fun j hj=>by
   have h1:=HF.cell hj;rw[a8.cell hj] at h1;exact(Option.some.inj h1).symm
  have g9:=a5 i hi;obtain⟨e0,e1,e2,e3,e4,e5,e6,e7,e8,b2,G,hG,e9⟩:=a9 i hi;have b4:=(((hG.setOther (a:=⟨g,k*8,none⟩) (by simp;omega) (.bool true)).setOther (a:=⟨g,k*8+1,none⟩) (by simp;omega) (.int .i64 (nk+1))).setOther (a:=⟨g,k*8+2,none⟩) (by simp;omega) (.int .i64 t)).alloc (Obj.cells #[Value.slice (some ⟨g,0,none⟩) n n] 43);rw[<- b1.o] at b4;have b5:=(((b4.setOther (a:=⟨w.heap.size+1,0,none⟩) (by simp;omega) (.slice (some ⟨g,0,none⟩) n n)).setOther (a:=⟨w.heap.size+1+1,0,none⟩) (by simp;omega) (.int .i64 k)).setOther (a:=⟨w.heap.size+1+1,1,none⟩) (by simp;omega) (.int .i64 (nk+1))).drew;rw[d6.o i];by_cases e:i=k
  ·subst e;rw[ye rfl];unfold fI;refine⟨?_,?_,?_,?_,?_,?_,?_,?_,e8,b2,G,b5,e9⟩
   all_goals dsimp only
   ·rw[yd (by omega),yd (by omega),ye rfl]
   ·rw[yd (by omega),ye rfl,d4.o]
   ·rw[ye rfl]
   ·rw[yd (by omega),yd (by omega),yd (by omega),E _ (by omega),e3]
   ·rw[yd (by omega),yd (by omega),yd (by omega),E _ (by omega),e4]
   ·rw[yd (by omega),yd (by omega),yd (by omega),E _ (by omega),e5]
   ·rw[yd (by omega),yd (by omega),yd (by omega),E _ (by omega),e6]
   ·rw[yd (by omega),yd (by omega),yd (by omega),E _ (by omega),e7]
  ·rw[yd e];refine⟨?_,?_,?_,?_,?_,?_,?_,?_,e8,b2,G,b5,e9⟩
   all_goals
    dsimp only;rw[yd (by omega),yd (by omega),yd (by omega),E _ (by omega)];assumption
def fJ(x:Nd)(k:Nat)(cl:Bool):Nd:={ fI x 0 with h:=(k:Int),c:=cl }
theorem WF.no_under(h:WF S)(O:f<S.length)(F:(nd S f).u=false){i a:Nat}(hi:i<S.length)(ha:Up S a i f):a=0:=by
 obtain⟨t0,m0,p0,k0,h0,c0⟩:=h.unused O F
 cases a with
 | zero=>rfl
 | succ a =>
  exfalso
  have key:∀ (a i:Nat),i<S.length->Up S (a+1) i f->False:=by
   intro a
   induction a with
   | zero =>
    rintro i hi ⟨z,J,D,e⟩;have M:z=f:=e;subst M;unfold bA at D;by_cases E:(nd S i).h = -1
    ·rw[ye E] at D;have T:(nd S i).p≠-1:=(by omega);obtain⟨pa,Z,_,_,_,I⟩:=h.parent_place hi T;have:pa=z:=(by omega);rw[this,F] at I;cases I
    ·rw[yd E] at D;have:=(h.hosts i hi E).1;rw[D,yk,F] at this;cases this
   | succ a U =>
    rintro i hi ⟨z,J,D,e⟩;exact U z J e
  exact key a i hi ha
theorem WF.attach(h:WF S)(cl:Bool)(M:f<S.length)(a8:dI (nd S f)=true)(hk:k<S.length)(J:(nd S k).u=true)(hH:iD S k=false):WF (S.set f (fJ (nd S f) k cl)):=by
 obtain⟨O,hn⟩:=BI a8;obtain⟨t0,m0,p0,k0,h0,c0⟩:=h.unused M O;obtain⟨n0,n1,_⟩:=h.uses M;have Z:k≠f:=fun e=>by rw[e,O] at J;cases J
 have T:=IX.1 hH;have hl:(S.set f (fJ (nd S f) k cl)).length=S.length:=by simp
 have D:∀ i,nd (S.set f (fJ (nd S f) k cl)) i=if i=f then fJ (nd S f) k cl else nd S i:=fun i=>iQ S f i _ M
 refine⟨by rw[hl];exact h.small,fun i hi=>?_,xE (fun i hi=>?_) (fun i hi x E=>?_) (fun j hj F=>?_),fun i hi=>?_,fun i hi=>?_⟩
 ·rw[hl] at hi |-;rw[D];split
  ·refine rG ?_ (rM ?_ ?_ (fun y hy=>absurd hy (by unfold fJ fI;dsimp only;rw[k0];simp))) ?_
   ·unfold iO fJ fI;simp only[Bool.and_eq_true,decide_eq_true_eq];exact⟨⟨by omega,by omega⟩,⟨by omega,by omega⟩,by rw[m0];omega,by rw[m0];omega⟩
   ·unfold fJ fI fA;exact yI ⟨by dsimp only;omega,by dsimp only;omega⟩
   ·unfold fJ fI fA;exact yI ⟨by dsimp only;omega,by dsimp only;omega⟩
   ·unfold gV fJ fI;simp only[if_true];rw[yd (by omega),yd (by omega)];exact yI p0
  ·exact h.node i hi
 ·rw[hl] at hi;rw[D];split
  ·unfold fJ fI;dsimp only;rw[k0];exact List.nodup_nil
  ·exact h.kids_nodup hi
 ·rw[hl] at hi |-;rw[D] at E
  split at E
  ·unfold fJ fI at E;dsimp only at E;rw[k0] at E;cases E
  ·obtain⟨y,rfl,y1,y2,y3,_⟩:=h.kid hi E;have a6:y≠f:=fun e=>by rw[e,O] at y2;cases y2
   exact⟨y,rfl,y1,by rw[D,yd a6];exact y2,by rw[D,yd a6];exact y3⟩
 ·rw[hl] at hj |-;rw[D] at F
  split at F
  ·exact absurd (show (fJ (nd S f) k cl).p = -1 from p0) F
  ·obtain⟨i,i1,i2,_,i3,_⟩:=h.parent_place hj F;refine⟨i,i2,?_⟩;rw[D];split
   ·rename_i e;subst e;rw[k0] at i3;cases i3
   ·exact i3
 ·rw[hl] at hi;intro hh;by_cases e:i=f
  ·subst e;have I:(nd (S.set i (fJ (nd S i) k cl)) i).h=(k:Int):=(by rw[D,ye rfl];rfl);rw[I,yk];refine⟨by rw[D,yd Z];exact J,fun i' U=>?_⟩;rw[D,yd (by omega)];exact T i' (by omega)
  ·have I:nd (S.set f (fJ (nd S f) k cl)) i=nd S i:=(by rw[D,yd e]);rw[I] at hh |-;obtain⟨g1,g2⟩:=h.hosts i hi hh;refine⟨?_,fun i' U=>?_⟩
   ·rw[D];split
    ·rfl
    ·exact g1
   ·rw[D];split
    ·exact fun e2=>T i hi e2.symm
    ·exact g2 i' U
 ·rw[hl] at hi;have hr:∀ y,y<S.length->y≠f->bA (nd (S.set f (fJ (nd S f) k cl)) y)=bA (nd S y):=fun y _ e=>by rw[D,yd e]
  have a9:bA (nd (S.set f (fJ (nd S f) k cl)) f)=k:=by
   rw[D,ye rfl];unfold bA fJ fI;dsimp only;rw[yd (by omega)]
  have a7:∀ (j x:Nat),x<S.length->x≠f->¬ Up (S.set f (fJ (nd S f) k cl)) j x f:=fun j x E a5 b1=>by
   rcases xF hl hr E b1 with g |⟨a,m,_,g,_⟩
   ·have:=h.no_under M O E g;subst this;exact a5 g
   ·have:=h.no_under M O E g;subst this;exact a5 g
  cases hb:dF (S.set f (fJ (nd S f) k cl)) i i with
  | false=>rfl
  | true =>
   obtain⟨j,j1,j2,j3⟩:=uE (by rw[hl];exact hi) hb;rw[hl] at j2;by_cases e:i=f
   ·subst e;obtain⟨j', rfl⟩:∃ j', j=j' + 1:=⟨j-1,by omega⟩;obtain⟨z,hz,b0,b2⟩:=j3;rw[a9] at b0;have:z=k:=(by omega);subst this;exact absurd b2 (a7 j' z hk Z)
   ·rcases xF hl hr hi j3 with g |⟨a,m,_,g,_⟩
    ·exact absurd g (h.no_ring hi j1 j2)
    ·have:=h.no_under M O hi g;subst this;exact absurd g e
def gZ(W:Wd)(D gs N:Nat)(st:(Nat->Bool) × List Int)(w1:Wd):Prop :=
 Off (fun k=>k=D\/k=gs) W w1/\w1.rowIs gs 4 N (fun j=>.bool (st.1 j))/\(st.2.Nodup/\∀ x ∈ st.2,∃ j:Nat,j<N/\x=j/\st.1 j=true) /\
 ∃ v,w1.heap[D]?=some (.cells #[v] 48 (0,0))/\w1.ownsRow W.heap.size 3 1 v st.2.length (st.2.map (Value.int .i64))
theorem gZ.small{gs:Nat}{st:(Nat->Bool) × List Int}(h:gZ W D gs N st w1):st.2.length<=N:=by
 obtain⟨_,_,⟨h1,E⟩,_⟩:=h
 have:=h1.length_le_of_subset (l₂:=(List.range N).map (fun i:Nat=>(i:Int))) (fun x I=>by
  obtain⟨j,F,rfl,_⟩:=E x I;exact List.mem_map.2 ⟨j,List.mem_range.2 F,rfl⟩)
 simpa using this
theorem gZ.below{F gs:Nat}{st:(Nat->Bool) × List Int}(h:gZ W F gs N st w1)(hb:Bl w1 w2):gZ W F gs N st w2:=by
 obtain⟨M,I,J,v,hc,D⟩:=h;have E:=(Array.getElem?_eq_some_iff.1 hc).1
 exact⟨M.trans (Off.of_below hb),I.of_block (hb.block gs I.lt),J,v,(hb.block _ E).trans hc,D.kept (row:=none) ⟨hb.os,hb.tape,hb.output,hb.size,fun k O _=>hb.block k O⟩ (by
  cases hv:v.ownBlock with
  | none=>exact Or.inl rfl
  | some k=>exact Or.inr (fun e=>by cases e))⟩
theorem gZ.step{gs j:Nat}{st:(Nat->Bool) × List Int}(h:gZ W D gs N st w1)(b0:D<W.heap.size)(b5:gs<W.heap.size)(b2:D≠gs)(hj:j<N)(hs:st.1 j=false){v Z:Value}(hc:w1.heap[D]?=some (.cells #[v] 48 (0,0)))(o1:Obj)
  (T:w1.ownsRow W.heap.size 3 1 v st.2.length (st.2.map (Value.int .i64)))
  (I:w2.ownsRow W.heap.size 3 1 Z (st.2.length+1) (st.2.map (Value.int .i64)++[.int .i64 (j:Int)])) (hg:((w1.setCell ⟨gs,j,none⟩ (.bool true)).alloc o1).grownBy w2 v.ownBlock) :
  w2.heap[D]?=some (.cells #[v] 48 (0,0))/\(∀ k:Nat,∀ x t,w1.heap[k]?=some (.cells #[x] t (0,0))->t≠48->t≠4->t≠3->(w2.setCell ⟨D,0,none⟩ Z).heap[k]?=w1.heap[k]?)/\gZ W D gs N (fun i=>if i=j then true else st.1 i,st.2++[(j:Int)]) (w2.setCell ⟨D,0,none⟩ Z):=by
 obtain⟨hO,hR,⟨a9,a5⟩,v0,b4,_⟩:=h;have U:∀ k,v.ownBlock=some k->W.heap.size<=k:=fun k E=>(T.lt k E).1;have b8:=hO.size
 have O:∀ k,k<W.heap.size->k≠gs->w2.heap[k]?=w1.heap[k]?:=fun k E b1 =>
  (hg.block k (by simp;omega) (fun e=>by have:=U k e.symm;omega)).trans ((Below.heap_alloc _ _ _ (by simp;omega)).trans (yx _ _ _ _ (by exact b1)))
 have a7:w2.heap[gs]?=(w1.setCell ⟨gs,j,none⟩ (.bool true)).heap[gs]? :=
  (hg.block gs (by simp;omega) (fun e=>by have:=U gs e.symm;omega)).trans (Below.heap_alloc _ _ _ (by simp;omega))
 have a6:w2.heap[D]?=some (.cells #[v] 48 (0,0)):=(O D b0 b2).trans hc;refine⟨a6,fun k x t E h1 h2 h3=>?_,?_,?_,⟨?_,?_⟩,Z,wN a6,?_⟩
 ·have b7:=(Array.getElem?_eq_some_iff.1 E).1;have n1:k≠D:=fun e=>by rw[e,hc] at E;cases E;exact h1 rfl
  have n2:k≠gs:=fun e=>by
   obtain⟨a8,F,_⟩:=hR;rw[e,F] at E;cases E;exact h2 rfl
  rw[yx _ _ _ _ (by exact n1),hg.block k (by simp;omega) (fun e=>by
   rcases T.2 with ⟨hv,_⟩ |⟨g,cap,a8,hv,_,F,_⟩
   ·rw[hv] at e;cases e
   ·rw[hv] at e;have:k=g:=(by simpa [Value.ownBlock] using e);rw[this,F] at E;cases E;exact h3 rfl),Below.heap_alloc _ _ _ (by simp;omega),yx _ _ _ _ (by exact n2)]
 ·refine⟨?_,?_,?_,?_,fun k E M=>?_⟩
  ·exact hg.os.trans hO.os
  ·exact hg.tape.trans hO.tape
  ·exact hg.output.trans hO.output
  ·have:=hg.size;simp at this |-;omega
  ·rw[yx _ _ _ _ (by show k≠D;exact fun e=>M (Or.inl e)),O k E (fun e=>M (Or.inr e))];exact hO.block k E M
 ·have h1:=((hR.set j (.bool true)).of_block a7).setOther (a:=⟨D,0,none⟩) (by simp;omega) Z;refine h1.congr (fun i _=>?_);dsimp only;by_cases e:i=j
  ·rw[ye e,ye e]
  ·rw[yd e,yd e]
 ·rw[List.nodup_append];refine⟨a9,by simp,fun a ha b hb e=>?_⟩;have b3:b=(j:Int):=by simpa using hb
  obtain⟨i,hi,b6,J⟩:=a5 a ha;have:i=j:=by omega
  rw[this,hs] at J;cases J
 ·intro x M;rcases List.mem_append.1 M with M|M
  ·obtain⟨i,hi,rfl,J⟩:=a5 x M;refine⟨i,hi,rfl,?_⟩;dsimp only;by_cases e:i=j
   ·rw[ye e]
   ·rw[yd e];exact J
  ·exact⟨j,hj,by simpa using M,ye rfl⟩
 ·have h3:=I.kept (grownBy_setCell w2 ⟨D,0,none⟩ Z) (by
   cases hb:Z.ownBlock with
   | none=>exact Or.inl rfl
   | some k=>right;intro e;have:=(I.lt k hb).1;simp at e;omega)
  simpa using h3
theorem Er(W:Wd)(T F O gs N:Nat)(near:Bool)(st:(Nat->Bool) × List Int)(j:Nat)(w1:Wd)(hj:j<N)(hN:N<=1000)(h:gZ W F gs N st w1)
  (b6:T<W.heap.size) (b4:F<W.heap.size) (b7:gs<W.heap.size) (b5:O<W.heap.size) (n1:T≠F) (n2:T≠gs) (n3:O≠F) (n4:O≠gs) (n5:F≠gs)
  (cs:W.cell? ⟨T,0,none⟩=some (.slice (some ⟨gs,0,none⟩) N N)) (cn:W.cell? ⟨O,0,none⟩=some (.bool near)) :
  yO 220 #[.int .i64 (j:Int),.pointer (some ⟨T,0,none⟩),.pointer (some ⟨F,0,none⟩),.pointer (some ⟨O,0,none⟩)] w1 fun e w2=>e=.returned (.bool (jJ near st j).2)/\gZ W F gs N (jJ near st j).1 w2/\Off (fun k=>k=F\/k=gs\/W.heap.size<=k) w1 w2/\∀ (k:Nat) x t,w1.heap[k]?=some (.cells #[x] t (0,0))->t≠48->t≠4->t≠3->w2.heap[k]?=w1.heap[k]?:=by
 obtain⟨i0,b8,b9,c6,c7⟩:=info_parts info3;have d9:(j:Int)<(N:Int):=by omega
 have e1:=h.small;have HI:Hid (gZ W F gs N st w1):=h;have M:Hid (∀ v,w1.heap[F]?=some (.cells #[v] 48 (0,0))->w1.ownsRow W.heap.size 3 1 v st.2.length (st.2.map (Value.int .i64))->∀ v' w2 o1,st.1 j=false->w2.ownsRow W.heap.size 3 1 v' (st.2.length+1) (st.2.map (Value.int .i64)++[.int .i64 (j:Int)])->((w1.setCell ⟨gs,j,none⟩ (.bool true)).alloc o1).grownBy w2 v.ownBlock->_):=fun v hc D v' w2 o1 hs E hg=>gZ.step h b4 b7 n5 hj hs hc o1 D E hg;obtain⟨hO,hR,_,v,hc,D⟩:=h;have e2:=hO.size;have x1:=(hO.cell (p:=⟨T,0,none⟩) b6 (by show ¬ (T=F\/T=gs);omega)).trans cs;have x2:=hR.cell hj;have f2:=hR.frozen j;have d8:=hR.lt;have a7:Hid (∀ a5 w2,gZ W F gs N a5 w2->w2.cell? ⟨O,0,none⟩=some (.bool near)):=fun a5 w2 h2=>(h2.1.cell (p:=⟨O,0,none⟩) b5 (by show ¬ (O=F\/O=gs);omega)).trans cn;have HC:Hid _:=hc;have HO:Hid _:=D;have cb:=cZ hc;have d7:=yi _ _ cb;have e0:=yi _ _ x1
 cases hs:st.1 j with
 | true =>
  rw[JB hs];rw[hs] at x2;clear hO hR D hc M
  go_enter func220,ntmps220
  go_wp2
  go_ret;exact⟨rfl,HI.o,Off.refl _ _,fun _ _ _ _ _ _ _=>rfl⟩
 | false =>
  rw[JC hs];rw[hs] at x2;have b3:Hid _:=M.o v hc D;have HS:Hid _:=hs;have c8:(w1.setCell ⟨gs,j,none⟩ (.bool true)).cell? ⟨F,0,none⟩=some v:=(World.cell?_setCell_other _ _ _ _ (by intro e;exact n5 (by simpa using (congrArg Addr.block e).symm))).trans cb
  have a8:Hid ((w1.setCell ⟨gs,j,none⟩ (.bool true)).ownsRow W.heap.size 3 1 v st.2.length (st.2.map (Value.int .i64))):=D.kept (grownBy_setCell w1 ⟨gs,j,none⟩ (.bool true)) (by
   cases hv:v.ownBlock with
   | none=>exact Or.inl rfl
   | some k=>right;intro e;have:=(D.lt k hv).1;simp at e;omega)
  have b2:Hid (∀ v' w2 o1,((w1.setCell ⟨gs,j,none⟩ (.bool true)).alloc o1).grownBy w2 v.ownBlock->Off (fun k=>k=F\/k=gs\/W.heap.size<=k) w1 (w2.setCell ⟨F,0,none⟩ v')):=fun v' w2 o1 hg=>⟨hg.os,hg.tape,hg.output,by have:=hg.size;simp at this |-;omega,fun k hk hx=>by
   rw[yx _ _ _ _ (by show k≠F;exact fun e=>hx (Or.inl e)),hg.block k (by simp;omega) (fun e=>by have:=(D.lt k e.symm).1;exact hx (Or.inr (Or.inr this))),Below.heap_alloc _ _ _ (by simp;omega),yx _ _ _ _ (by show k≠gs;exact fun e=>hx (Or.inr (Or.inl e)))]⟩
  clear hO hR D hc M hs cb HO;generalize ((fun i=>if i=j then true else st.1 i,st.2++[(j:Int)]):(Nat->Bool) × List Int)=a5 at *
  go_enter func220,ntmps220
  go_wp2_with (at_builtin;refine wpList_append_own _ rfl _ _ 48 rfl W.heap.size 3 i0 (.int .i64 0) 1 8 underlying48 b8 b9 c6 c7 rfl (by decide) _ _ _ rfl (a8.alloc _) ⟨w1.heap.size,0,none⟩ 1 1 [.int .i64 (j:Int)] rfl rfl ?c1 ?c2 ?c3 ?c4 ?c5 ?_)
  case c2=>rfl
  case c3=>unfold maxLen;omega
  case c4=>omega
  case c5=>omega
  intro v' w2 E J _
  obtain⟨g', I,rfl⟩:∃ g' I,v' = .slice (some ⟨g', 0,none⟩) (st.2.length+1) I:=by
   rcases E.2 with ⟨_,h⟩ |⟨g', I,d5,h,_⟩
   ·omega
   ·exact⟨g', I,h⟩
  obtain⟨Z,a9,U⟩:=b3.o _ _ _ HS.o E J;have a6:Hid _:=b2.o (.slice (some ⟨g', 0,none⟩) (st.2.length+1) I) _ _ J;have b0:Hid _:=U;have b1:Hid _:=a9;have c9:=cZ Z;have d6:=fun o=>iB (o:=o) Z;have d4:=a7.o _ _ U;clear E J U a9 Z
  go_wp2
  go_ret;exact⟨rfl,b0.o,a6.o,b1.o⟩
