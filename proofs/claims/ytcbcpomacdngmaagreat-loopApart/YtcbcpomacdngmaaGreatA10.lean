/-
  x
-/
import Derived.Test.YtcbcpomacdngmaaGreatA9
namespace Go.Proofs.YtcbcpomacdngmaaGreat
set_option maxRecDepth 100000
set_option maxHeartbeats 4000000
set_option linter.unusedVariables false
open Go.RowKit Tryz
variable{S:List Nd}{k p i c N f D j q r:Nat}{g ks:Nat->List Int}{w W w1 w2:Wd}
def iY(w:Wd)(g:Nat)(S:List Nd):Prop :=
 ∃ F,w.rowIs g 57 (S.length*8) F/\∀ i,i<S.length->∃ kb kc,NdR w F (i*8) (nd S i) kb kc/\g<kb
theorem iY.nds{g:Nat}(h:iY w g S):aD w (some ⟨g,0,none⟩) S:=fun i hi=>by
 obtain⟨F,D,hN⟩:=h;obtain⟨kb,kc,⟨E,I,J,M,O,T,U,Z,e8,a5,G,hG,e9⟩,_⟩:=hN i hi;refine⟨g,0,rfl,?_⟩;rw[yD];refine⟨?_,?_,?_,?_,?_,⟨some ⟨kb,0,none⟩,kc,?_,fun j hj=>⟨kb,0,rfl,?_⟩⟩,?_,?_⟩
 ·rw[D.cell oaa,E]
 ·rw[D.cell oaa,I]
 ·rw[D.cell oaa,J]
 ·rw[D.cell oaa,M]
 ·rw[D.cell oaa,O]
 ·rw[D.cell oaa,T]
 ·rw[yD,hG.cell oaa,e9 j hj]
 ·rw[D.cell oaa,U]
 ·rw[D.cell oaa,Z]
theorem iY.up{w3:Wd}{g:Nat}(h:iY w g S)(D:∀ b,g<=b->b<w.heap.size->w3.heap[b]?=w.heap[b]?):iY w3 g S:=by
 obtain⟨F,I,hN⟩:=h;refine⟨F,I.of_block (D g (yr _) I.lt),fun i hi=>?_⟩;obtain⟨kb,kc,⟨O,T,U,Z,e4,e5,e6,e7,e8,E,G,J,e9⟩,M⟩:=hN i hi;exact⟨kb,kc,⟨O,T,U,Z,e4,e5,e6,e7,e8,E,G,J.of_block (D kb (Nat.le_of_lt M) J.lt),e9⟩,M⟩
theorem iY.root{g:Nat}(h:iY w g S)(hk:k<S.length)(hh:Int)(I:Bool) :
  iY ((w.setCell ⟨g,k*8+6,none⟩ (.int .i64 hh)).setCell ⟨g,k*8+7,none⟩ (.bool I)) g (S.set k { nd S k with h:=hh,c:=I }):=by
 obtain⟨F,hF,hN⟩:=h;refine⟨_,by rw[List.length_set];exact(hF.set (k*8+6) (.int .i64 hh)).set (k*8+7) (.bool I),fun i hi=>?_⟩;rw[List.length_set] at hi;obtain⟨kb,kc,⟨T,U,Z,e3,e4,e5,e6,e7,M,D,G,hG,O⟩,J⟩:=hN i hi;have E:=(hG.setOther (a:=⟨g,k*8+6,none⟩) oab (.int .i64 hh)).setOther (a:=⟨g,k*8+7,none⟩) oab (.bool I);refine⟨kb,kc,?_,J⟩;rw[iQ S k i _ hk];by_cases e:i=k
 ·subst e;rw[ye rfl];refine⟨?_,?_,?_,?_,?_,?_,?_,?_,M,D,G,E,O⟩
  all_goals dsimp only
  ·rw[yd oaa,yd oaa,T]
  ·rw[yd oaa,yd oaa,U]
  ·rw[yd oaa,yd oaa,Z]
  ·rw[yd oaa,yd oaa,e3]
  ·rw[yd oaa,yd oaa,e4]
  ·rw[yd oaa,yd oaa,e5]
  ·rw[yd oaa,ye rfl]
  ·rw[ye rfl]
 ·rw[yd e];refine⟨?_,?_,?_,?_,?_,?_,?_,?_,M,D,G,E,O⟩
  all_goals
   dsimp only;rw[yd oaa,yd oaa];assumption
theorem RN(a:OA)(c:Nat)(S:List Nd)(t:Int)(w:Wd)(hN:S.length<=24)(hK:∀ i,i<S.length->(nd S i).ks.length<=1000)(hS:aD w a S)(hC:dG S=0)(h7:0<=t)(h8:t<=99)(k:Nat)(hk:k<S.length)(T:dI (nd S k)=true)(h0:0<=(nd S k).n)(a6:∀ i,i<k->dI (nd S i)=false) :
  yO 182 #[.agg #[.slice a S.length c],.int .i64 t] w fun e w' => ∃ g,e=.returned (.tuple #[.agg #[.slice (some ⟨g,0,none⟩) S.length S.length],.agg #[.int .i64 k,.int .i64 ((nd S k).n+1)],.int .i64 0])/\Below w.heap.size w w' /\ w.heap.size<=g/\iY w' g (S.set k (fI (nd S k) t)):=by
 have h2:(nd S k).n<1000000:=by
  unfold dI at T;simp at T;exact T.2
 have HS:Hid (aD w a S):=hS;have df:=fun(W:Wd) (hW:aD W a S)=>Cj a c S W oaa hW k hk T a6;have DF:Hid _:=df;have dc:=fun(W:Wd) (hW:aD W a S)=>copy_any a c S W hN hK hW;have DC:Hid _:=dc;have d0:=fun W hW=>tV a c S W oaa (fun i hi=>yJ (hK i hi) oaa) hW;rw[hC] at d0;have D0:Hid _:=d0
 have TU:Hid (∀ (w w' : World) (B g:Nat) (kb kc:Nat->Nat) (h:Own w B g S kb kc S.length) (F' : Nat->Value) (J:w'.rowIs g 57 (S.length*8) F')
  (hN:∀ F,w.rowIs g 57 (S.length*8) F->(∀ i,i<S.length->NdR w F (i*8) (nd S i) (kb i) (kc i))->(∀ i,i<S.length->g<kb i)->∀ i,i<S.length->∃ c8 g6,NdR w' F' (i*8) (nd (S.set k (fI (nd S k) t)) i) c8 g6/\g<c8),iY w' g (S.set k (fI (nd S k) t))):=fun w w' B g kb kc h F' J hN=>by
  obtain⟨_,F,a8,a9,a5,_⟩:=h;exact⟨F', by rw[List.length_set];exact J,fun i hi=>hN F a8 a9 a5 i (by rw[List.length_set] at hi;exact hi)⟩
 have d6:Hid (∀ i,nd (S.set k (fI (nd S k) t)) i=if i=k then fI (nd S k) t else nd S i):=fun i=>iQ S k i _ hk
 have OC:Hid (∀ (wr:Wd) (B g:Nat) (kb kc:Nat->Nat),Own wr B g S kb kc S.length->(g<wr.heap.size/\(∀ o,wr.frozen? ⟨g,o,none⟩=false)/\(∃ F:Nat->Value,wr.rowIs g 57 (S.length*8) F)/\wr.cell? ⟨g,k*8,none⟩=some (.bool (nd S k).u)/\wr.cell? ⟨g,k*8+1,none⟩=some (.int .i64 (nd S k).n)/\wr.cell? ⟨g,k*8+2,none⟩=some (.int .i64 (nd S k).t))):=fun wr B g kb kc h=>by
  obtain⟨_,F,J,d8,_⟩:=h;obtain⟨e0,e1,e2,_⟩:=d8 k hk;exact⟨J.lt,J.frozen,⟨F,J⟩,by rw[J.cell oaa,e0],by rw[J.cell oaa,e1],by rw[J.cell oaa,e2]⟩
 clear hS a6 df dc d0 hC hK T;generalize hn:S.length=n at *;generalize b7:(nd S k).n=nk at *;have h4:(k:Int)<(n:Int):=oaa
 have h6:decide ((k:Int)<0)=false:=yH oaa;clear hn;have d4:Hid _:=b7;clear b7
 go_enter func182,ntmps182
 go_wp2_with (go_at_call 42;refine(D0 _ (HS.below (dC _ _ _ _))).mono ?_;rintro e w0 ⟨rfl,I⟩;simp only[yw] at I;obtain⟨l0,l1,l2,l3,z1,z2,z3⟩:=pX I;have b3:Bl w w0:=(dC _ _ _ _).trans (I.mono oaa))
 go_wp2_with (go_at_call 66;refine(wH _ _ _ _ oaa oaa).mono ?_;rintro e w' ⟨rfl,rfl⟩)
 refine(DF _ (HS.below b3)).mono ?_;rintro e w1 ⟨rfl,a7⟩;have b9:=I.size;simp only[yw] at b9;have M:=I.trans (a7.mono b9);have d7:Bl w w1:=(dC _ _ _ _).trans (M.mono oaa);clear l0 l1 l2 l3 z1 z2 z3 I a7 b3;obtain⟨l0,l1,l2,l3,z1,z2,z3⟩:=pX M
 go_wp2_with fail
 refine(DC _ (HS.below d7)).mono ?_;rintro e w2 ⟨g,kb,kc,rfl,b6,Z⟩;have c6:=M.size;simp only[yw] at c6;have O:=M.trans (b6.mono c6);obtain⟨m0,m1,m2,m3,y1,y2,y3⟩:=pX O;obtain⟨h3,g0,⟨F,J⟩,d0,d1,d2⟩:=OC.out _ _ _ _ _ Z;have g7:w1.heap.size<=g:=Z.1;have g4:w.heap.size+1+1<g:=oaa
 have d5:Hid (Own w2 w1.heap.size g S kb kc n):=Z;have HB:Hid (Below (w.heap.size+1+1+1) (((w.alloc (.cells #[.slice a n c] 43)).alloc (.cells #[.slice none 0 0] 43)).alloc (.cells #[.int .i64 0,.int .i64 0] 61)) w2):=O;have HF:Hid (w2.rowIs g 57 (n*8) F):=J;clear Z J l0 l1 l2 l3 z1 z2 z3 M b6 O
 go_wp2
 obtain⟨U,D⟩:∃ U,U=(((w2.setCell ⟨g,k*8,none⟩ (Value.bool true)).setCell ⟨g,k*8+1,none⟩ (Value.int IntKind.i64 (nk+1))).setCell ⟨g,k*8+2,none⟩ (Value.int IntKind.i64 t)).alloc (Obj.cells #[Value.slice (some ⟨g,0,none⟩) n n] 43):=⟨_,rfl⟩;rw[<- D];have q8:U.cell? ⟨w2.heap.size,0,none⟩=some (.slice (some ⟨g,0,none⟩) n n):=by rw[D];go_simp
 have q1:U.cell? ⟨g,k*8+1,none⟩=some (.int .i64 (nk+1)):=by rw[D];go_simp
 have c7:U.heap.size=w2.heap.size+1:=by rw[D];simp
 have b0:Below (w.heap.size+1+1+1) (((w.alloc (.cells #[.slice a n c] 43)).alloc (.cells #[.slice none 0 0] 43)).alloc (.cells #[.int .i64 0,.int .i64 0] 61)) U:=by
  rw[D];exact(((HB.setCell oab _).setCell oab _).setCell oab _).alloc oab _
 clear m0 m1 m2 m3 y1 y2 y3 d0 d1 d2 g0;obtain⟨m0,m1,m2,m3,y1,y2,y3⟩:=pX b0;have c9:Hid (Below (w.heap.size+1+1+1) (((w.alloc (.cells #[.slice a n c] 43)).alloc (.cells #[.slice none 0 0] 43)).alloc (.cells #[.int .i64 0,.int .i64 0] 61)) U):=b0;have b1:Hid (U=(((w2.setCell ⟨g,k*8,none⟩ (Value.bool true)).setCell ⟨g,k*8+1,none⟩ (Value.int IntKind.i64 (nk+1))).setCell ⟨g,k*8+2,none⟩ (Value.int IntKind.i64 t)).alloc (Obj.cells #[Value.slice (some ⟨g,0,none⟩) n n] 43)):=D;have g8:Hid (U.heap.size=w2.heap.size+1):=c7;clear b0 D HB c7
 go_region
 all_goals (try go_wp2)
 refine yz (v:=.tuple #[.agg #[.slice (some ⟨g,0,none⟩) n n],.agg #[.int .i64 k,.int .i64 (nk+1)],.int .i64 0]) (by simp[results,results182,go_sem,m1,m2,m3]) rfl ⟨g,rfl,?_,oaa,?_⟩
 ·have d9:Bl w U:=(dC _ _ _ _).trans (c9.mono oaa);exact(((d9.setCell oac _).setCell oab _).setCell oab _).drew
 ·have b8:=(((HF.set (k*8) (.bool true)).set (k*8+1) (.int .i64 (nk+1))).set (k*8+2) (.int .i64 t)).alloc (Obj.cells #[Value.slice (some ⟨g,0,none⟩) n n] 43);rw[<- b1.out] at b8;have g5:=(((b8.setOther (a:=⟨w.heap.size+1,0,none⟩) oab (.slice (some ⟨g,0,none⟩) n n)).setOther (a:=⟨w.heap.size+1+1,0,none⟩) oab (.int .i64 k)).setOther (a:=⟨w.heap.size+1+1,1,none⟩) oab (.int .i64 (nk+1))).drew;refine TU.out w2 _ _ g kb kc d5.out _ g5 (fun F0 a8 a9 a5 i hi=>⟨kb i,kc i,?_,a5 i hi⟩)
  have E:∀ j,j<n*8->F j=F0 j:=fun j hj=>by
   have h1:=HF.cell hj;rw[a8.cell hj] at h1;exact(Option.some.inj h1).symm
  have g9:=a5 i hi;obtain⟨e0,e1,e2,e3,e4,e5,e6,e7,e8,b2,G,hG,e9⟩:=a9 i hi;have b4:=(((hG.setOther (a:=⟨g,k*8,none⟩) oab (.bool true)).setOther (a:=⟨g,k*8+1,none⟩) oab (.int .i64 (nk+1))).setOther (a:=⟨g,k*8+2,none⟩) oab (.int .i64 t)).alloc (Obj.cells #[Value.slice (some ⟨g,0,none⟩) n n] 43);rw[<- b1.out] at b4;have b5:=(((b4.setOther (a:=⟨w.heap.size+1,0,none⟩) oab (.slice (some ⟨g,0,none⟩) n n)).setOther (a:=⟨w.heap.size+1+1,0,none⟩) oab (.int .i64 k)).setOther (a:=⟨w.heap.size+1+1,1,none⟩) oab (.int .i64 (nk+1))).drew;rw[d6.out i];by_cases e:i=k
  ·subst e;rw[ye rfl];unfold fI;refine⟨?_,?_,?_,?_,?_,?_,?_,?_,e8,b2,G,b5,e9⟩
   all_goals dsimp only
   ·rw[yd oaa,yd oaa,ye rfl]
   ·rw[yd oaa,ye rfl,d4.out]
   ·rw[ye rfl]
   ·rw[yd oaa,yd oaa,yd oaa,E _ oaa,e3]
   ·rw[yd oaa,yd oaa,yd oaa,E _ oaa,e4]
   ·rw[yd oaa,yd oaa,yd oaa,E _ oaa,e5]
   ·rw[yd oaa,yd oaa,yd oaa,E _ oaa,e6]
   ·rw[yd oaa,yd oaa,yd oaa,E _ oaa,e7]
  ·rw[yd e];refine⟨?_,?_,?_,?_,?_,?_,?_,?_,e8,b2,G,b5,e9⟩
   all_goals
    dsimp only;rw[yd oaa,yd oaa,yd oaa,E _ oaa];assumption
def fJ(x:Nd)(k:Nat)(cl:Bool):Nd:={ fI x 0 with h:=(k:Int),c:=cl }
theorem WF.no_under(h:WF S)(O:f<S.length)(F:(nd S f).u=false){a:Nat}(hi:i<S.length)(ha:Up S a i f):a=0:=by
 obtain⟨t0,m0,p0,k0,h0,c0⟩:=h.unused O F
 cases a with
 | zero=>rfl
 | succ a =>
  exfalso
  have key:∀ (a i:Nat),i<S.length->Up S (a+1) i f->False:=by
   intro a
   induction a with
   | zero =>
    rintro i hi ⟨z,J,D,e⟩;have M:z=f:=e;subst M;unfold bA at D;by_cases E:(nd S i).h = -1
    ·rw[ye E] at D;have T:(nd S i).p≠-1:=oaa;obtain⟨pa,Z,_,_,_,I⟩:=h.parent_place hi T;have:pa=z:=oaa;rw[this,F] at I;cases I
    ·rw[yd E] at D;have:=(h.hosts i hi E).1;rw[D,yk,F] at this;cases this
   | succ a U =>
    rintro i hi ⟨z,J,D,e⟩;exact U z J e
  exact key a i hi ha
theorem WF.attach(h:WF S)(cl:Bool)(M:f<S.length)(a8:dI (nd S f)=true)(hk:k<S.length)(J:(nd S k).u=true)(hH:iD S k=false):WF (S.set f (fJ (nd S f) k cl)):=by
 obtain⟨O,hn⟩:=BI a8;obtain⟨t0,m0,p0,k0,h0,c0⟩:=h.unused M O;obtain⟨n0,n1,_⟩:=h.uses M;have Z:k≠f:=fun e=>by rw[e,O] at J;cases J
 have T:=IX.1 hH;have hl:(S.set f (fJ (nd S f) k cl)).length=S.length:=oac
 have D:∀ i,nd (S.set f (fJ (nd S f) k cl)) i=if i=f then fJ (nd S f) k cl else nd S i:=fun i=>iQ S f i _ M
 refine⟨by rw[hl];exact h.small,fun i hi=>?_,xE (fun i hi=>?_) (fun i hi x E=>?_) (fun j hj F=>?_),fun i hi=>?_,fun i hi=>?_⟩
 ·rw[hl] at hi |-;rw[D];split
  ·refine rG ?_ (rM ?_ ?_ (fun y hy=>absurd hy (by unfold fJ fI;dsimp only;rw[k0];simp))) ?_
   ·unfold iO fJ fI;simp only[Bool.and_eq_true,decide_eq_true_eq];exact⟨⟨oaa,oaa⟩,⟨oaa,oaa⟩,by rw[m0];omega,by rw[m0];omega⟩
   ·unfold fJ fI fA;exact yI ⟨by dsimp only;omega,by dsimp only;omega⟩
   ·unfold fJ fI fA;exact yI ⟨by dsimp only;omega,by dsimp only;omega⟩
   ·unfold gV fJ fI;simp only[if_true];rw[yd oaa,yd oaa];exact yI p0
  ·exact h.node i hi
 ·rw[hl] at hi;rw[D];split
  ·unfold fJ fI;dsimp only;rw[k0];exact List.nodup_nil
  ·exact h.kids_nodup hi
 ·rw[hl] at hi |-;rw[D] at E
  split at E
  ·unfold fJ fI at E;dsimp only at E;rw[k0] at E;cases E
  ·obtain⟨y,rfl,y1,y2,y3,_⟩:=h.kid hi E;have a6:y≠f:=fun e=>by rw[e,O] at y2;cases y2
   exact⟨y,rfl,y1,by rw[D,yd a6];exact y2,by rw[D,yd a6];exact y3⟩
 ·rw[hl] at hj |-;rw[D] at F
  split at F
  ·exact absurd (show (fJ (nd S f) k cl).p = -1 from p0) F
  ·obtain⟨i,i1,i2,_,i3,_⟩:=h.parent_place hj F;refine⟨i,i2,?_⟩;rw[D];split
   ·rename_i e;subst e;rw[k0] at i3;cases i3
   ·exact i3
 ·rw[hl] at hi;intro hh;by_cases e:i=f
  ·subst e;have I:(nd (S.set i (fJ (nd S i) k cl)) i).h=(k:Int):=(by rw[D,ye rfl];rfl);rw[I,yk];refine⟨by rw[D,yd Z];exact J,fun i' U=>?_⟩;rw[D,yd oaa];exact T i' oaa
  ·have I:nd (S.set f (fJ (nd S f) k cl)) i=nd S i:=(by rw[D,yd e]);rw[I] at hh |-;obtain⟨g1,g2⟩:=h.hosts i hi hh;refine⟨?_,fun i' U=>?_⟩
   ·rw[D];split
    ·rfl
    ·exact g1
   ·rw[D];split
    ·exact fun e2=>T i hi e2.symm
    ·exact g2 i' U
 ·rw[hl] at hi;have hr:∀ y,y<S.length->y≠f->bA (nd (S.set f (fJ (nd S f) k cl)) y)=bA (nd S y):=fun y _ e=>by rw[D,yd e]
  have a9:bA (nd (S.set f (fJ (nd S f) k cl)) f)=k:=by
   rw[D,ye rfl];unfold bA fJ fI;dsimp only;rw[yd oaa]
  have a7:∀ (j x:Nat),x<S.length->x≠f->¬ Up (S.set f (fJ (nd S f) k cl)) j x f:=fun j x E a5 b1=>by
   rcases xF hl hr E b1 with g |⟨a,m,_,g,_⟩
   ·have:=h.no_under M O E g;subst this;exact a5 g
   ·have:=h.no_under M O E g;subst this;exact a5 g
  cases hb:dF (S.set f (fJ (nd S f) k cl)) i i with
  | false=>rfl
  | true =>
   obtain⟨j,j1,j2,j3⟩:=uE (by rw[hl];exact hi) hb;rw[hl] at j2;by_cases e:i=f
   ·subst e;obtain⟨j', rfl⟩:∃ j', j=j' + 1:=⟨j-1,oaa⟩;obtain⟨z,hz,b0,b2⟩:=j3;rw[a9] at b0;have:z=k:=oaa;subst this;exact absurd b2 (a7 j' z hk Z)
   ·rcases xF hl hr hi j3 with g |⟨a,m,_,g,_⟩
    ·exact absurd g (h.no_ring hi j1 j2)
    ·have:=h.no_under M O hi g;subst this;exact absurd g e
theorem Ei(T M:Int)(near:Bool)(x:Nd)(k:Value)(w:Wd) :
  yO 212 #[.agg #[.int .i64 T,.int .i64 M,.bool near],.agg #[.bool x.u,.int .i64 x.n,.int .i64 x.t,.int .i64 x.m,.int .i64 x.p,k,.int .i64 x.h,.bool x.c]] w fun e w' => e=.returned (.bool (rP T M x))/\Below w.heap.size w w' := by
 obtain⟨xu,xn,O,F,xp,Z,xh,xc⟩:=x;unfold rP;dsimp only;by_cases h1:T = -1000001
 ·subst h1;simp only[decide_true,Bool.true_or,Bool.true_and];by_cases D:M = -1000001
  ·subst D;simp only[decide_true,Bool.true_or]
   go_enter func212,ntmps212
   go_wp2
   go_ret;exact⟨rfl,((yv _ _).alloc (yr _) _).alloc oac _⟩
  ·have U:(M == -1000001)=false:=beq_eq_false_iff_ne.2 D;rw[yH D,Bool.false_or];by_cases E:M=F
   ·subst E;simp only[decide_true]
    go_enter func212,ntmps212
    go_wp2
    go_ret;exact⟨oac,((yv _ _).alloc (yr _) _).alloc oac _⟩
   ·have I:(M == F)=false:=beq_eq_false_iff_ne.2 E;rw[yH E]
    go_enter func212,ntmps212
    go_wp2
    go_ret;refine⟨?_,((yv _ _).alloc (yr _) _).alloc oac _⟩
    first
     | rfl
     | simp[I]
 ·have e1:(T == -1000001)=false:=beq_eq_false_iff_ne.2 h1;rw[yH h1,Bool.false_or];by_cases J:T=O
  ·subst J;simp only[decide_true,Bool.true_and];by_cases D:M = -1000001
   ·subst D;simp only[decide_true,Bool.true_or]
    go_enter func212,ntmps212
    go_wp2
    go_ret;exact⟨rfl,((yv _ _).alloc (yr _) _).alloc oac _⟩
   ·have U:(M == -1000001)=false:=beq_eq_false_iff_ne.2 D;rw[yH D,Bool.false_or];by_cases E:M=F
    ·subst E;simp only[decide_true]
     go_enter func212,ntmps212
     go_wp2
     go_ret;exact⟨oac,((yv _ _).alloc (yr _) _).alloc oac _⟩
    ·have I:(M == F)=false:=beq_eq_false_iff_ne.2 E;rw[yH E]
     go_enter func212,ntmps212
     go_wp2
     go_ret;refine⟨?_,((yv _ _).alloc (yr _) _).alloc oac _⟩
     first
      | rfl
      | simp[I]
  ·have e2:(T == O)=false:=beq_eq_false_iff_ne.2 J;rw[yH J,Bool.false_and]
   go_enter func212,ntmps212
   go_wp2
   go_ret;exact⟨rfl,((yv _ _).alloc (yr _) _).alloc oac _⟩
theorem Ej(a:OA)(c:Nat)(S:List Nd)(T M:Int)(near:Bool)(F Z:Nat)(k:Nat)(w:Wd)(hk:k<S.length)(hS:aD w a S)(J:w.cell? ⟨F,0,none⟩=some (.int .i64 T))(O:w.cell? ⟨F,1,none⟩=some (.int .i64 M))(U:w.cell? ⟨F,2,none⟩=some (.bool near))(hs:w.cell? ⟨Z,0,none⟩=some (.slice a S.length c)) :
  yO 211 #[.int .i64 (k:Int),.pointer (some ⟨F,0,none⟩),.pointer (some ⟨Z,0,none⟩)] w fun e w' => e=.returned (.bool (!rP T M (nd S k)))/\Below w.heap.size w w' := by
 have a5:(k:Int)<(S.length:Int):=oaa
 obtain⟨b,o,rfl,c0,c1,c2,c3,c4,⟨ka,kc,c5,_⟩,c6,c7⟩:=hS k hk;have d1:=fun v W=>Ei T M near (nd S k) v W;clear hS;generalize rP T M (nd S k)=r at *;generalize nd S k=x at *;generalize S.length=n at *
 go_enter func211,ntmps211
 go_wp2_with fail
 go_region_held3 (fun E=>E.cell? ⟨F,0,none⟩=some (.int .i64 T)/\E.cell? ⟨F,1,none⟩=some (.int .i64 M)/\E.cell? ⟨F,2,none⟩=some (.bool near)/\E.cell? ⟨Z,0,none⟩=some (.slice (some ⟨b,o,none⟩) n c)/\E.cell? ⟨b,o+k*8,none⟩=some (.bool x.u)/\E.cell? ⟨b,o+k*8+1,none⟩=some (.int .i64 x.n)/\E.cell? ⟨b,o+k*8+2,none⟩=some (.int .i64 x.t)/\E.cell? ⟨b,o+k*8+3,none⟩=some (.int .i64 x.m)/\E.cell? ⟨b,o+k*8+4,none⟩=some (.int .i64 x.p)/\E.cell? ⟨b,o+k*8+5,none⟩=some (.slice ka x.ks.length kc)/\E.cell? ⟨b,o+k*8+6,none⟩=some (.int .i64 x.h)/\E.cell? ⟨b,o+k*8+7,none⟩=some (.bool x.c)) (go_keep) (first|(go_at_call 212;refine(d1 _ _).mono ?_;rintro e w2 ⟨rfl,I⟩;have D:Bl w w2:=((yv _ _).drew).trans I;have m0:=(D.cell (yi _ _ J)).trans J;have m1:=(D.cell (yi _ _ O)).trans O;have m2:=(D.cell (yi _ _ U)).trans U;have m3:=(D.cell (yi _ _ hs)).trans hs;have n0:=(D.cell (yi _ _ c0)).trans c0;have n1:=(D.cell (yi _ _ c1)).trans c1;have n2:=(D.cell (yi _ _ c2)).trans c2;have n3:=(D.cell (yi _ _ c3)).trans c3;have n4:=(D.cell (yi _ _ c4)).trans c4;have n5:=(D.cell (yi _ _ c5)).trans c5;have n6:=(D.cell (yi _ _ c6)).trans c6;have n7:=(D.cell (yi _ _ c7)).trans c7;clear I))
 all_goals go_wp2
 all_goals go_ret
 all_goals exact⟨rfl,D⟩
def gZ(W:Wd)(D gs N:Nat)(st:(Nat->Bool) × List Int)(w1:Wd):Prop :=
 Off (fun k=>k=D\/k=gs) W w1/\w1.rowIs gs 4 N (fun j=>.bool (st.1 j))/\(st.2.Nodup/\∀ x ∈ st.2,∃ j:Nat,j<N/\x=j/\st.1 j=true) /\
 ∃ v,w1.heap[D]?=some (.cells #[v] 48 (0,0))/\w1.ownsRow W.heap.size 3 1 v st.2.length (st.2.map (Value.int .i64))
theorem gZ.small{gs:Nat}{st:(Nat->Bool) × List Int}(h:gZ W D gs N st w1):st.2.length<=N:=by
 obtain⟨_,_,⟨h1,E⟩,_⟩:=h
 have:=h1.length_le_of_subset (l₂:=(List.range N).map (fun i:Nat=>(i:Int))) (fun x I=>by
  obtain⟨j,F,rfl,_⟩:=E x I;exact List.mem_map.2 ⟨j,List.mem_range.2 F,rfl⟩)
 simpa using this
theorem gZ.below{F gs:Nat}{st:(Nat->Bool) × List Int}(h:gZ W F gs N st w1)(hb:Bl w1 w2):gZ W F gs N st w2:=by
 obtain⟨M,I,J,v,hc,D⟩:=h;have E:=(Array.getElem?_eq_some_iff.1 hc).1
 exact⟨M.trans (Off.of_below hb),I.of_block (hb.block gs I.lt),J,v,(hb.block _ E).trans hc,D.kept (row:=none) ⟨hb.os,hb.tape,hb.output,hb.size,fun k O _=>hb.block k O⟩ (by
  cases hv:v.ownBlock with
  | none=>exact Or.inl rfl
  | some k=>exact Or.inr (fun e=>by cases e))⟩
theorem gZ.step{gs:Nat}{st:(Nat->Bool) × List Int}(h:gZ W D gs N st w1)(b0:D<W.heap.size)(b5:gs<W.heap.size)(b2:D≠gs)(hj:j<N)(hs:st.1 j=false){v Z:Value}(hc:w1.heap[D]?=some (.cells #[v] 48 (0,0)))(o1:Obj)
  (T:w1.ownsRow W.heap.size 3 1 v st.2.length (st.2.map (Value.int .i64)))
  (I:w2.ownsRow W.heap.size 3 1 Z (st.2.length+1) (st.2.map (Value.int .i64)++[.int .i64 (j:Int)])) (hg:((w1.setCell ⟨gs,j,none⟩ (.bool true)).alloc o1).grownBy w2 v.ownBlock) :
  w2.heap[D]?=some (.cells #[v] 48 (0,0))/\(∀ k:Nat,∀ x t,w1.heap[k]?=some (.cells #[x] t (0,0))->t≠48->t≠4->t≠3->(w2.setCell ⟨D,0,none⟩ Z).heap[k]?=w1.heap[k]?)/\gZ W D gs N (fun i=>if i=j then true else st.1 i,st.2++[(j:Int)]) (w2.setCell ⟨D,0,none⟩ Z):=by
 obtain⟨hO,hR,⟨a9,a5⟩,v0,b4,_⟩:=h;have U:∀ k,v.ownBlock=some k->W.heap.size<=k:=fun k E=>(T.lt k E).1;have b8:=hO.size
 have O:∀ k,k<W.heap.size->k≠gs->w2.heap[k]?=w1.heap[k]?:=fun k E b1 =>
  (hg.block k oab (fun e=>by have:=U k e.symm;omega)).trans ((Below.heap_alloc _ _ _ oab).trans (yx _ _ _ _ (by exact b1)))
 have a7:w2.heap[gs]?=(w1.setCell ⟨gs,j,none⟩ (.bool true)).heap[gs]? :=
  (hg.block gs oab (fun e=>by have:=U gs e.symm;omega)).trans (Below.heap_alloc _ _ _ oab)
 have a6:w2.heap[D]?=some (.cells #[v] 48 (0,0)):=(O D b0 b2).trans hc;refine⟨a6,fun k x t E h1 h2 h3=>?_,?_,?_,⟨?_,?_⟩,Z,wN a6,?_⟩
 ·have b7:=(Array.getElem?_eq_some_iff.1 E).1;have n1:k≠D:=fun e=>by rw[e,hc] at E;cases E;exact h1 rfl
  have n2:k≠gs:=fun e=>by
   obtain⟨a8,F,_⟩:=hR;rw[e,F] at E;cases E;exact h2 rfl
  rw[yx _ _ _ _ (by exact n1),hg.block k oab (fun e=>by
   rcases T.2 with ⟨hv,_⟩ |⟨g,cap,a8,hv,_,F,_⟩
   ·rw[hv] at e;cases e
   ·rw[hv] at e;have:k=g:=(by simpa [Value.ownBlock] using e);rw[this,F] at E;cases E;exact h3 rfl),Below.heap_alloc _ _ _ oab,yx _ _ _ _ (by exact n2)]
 ·refine⟨?_,?_,?_,?_,fun k E M=>?_⟩
  ·exact hg.os.trans hO.os
  ·exact hg.tape.trans hO.tape
  ·exact hg.output.trans hO.output
  ·have:=hg.size;simp at this |-;omega
  ·rw[yx _ _ _ _ (by show k≠D;exact fun e=>M (Or.inl e)),O k E (fun e=>M (Or.inr e))];exact hO.block k E M
 ·have h1:=((hR.set j (.bool true)).of_block a7).setOther (a:=⟨D,0,none⟩) oab Z;refine h1.congr (fun i _=>?_);dsimp only;by_cases e:i=j
  ·rw[ye e,ye e]
  ·rw[yd e,yd e]
 ·rw[List.nodup_append];refine⟨a9,oac,fun a ha b hb e=>?_⟩;have b3:b=(j:Int):=by simpa using hb
  obtain⟨i,hi,b6,J⟩:=a5 a ha;have:i=j:=oaa
  rw[this,hs] at J;cases J
 ·intro x M;rcases List.mem_append.1 M with M|M
  ·obtain⟨i,hi,rfl,J⟩:=a5 x M;refine⟨i,hi,rfl,?_⟩;dsimp only;by_cases e:i=j
   ·rw[ye e]
   ·rw[yd e];exact J
  ·exact⟨j,hj,by simpa using M,ye rfl⟩
 ·have h3:=I.kept (grownBy_setCell w2 ⟨D,0,none⟩ Z) (by
   cases hb:Z.ownBlock with
   | none=>exact Or.inl rfl
   | some k=>right;intro e;have:=(I.lt k hb).1;simp at e;omega)
  simpa using h3
theorem Ew(W:Wd)(T F O gs N:Nat)(near:Bool)(st:(Nat->Bool) × List Int)(j:Nat)(w1:Wd)(hj:j<N)(hN:N<=1000)(h:gZ W F gs N st w1)
  (b6:T<W.heap.size) (b4:F<W.heap.size) (b7:gs<W.heap.size) (b5:O<W.heap.size) (n1:T≠F) (n2:T≠gs) (n3:O≠F) (n4:O≠gs) (n5:F≠gs)
  (cs:W.cell? ⟨T,0,none⟩=some (.slice (some ⟨gs,0,none⟩) N N)) (cn:W.cell? ⟨O,0,none⟩=some (.bool near)) :
  yO 220 #[.int .i64 (j:Int),.pointer (some ⟨T,0,none⟩),.pointer (some ⟨F,0,none⟩),.pointer (some ⟨O,0,none⟩)] w1 fun e w2=>e=.returned (.bool (jJ near st j).2)/\gZ W F gs N (jJ near st j).1 w2/\Off (fun k=>k=F\/k=gs\/W.heap.size<=k) w1 w2/\∀ (k:Nat) x t,w1.heap[k]?=some (.cells #[x] t (0,0))->t≠48->t≠4->t≠3->w2.heap[k]?=w1.heap[k]?:=by
 obtain⟨i0,b8,b9,c6,c7⟩:=info_parts info3;have d9:(j:Int)<(N:Int):=oaa
 have e1:=h.small;have HI:Hid (gZ W F gs N st w1):=h;have M:Hid (∀ v,w1.heap[F]?=some (.cells #[v] 48 (0,0))->w1.ownsRow W.heap.size 3 1 v st.2.length (st.2.map (Value.int .i64))->∀ v' w2 o1,st.1 j=false->w2.ownsRow W.heap.size 3 1 v' (st.2.length+1) (st.2.map (Value.int .i64)++[.int .i64 (j:Int)])->((w1.setCell ⟨gs,j,none⟩ (.bool true)).alloc o1).grownBy w2 v.ownBlock->_):=fun v hc D v' w2 o1 hs E hg=>gZ.step h b4 b7 n5 hj hs hc o1 D E hg;obtain⟨hO,hR,_,v,hc,D⟩:=h;have e2:=hO.size;have x1:=(hO.cell (p:=⟨T,0,none⟩) b6 (by show ¬ (T=F\/T=gs);omega)).trans cs;have x2:=hR.cell hj;have f2:=hR.frozen j;have d8:=hR.lt;have a7:Hid (∀ a5 w2,gZ W F gs N a5 w2->w2.cell? ⟨O,0,none⟩=some (.bool near)):=fun a5 w2 h2=>(h2.1.cell (p:=⟨O,0,none⟩) b5 (by show ¬ (O=F\/O=gs);omega)).trans cn;have HC:Hid _:=hc;have HO:Hid _:=D;have cb:=cZ hc;have d7:=yi _ _ cb;have e0:=yi _ _ x1
 cases hs:st.1 j with
 | true =>
  rw[JB hs];rw[hs] at x2;clear hO hR D hc M
  go_enter func220,ntmps220
  go_wp2
  go_ret;exact⟨rfl,HI.out,Off.refl _ _,fun _ _ _ _ _ _ _=>rfl⟩
 | false =>
  rw[JC hs];rw[hs] at x2;have b3:Hid _:=M.out v hc D;have HS:Hid _:=hs;have c8:(w1.setCell ⟨gs,j,none⟩ (.bool true)).cell? ⟨F,0,none⟩=some v:=(World.cell?_setCell_other _ _ _ _ (by intro e;exact n5 (by simpa using (congrArg Addr.block e).symm))).trans cb
  have a8:Hid ((w1.setCell ⟨gs,j,none⟩ (.bool true)).ownsRow W.heap.size 3 1 v st.2.length (st.2.map (Value.int .i64))):=D.kept (grownBy_setCell w1 ⟨gs,j,none⟩ (.bool true)) (by
   cases hv:v.ownBlock with
   | none=>exact Or.inl rfl
   | some k=>right;intro e;have:=(D.lt k hv).1;simp at e;omega)
  have b2:Hid (∀ v' w2 o1,((w1.setCell ⟨gs,j,none⟩ (.bool true)).alloc o1).grownBy w2 v.ownBlock->Off (fun k=>k=F\/k=gs\/W.heap.size<=k) w1 (w2.setCell ⟨F,0,none⟩ v')):=fun v' w2 o1 hg=>⟨hg.os,hg.tape,hg.output,by have:=hg.size;simp at this |-;omega,fun k hk hx=>by
   rw[yx _ _ _ _ (by show k≠F;exact fun e=>hx (Or.inl e)),hg.block k oab (fun e=>by have:=(D.lt k e.symm).1;exact hx (Or.inr (Or.inr this))),Below.heap_alloc _ _ _ oab,yx _ _ _ _ (by show k≠gs;exact fun e=>hx (Or.inr (Or.inl e)))]⟩
  clear hO hR D hc M hs cb HO;generalize ((fun i=>if i=j then true else st.1 i,st.2++[(j:Int)]):(Nat->Bool) × List Int)=a5 at *
  go_enter func220,ntmps220
  go_wp2_with (at_builtin;refine wpList_append_own _ rfl _ _ 48 rfl W.heap.size 3 i0 (.int .i64 0) 1 8 underlying48 b8 b9 c6 c7 rfl oae _ _ _ rfl (a8.alloc _) ⟨w1.heap.size,0,none⟩ 1 1 [.int .i64 (j:Int)] rfl rfl ?c1 ?c2 ?c3 ?c4 ?c5 ?_)
  case c2=>rfl
  case c3=>unfold maxLen;omega
  case c4=>omega
  case c5=>omega
  intro v' w2 E J _
  obtain⟨g', I,rfl⟩:∃ g' I,v' = .slice (some ⟨g', 0,none⟩) (st.2.length+1) I:=by
   rcases E.2 with ⟨_,h⟩ |⟨g', I,d5,h,_⟩
   ·omega
   ·exact⟨g', I,h⟩
  obtain⟨Z,a9,U⟩:=b3.out _ _ _ HS.out E J;have a6:Hid _:=b2.out (.slice (some ⟨g', 0,none⟩) (st.2.length+1) I) _ _ J;have b0:Hid _:=U;have b1:Hid _:=a9;have c9:=cZ Z;have d6:=fun o=>iB (o:=o) Z;have d4:=a7.out _ _ U;clear E J U a9 Z
  go_wp2
  go_ret;exact⟨rfl,b0.out,a6.out,b1.out⟩
def jZ(n:Nd):Nat:=if n.h = -1 then 2 else 1
def rQ(S:List Nd)(L:Nat):List Int->Nat
 | []=>0
 | x :: r=>rQ S L r+jZ (nd S x.toNat)*3 ^ (L-(r.length+1))
def vF(S:List Nd)(k:Nat):Nat:=rQ S (S.length+2) (iE S k)
def eF(S:List Nd)(k:Nat):Nat:=vF S k+3 ^ (S.length+2-(iE S k).length)
theorem RV(n:Nd):1<=jZ n/\jZ n<=2:=by unfold jZ;split <;> omega
theorem WF.v_up(h:WF S)(E:k<S.length)(F:q<S.length)(I:bA (nd S k)=q) :
  ∃ P,0<P/\vF S k=vF S q+jZ (nd S k)*P/\eF S k=vF S q+jZ (nd S k)*P+P/\eF S q=vF S q+3*P/\P=3 ^ (S.length+1-(iE S q).length):=by
 have D:=h.path_up E F I;have hl:=RH S q;refine⟨3 ^ (S.length+1-(iE S q).length),Nat.pow_pos oaa,?_,?_,?_,rfl⟩
 ·unfold vF;rw[D,rQ,yk,show S.length+2-((iE S q).length+1)=S.length+1-(iE S q).length by omega]
 ·unfold eF vF;rw[D,rQ,yk,List.length_cons,show S.length+2-((iE S q).length+1)=S.length+1-(iE S q).length by omega]
 ·unfold eF;rw[show S.length+2-(iE S q).length=(S.length+1-(iE S q).length)+1 by omega,Nat.pow_succ,Nat.mul_comm]
theorem WF.v_step(h:WF S)(E:k<S.length)(F:q<S.length)(I:bA (nd S k)=q):vF S q<vF S k/\eF S k<=eF S q:=by
 obtain⟨P,h0,h1,D,J,_⟩:=h.v_up E F I;have hd:=RV (nd S k);rcases(show jZ (nd S k)=1\/jZ (nd S k)=2 by omega) with e|e <;> rw[e] at h1 D <;> omega
theorem WF.v_Up(h:WF S):∀ {j x y:Nat},x<S.length->Up S j x y->vF S y<=vF S x/\eF S x<=eF S y
 | 0,_,_,_,e=>by cases e;omega
 | j+1,x,y,I,⟨z,D,E,F⟩=>by
  have h1:=h.v_step I D E;have J:=h.v_Up D F;omega
theorem v_e(S:List Nd)(k:Nat):vF S k<eF S k:=by
 unfold eF;have:0<3 ^ (S.length+2-(iE S k).length):=Nat.pow_pos oaa;omega
theorem WF.v_given(h:WF S){H:Nat}(O:H<S.length)(hr:r<S.length)(hc:c<S.length)(hp:p<S.length)(hh:(nd S r).h=H)(hu:Up S j p r)(F:bA (nd S c)=H)(hch:(nd S c).h = -1):vF S p<vF S c:=by
 have J:bA (nd S r)=H:=by unfold bA;rw[yd oaa];exact hh
 obtain⟨P,h0,h1,U,h3,e⟩:=h.v_up hr O J;obtain⟨P', T,D,E,Z,M⟩:=h.v_up hc O F;rw[<- e] at M;subst M;have hd:jZ (nd S r)=1:=by unfold jZ;rw[yd oaa]
 have I:jZ (nd S c)=2:=by unfold jZ;rw[ye hch]
 rw[hd] at h1 U;rw[I] at D E;have hv:=(h.v_Up hp hu).2;have:=v_e S p;omega
theorem rR(S:List Nd)(x:Int)(h:dA S x≠-1):∃ r:Nat,r<S.length/\dA S x=r/\(nd S r).h=x/\x≠-1:=by
 unfold dA at *;by_cases D:x = -1
 ·rw[ye D] at h;exact absurd rfl h
 ·rw[yd D] at *
  cases hf:S.findIdx? fun n=>decide (n.h=x) with
  | none=>rw[hf] at h;exact absurd rfl h
  | some k =>
   obtain⟨h1,E,_⟩:=List.findIdx?_eq_some_iff_getElem.1 hf;exact⟨k,h1,rfl,by rw[eQ h1];exact of_decide_eq_true E,D⟩
theorem RX{x:Int}(D:x≠-1)(h:dA S x = -1)(i:Nat)(hi:i<S.length):(nd S i).h≠x:=fun e=>by
 unfold dA at h;rw[yd D] at h
 cases hf:S.findIdx? fun n=>decide (n.h=x) with
 | none =>
  have:=List.findIdx?_eq_none_iff.1 hf S[i] (List.getElem_mem hi);rw[<- eQ hi] at this;exact of_decide_eq_false this e
 | some k=>rw[hf] at h;simp at h
def dB(S:List Nd)(g:Nat->List Int)(p:Nat):List Int:=if dA S p≠-1 then (nd S (dA S p).toNat).ks else if g p≠[] then g p else (nd S p).ks
structure kZ (S:List Nd) (g:Nat->List Int):Prop where
 some:∀ p,p<S.length->∀ c ∈ g p,∃ H r j:Nat,H<S.length/\r<S.length/\(nd S r).h=H/\Up S j p r/\c ∈ (nd S H).ks
 one:∀ p p' c,p<S.length->p' < S.length->c ∈ g p->c ∈ g p' -> p=p'
 nodup:∀ p,p<S.length->(g p).Nodup
theorem BJ(h:WF S)(G:kZ S g)(T:p<S.length){c:Int}(hc:c ∈ dB S g p) :
  ∃ k q:Nat,c=k/\k<S.length/\q<S.length/\(nd S k).u=true/\(nd S k).h = -1/\(nd S k).p=q/\bA (nd S k)=q /\
   ((nd S q).h=p\/(dA S p = -1/\c ∈ g p/\∃ r j:Nat,r<S.length/\(nd S r).h=q/\Up S j p r)\/(dA S p = -1/\q=p)):=by
 unfold dB at hc
 split at hc
 ·rename_i U;obtain⟨r,h1,M,O,_⟩:=rR S p U;rw[M,yk] at hc;obtain⟨k,e,D,F,I,J⟩:=h.kid h1 hc;exact⟨k,r,e,D,h1,F,(h.host_of_parent D oaa).1,I,J,Or.inl O⟩
 ·rename_i U;have E:dA S p = -1:=Decidable.not_not.1 U
  split at hc
  ·obtain⟨H,r,j,h1,M,O,Z,h5⟩:=G.some p T c hc;obtain⟨k,e,D,F,I,J⟩:=h.kid h1 h5;exact⟨k,H,e,D,h1,F,(h.host_of_parent D oaa).1,I,J,Or.inr (Or.inl ⟨E,hc,r,j,M,O,Z⟩)⟩
  ·obtain⟨k,e,D,F,I,J⟩:=h.kid T hc;exact⟨k,p,e,D,T,F,(h.host_of_parent D oaa).1,I,J,Or.inr (Or.inr ⟨E,rfl⟩)⟩
theorem qF(h:WF S)(G:kZ S g)(I:p<S.length){c:Int}(hc:c ∈ dB S g p) :
  ∃ k:Nat,c=k/\k<S.length/\(nd S k).u=true/\(nd S k).h = -1/\vF S p<vF S k:=by
 obtain⟨k,q,e,E,F,U,hh,O,D,hw⟩:=BJ h G I hc;refine⟨k,e,E,U,hh,?_⟩;rcases hw with hw |⟨_,_,r,j,T,J,M⟩ |⟨_,rfl⟩
 ·have h1:=(h.v_step E F D).1;have Z:=(h.v_step F I (by unfold bA;rw[yd oaa];exact hw)).1;omega
 ·exact h.v_given F T E I J M D hh
 ·exact(h.v_step E F D).1
def ShR(ks:Nat->List Int)(c:Nat):Nat->Nat->Prop
 | 0,z=>z=c
 | j+1,z=>∃ y,ShR ks c j y/\(z:Int) ∈ ks y
theorem ShR.front(hc:(c:Int) ∈ ks p):∀ {j z:Nat},ShR ks c j z->ShR ks p (j+1) z
 | 0,z,e=>by cases e;exact⟨p,rfl,hc⟩
 | j+1,z,⟨y,D,E⟩=>⟨y,ShR.front hc D,E⟩
theorem ShR.trans(h:ShR ks p i c):∀ {j z:Nat},ShR ks c j z->ShR ks p (i+j) z
 | 0,z,e=>by cases e;exact h
 | j+1,z,⟨y,D,E⟩=>⟨y,ShR.trans h D,E⟩
theorem ShR.facts(h:WF S)(G:kZ S g)(D:k<S.length):∀ {j z:Nat},ShR (dB S g) k j z->z<S.length/\vF S k<=vF S z/\(z=k\/(nd S z).h = -1)/\(z=k\/(nd S z).u=true)/\(1<=j->vF S k<vF S z/\(nd S z).h = -1/\(nd S z).u=true)
 | 0,z,e=>by cases e;exact⟨D,yr _,Or.inl rfl,Or.inl rfl,fun h=>oaa⟩
 | j+1,z,⟨y,I,J⟩=>by
  obtain⟨h1,O,_⟩:=ShR.facts h G D I;obtain⟨k', e,M,F,E,T⟩:=qF h G h1 J;have:z=k' := by omega
  subst this;exact⟨M,oaa,Or.inr E,Or.inr F,fun _=>⟨oaa,E,F⟩⟩
theorem ShR.inner(h:WF S)(G:kZ S g){J:Nat}(O:k<S.length)(hr:r<S.length)(I:J<S.length)(hh:(nd S J).h=r)(D:(nd S r).h≠-1):∀ {j z i:Nat},ShR (dB S g) k j z->Up S i z J->k=r\/∃ i,Up S i k J
 | 0,z,i,e,T=>by cases e;exact Or.inr ⟨i,T⟩
 | j+1,z,i,⟨y,U,hz⟩,T=>by
  obtain⟨y1,y2,y3,_⟩:=ShR.facts h G O U;obtain⟨k', q,e,a8,hq,b0,a9,b1,b4,hw⟩:=BJ h G y1 hz;have:z=k' := by omega
  subst this
  cases i with
  | zero =>
   have:z=J:=T;subst this;omega
  | succ i =>
   obtain⟨q', Z,a7,E⟩:=T;have:q' = q:=oaa;subst this;rcases hw with hw |⟨_,_,r2,j2,b3,M,a6⟩ |⟨_,rfl⟩
   ·by_cases e:q' = J
    ·subst e;have:y=r:=oaa;subst this;exact Or.inl (y3.resolve_right D).symm
    ·cases i with
     | zero=>exact absurd E e
     | succ i =>
      obtain⟨q2,b2,F,a5⟩:=E;have:q2=y:=(by unfold bA at F;rw[yd oaa] at F;omega);subst this;exact ShR.inner h G O hr I hh D U a5
   ·have h3:Up S 1 r2 q' := WF.up_one Z (by unfold bA;rw[yd oaa];exact M);exact ShR.inner h G O hr I hh D U (a6.trans (h3.trans E))
   ·exact ShR.inner h G O hr I hh D U E
theorem ShR.one(h:WF S)(G:kZ S g){i' p':Nat}(M:k<S.length)(h1:ShR (dB S g) k i p)(h2:ShR (dB S g) k i' p'){c:Int}(hc:c ∈ dB S g p)(U:c ∈ dB S g p'):p=p' := by
 obtain⟨O,p2,p3,_⟩:=ShR.facts h G M h1;obtain⟨T,q2,q3,_⟩:=ShR.facts h G M h2;obtain⟨z,q,e,hz,Z,b7,b4,b5,b6,hw⟩:=BJ h G O hc;obtain⟨z', J,e', b3,b1,b0,a7,a8,a9,D⟩:=BJ h G T U;have:z' = z:=oaa
 subst this;have:J=q:=oaa
 subst this;have up:∀ {a:Nat},a<S.length->(nd S J).h=a->vF S a<vF S J:=fun ha e=>(h.v_step Z ha (by unfold bA;rw[yd oaa];exact e)).1
 have inn:∀ {a b r j i:Nat},a<S.length->ShR (dB S g) k i b->vF S k<=vF S a->(nd S J).h=a->r<S.length->(nd S r).h=J->Up S j b r->False:=fun {a b r j i} ha hb hv a5 E I hu=>by
  have b2:=up ha a5;rcases ShR.inner h G M Z E I oaa hb hu with e |⟨i,hi⟩
  ·subst e;omega
  ·have h3:=(h.v_Up M hi).1;have h4:=(h.v_step E Z (by unfold bA;rw[yd oaa];exact I)).1;omega
 rcases hw with hw |⟨n1,m1,r,j,E,F,a6⟩ |⟨n1,e1⟩ <;> rcases D with D |⟨n2,m2,r2,j2,hr2,hrh2,hup2⟩ |⟨n2,e2⟩
 ·omega
 ·exact(inn O h2 p2 hw hr2 hrh2 hup2).elim
 ·subst e2;have:=up O hw;rcases q3 with e|e
  ·subst e;omega
  ·omega
 ·exact(inn T h1 q2 D E F a6).elim
 ·exact G.one _ _ c O T m1 m2
 ·subst e2;exact absurd F (RX oaa n2 r E)
 ·subst e1;have:=up T D;rcases p3 with e|e
  ·subst e;omega
  ·omega
 ·subst e1;exact absurd hrh2 (RX oaa n1 r2 hr2)
 ·omega
theorem ShR.apart(h:WF S)(G:kZ S g){T:Nat}(hk:k<S.length)(F:ShR (dB S g) k i p)(hc:(c:Int) ∈ dB S g p)(D:(T:Int) ∈ dB S g p)(E:c≠T) :
  ∀ {j O z:Nat},ShR (dB S g) c j z->ShR (dB S g) T O z->False:=by
 have hP:=(ShR.facts h G hk F).1
 have first:∀ {a b j:Nat},(a:Int) ∈ dB S g p->(b:Int) ∈ dB S g p->a≠b->ShR (dB S g) b j a->False:=fun {a b j} ha hb Z hs=>by
  cases j with
  | zero=>exact Z hs
  | succ j =>
   obtain⟨y,I,a5⟩:=hs;have e:=ShR.one h G hk F (F.trans (ShR.front hb I)) ha a5;subst e;obtain⟨b', e,b1,_,_,b2⟩:=qF h G hP hb;have:b' = b:=oaa;subst this;have:=(ShR.facts h G b1 I).2.1;omega
 intro j
 induction j with
 | zero =>
  intro O z h1 U;have:z=c:=h1;subst this;exact first hc D E U
 | succ j ih =>
  intro O z h1 U
  cases O with
  | zero =>
   have:z=T:=U;subst this;exact first D hc (Ne.symm E) h1
  | succ O =>
   obtain⟨y,I,a6⟩:=h1;obtain⟨y', J,M⟩:=U;have e:=ShR.one h G hk (F.trans (ShR.front hc I)) (F.trans (ShR.front D J)) a6 M;subst e;exact ih I J
theorem xI{S:List Nd}(h:WF S){g:Nat->List Int}(G:kZ S g):∀ {f p:Nat},p<S.length->∀ x ∈ fQ (dB S g) f p,∃ j q:Nat,x=q/\ShR (dB S g) p j q
 | 0,p,_,x,D=>⟨0,p,by simpa [fQ] using D,rfl⟩
 | f+1,p,F,x,D=>by
  simp only[fQ,List.mem_cons,List.mem_flatMap] at D;rcases D with rfl |⟨c,hc,D⟩
  ·exact⟨0,p,rfl,rfl⟩
  ·obtain⟨k,rfl,E,_⟩:=qF h G F hc;rw[yk] at D;obtain⟨j,q,e,I⟩:=xI h G E x D;exact⟨j+1,q,e,ShR.front hc I⟩
theorem Fx(h:WF S)(G:kZ S g)(D:p<S.length):(dB S g p).Nodup:=by
 unfold dB;split
 ·rename_i F;obtain⟨r,h1,E,_⟩:=rR S p F;rw[E,yk];exact h.kids_nodup h1
 ·split
  ·exact G.nodup p D
  ·exact h.kids_nodup D
theorem SA{S:List Nd}(h:WF S){g:Nat->List Int}(G:kZ S g){k:Nat}(M:k<S.length):∀ {f i p:Nat},ShR (dB S g) k i p->(fQ (dB S g) f p).Nodup
 | 0,_,p,_=>by simp[fQ]
 | f+1,i,p,hs=>by
  have E:=(ShR.facts h G M hs).1;simp only[fQ];rw[List.nodup_cons];refine⟨fun I=>?_,IY _ _ (Fx h G E) (fun x D=>?_) (fun x D y Z O z hz F=>?_)⟩
  ·obtain⟨x,D,I⟩:=List.mem_flatMap.1 I;obtain⟨c,rfl,hc,_,_,hv⟩:=qF h G E D;rw[yk] at I;obtain⟨j,q,e,T⟩:=xI h G hc _ I;have:q=p:=oaa;subst this;have:=(ShR.facts h G hc T).2.1;omega
  ·obtain⟨c,rfl,hc,_⟩:=qF h G E D;rw[yk];exact SA h G M (i:=i+1) ⟨p,hs,D⟩
  ·obtain⟨c,rfl,hc,_⟩:=qF h G E D;obtain⟨c', rfl,J,_⟩:=qF h G E Z;rw[yk] at hz F;obtain⟨j,q,e,T⟩:=xI h G hc _ hz;obtain⟨j', q', e', U⟩:=xI h G J _ F;have:q=q' := by omega
   subst this;exact ShR.apart h G M hs D Z (fun e=>O (by rw[e])) T U
theorem Fy(h:WF S)(G:kZ S g)(D:k<S.length)(f:Nat):(fQ (dB S g) f k).length<=S.length:=by
 have h1:=SA h G D (f:=f) (i:=0) (p:=k) rfl
 have:=h1.length_le_of_subset (l₂:=(List.range S.length).map (fun i:Nat=>(i:Int))) (fun x F=>by
  obtain⟨j,q,rfl,E⟩:=xI h G D x F;exact List.mem_map.2 ⟨q,List.mem_range.2 (ShR.facts h G D E).1,rfl⟩)
 simpa using this
theorem SB(S:List Nd)(L:Nat):∀ l:List Int,l.length<=L->rQ S L l+3 ^ (L-l.length)<=3 ^ L
 | [],_=>by simp[rQ]
 | x :: r,hl=>by
  rw[List.length_cons] at hl;have D:=SB S L r oaa;have hd:=RV (nd S x.toNat);rw[rQ,List.length_cons];rw[show L-r.length=(L-(r.length+1))+1 by omega,Nat.pow_succ] at D;rcases(show jZ (nd S x.toNat)=1\/jZ (nd S x.toNat)=2 by omega) with e|e <;> rw[e] <;> omega
theorem Fz(S:List Nd)(k:Nat):vF S k<3 ^ (S.length+2):=by
 have h1:=SB S (S.length+2) (iE S k) (by have:=RH S k;omega);have:0<3 ^ (S.length+2-(iE S k).length):=Nat.pow_pos oaa;unfold vF;omega
theorem SC{S:List Nd}(h:WF S){g:Nat->List Int}(G:kZ S g):∀ {f p:Nat},p<S.length->3 ^ (S.length+2)<=vF S p+f->tY (dB S g) S.length f p
 | 0,p,_,hv=>by have:=Fz S p;omega
 | f+1,p,E,hv=>fun c hc=>by
  obtain⟨k,rfl,D,_,_,h1⟩:=qF h G E hc;rw[yk];exact⟨⟨oaa,oaa⟩,SC h G D oaa⟩
def xJ(S:List Nd):Nat:=3 ^ (S.length+2)
theorem Ga(h:WF S)(G:kZ S g)(D:p<S.length):tY (dB S g) S.length (xJ S) p:=SC h G D (by unfold xJ;omega)
def mD(S:List Nd)(mk:Int)(x:Int):Bool:=!decide ((nd S x.toNat).m=mk)
def iZ(S:List Nd)(H:Nat)(mk:Int):List Int:=flt (mD S mk) (nd S H).ks
theorem Gb(a:OA)(c:Nat)(S:List Nd)(H:Nat)(mk:Int)(w:Wd)(hH:H<S.length)(hl:(nd S H).ks.length<=1000)(hp:∀ y ∈ (nd S H).ks,∃ x:Nat,y=x/\x<S.length)(hS:aD w a S) :
  yO 223 #[.agg #[.slice a S.length c],.int .i64 (H:Int),.int .i64 mk] w fun e w' => ∃ v,e=.returned v/\Below w.heap.size w w' /\ w'.ownsRow w.heap.size 3 1 v (iZ S H mk).length ((iZ S H mk).map (Value.int .i64)):=by
 obtain⟨i0,b2,b8,b9,c6⟩:=info_parts info3;have HS:Hid (aD w a S):=hS;have R0:Hid (iZ S H mk=flt (mD S mk) (nd S H).ks):=(rfl:iZ S H mk=_);have PL:Hid (∀ y ∈ (nd S H).ks,∃ x:Nat,y=x/\x<S.length):=hp;obtain⟨a8,c7,b1,_,_,_,_,_,⟨ka,kc,c5,a6⟩,_,_⟩:=hS H hH;subst b1;have HI:Hid (aG w ka (nd S H).ks):=a6;clear hS hp a6;generalize iZ S H mk=a5 at *;generalize (nd S H).ks=P at *;obtain⟨m,hm⟩:∃ m,P.length=m:=⟨_,rfl⟩;have HM:Hid (P.length=m):=hm;rw[hm] at hl c5;obtain⟨n,hn⟩:∃ n,S.length=n:=⟨_,rfl⟩;have HN:Hid (S.length=n):=hn;rw[hn] at hH PL |-;have c9:(H:Int)<(n:Int):=oaa
 have d7:a8<w.heap.size:=yi _ _ c5;clear hn hm
 go_enter func223,ntmps223
 go_wp2_with fail
 go_loopg [7,17] m (fun g s7 s17 wr=>∃ (i:Nat) (l:List Int),i<=m/\m-i<=g/\s17=.int .i64 i/\l.length<=i/\Hid (Bl w wr)/\wr.cell? ⟨w.heap.size,0,none⟩=some (.slice (some ⟨a8,c7,none⟩) n c)/\w.heap.size+1<=wr.heap.size/\Hid (wr.ownsRow (w.heap.size+1) 3 1 s7 l.length (l.map (Value.int .i64)))/\Hid (l=flt (mD S mk) (P.take i)))
 case atStart=>exact⟨0,[],oaa,oaa,rfl,oac,(yv _ _).alloc (yr _) _,oaf,oac,World.ownsRow_nil _ _ _ _,(by simp[flt]:([]:List Int)=flt (mD S mk) (P.take 0))⟩
 case round =>
  obtain⟨i,l,hi,hg,rfl,b4,Z,cs,a7,I,HE⟩:=hrel;obtain⟨qa,qc,hv,_⟩:=uI I.out;subst hv;obtain⟨ln,T⟩:∃ y,l.length=y:=⟨_,rfl⟩;have D:Hid (l.length=ln):=T;rw[T] at I b4 |-;clear T;by_cases U:i<m
  ·obtain⟨y,hy,b7⟩:=PL.out (P.getD i 0) (by rw[aJ P 0 (by rw[HM.out];exact U)];exact List.getElem_mem _);obtain⟨pb,po,ep,b5⟩:=(HI.below Z) i (by rw[HM.out];exact U);subst ep;rw[hy] at b5;obtain⟨nb,no,ea,_,_,_,c3,_,_,_,_⟩:=(HS.below Z) y (by rw[HN.out];exact b7);cases ea;have d8:(y:Int)<(n:Int):=oaa;have d6:(i:Int)<(m:Int):=oaa
   have NX:Hid (flt (mD S mk) (P.take (i+1))=l++(if (nd S y).m=mk then [(y:Int)] else [])):=by
    have e:=xB (mD S mk) P i (by rw[HM.out];exact U);rw[hy] at e;show flt _ _=_;rw[e,<- HE.out];unfold mD;rw[yk];by_cases h:(nd S y).m=mk <;> simp[h]
   clear HE hy c5;generalize (nd S y).m=hh at *;by_cases M:hh=mk
   ·subst M;have E2:Hid (l++[(y:Int)]=flt (mD S hh) (P.take (i+1))):=(by rw[NX.out,ye rfl]:l++[(y:Int)]=flt (mD S hh) (P.take (i+1)));have OB:Hid (∀ k,(Value.slice qa ln qc).ownBlock=some k->w.heap.size+1<=k):=fun k hk=>(I.lt k hk).1;have c8:ln<=1000:=oaa;clear NX
    go_wp2_with (at_builtin;refine wpList_append_own _ rfl _ _ 48 rfl (w.heap.size+1) 3 i0 (.int .i64 0) 1 8 underlying48 b2 b8 b9 c6 rfl oae _ _ _ rfl (I.alloc _) ⟨wr.heap.size,0,none⟩ 1 1 [.int .i64 (y:Int)] rfl rfl ?c1 ?c2 ?c3 ?c4 ?c5 ?_)
    case c2=>first|rfl|(intro u hu;simp at hu;subst hu;rfl)|simp
    case c3=>unfold maxLen;omega
    case c4=>omega
    case c5=>first|omega|(simp;omega)
    case c1=>first|(go_simp;done)|(intro j u hj;match j,hj with|0,hj=>(cases hj;go_simp)|(j+1),hj=>simp at hj)
    intro v' w2 F E _;have J:Below (w.heap.size+1) wr w2:=((yv _ wr).alloc oaa _).grown E oab (fun k hk=>OB.out k hk);have a9:Hid (Bl w w2):=Z.trans (J.mono oaa);have b0:=(J.cell (p:=⟨w.heap.size,0,none⟩) (by show w.heap.size < _;omega)).trans cs
    have O:Hid (w2.ownsRow (w.heap.size+1) 3 1 v' (l++[(y:Int)]).length ((l++[(y:Int)]).map (Value.int .i64))):=by
     have h2:=F;rw[show (l++[(y:Int)]).length=ln+1 by simp[D.out],List.map_append];exact h2
    have b6:w.heap.size+1<=w2.heap.size:=yJ a7 J.size;clear F E J cs I
    go_wp2_with fail
    go_roundg (m-(i+1))
    case measure=>omega
    case rel=>exact⟨i+1,l++[(y:Int)],oaa,oaa,by go_num,by simp[D.out];omega,a9,b0,b6,O,E2⟩
   ·have d4:(hh == mk)=false:=beq_eq_false_iff_ne.2 M;have d5:decide (hh=mk)=false:=yH M;have E2:Hid (l=flt (mD S mk) (P.take (i+1))):=(by rw[NX.out,yd M];simp:l=flt (mD S mk) (P.take (i+1)));have O:Hid (wr.ownsRow (w.heap.size+1) 3 1 (.slice qa ln qc) l.length (l.map (Value.int .i64))):=(by rw[D.out];exact I.out:wr.ownsRow (w.heap.size+1) 3 1 (.slice qa ln qc) l.length (l.map (Value.int .i64)));clear NX I
    go_wp2
    go_roundg (m-(i+1))
    case measure=>omega
    case rel=>exact⟨i+1,l,oaa,oaa,by go_num,by rw[D.out];omega,Z,cs,a7,O,E2⟩
  ·have b3:i=m:=oaa;subst b3;have e:=HE.out;rw[List.take_of_length_le (by rw[HM.out];omega),<- R0.out] at e
   have OW:Hid (wr.ownsRow w.heap.size 3 1 (.slice qa ln qc) a5.length (a5.map (Value.int .i64))):=by
    have h2:=JE I.out (show w.heap.size<=w.heap.size+1 by omega);rw[<- D.out,e] at h2;rw[<- D.out,e];exact h2
   clear HE e I
   go_wp2
   go_ret;exact⟨_,rfl,Z.out,OW.out⟩
