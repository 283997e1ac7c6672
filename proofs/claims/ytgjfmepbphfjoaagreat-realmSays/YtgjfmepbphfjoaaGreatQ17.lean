/-
  x
-/
import Derived.Test.YtgjfmepbphfjoaaGreatQ16
namespace Go.Proofs.YtgjfmepbphfjoaaGreat
set_option maxRecDepth 100000
set_option maxHeartbeats 4000000
set_option linter.unusedVariables false
open Go.RowKit
def zjE(w:World)(g:Nat)(S:List Nd):Prop :=
 ∃ F,w.rowIs g 47 (S.length*8) F/\∀ i,i<S.length->∃ kb kc,NdR w F (i*8) (nd S i) kb kc/\g<kb
theorem zjE.nds{w:World}{g:Nat}{S:List Nd}(h:zjE w g S):zae w (some ⟨g,0,none⟩) S:=fun i V=>by
 obtain⟨F,A,U⟩:=h;obtain⟨kb,kc,⟨D,e1,e2,e3,e4,e5,I,J,e8,M,G,T,O⟩,_⟩:=U i V;refine⟨g,0,rfl,?_⟩;rw[yv];refine⟨?_,?_,?_,?_,?_,⟨some ⟨kb,0,none⟩,kc,?_,fun j Z=>⟨kb,0,rfl,?_⟩⟩,?_,?_⟩
 ·rw[A.cell (by omega),D]
 ·rw[A.cell (by omega),e1]
 ·rw[A.cell (by omega),e2]
 ·rw[A.cell (by omega),e3]
 ·rw[A.cell (by omega),e4]
 ·rw[A.cell (by omega),e5]
 ·rw[yv,T.cell (by omega),O j Z]
 ·rw[A.cell (by omega),I]
 ·rw[A.cell (by omega),J]
theorem zjE.up{w w3:World}{g:Nat}{S:List Nd}(h:zjE w g S)(A:∀ b,g<=b->b<w.heap.size->w3.heap[b]?=w.heap[b]?):zjE w3 g S:=by
 obtain⟨F,I,hN⟩:=h;refine⟨F,I.of_block (A g (yi _) I.lt),fun i hi=>?_⟩;obtain⟨kb,kc,⟨O,e1,e2,e3,e4,e5,T,U,V,D,G,J,Z⟩,M⟩:=hN i hi;exact⟨kb,kc,⟨O,e1,e2,e3,e4,e5,T,U,V,D,G,J.of_block (A kb (Nat.le_of_lt M) J.lt),Z⟩,M⟩
theorem zjE.root{w:World}{g:Nat}{S:List Nd}{k:Nat}(h:zjE w g S)(hk:k<S.length)(hh:Int)(I:Bool) :
  zjE ((w.setCell ⟨g,k*8+6,none⟩ (.int .i64 hh)).setCell ⟨g,k*8+7,none⟩ (.bool I)) g (S.set k { nd S k with h:=hh,c:=I }):=by
 obtain⟨F,V,hN⟩:=h;refine⟨_,by rw[List.length_set];exact(V.set (k*8+6) (.int .i64 hh)).set (k*8+7) (.bool I),fun i T=>?_⟩;rw[List.length_set] at T;obtain⟨kb,kc,⟨U,e1,e2,e3,e4,e5,e6,e7,M,A,G,Z,O⟩,J⟩:=hN i T;have D:=(Z.setOther (a:=⟨g,k*8+6,none⟩) (by simp;omega) (.int .i64 hh)).setOther (a:=⟨g,k*8+7,none⟩) (by simp;omega) (.bool I);refine⟨kb,kc,?_,J⟩;rw[zay S k i _ hk];by_cases e:i=k
 ·subst e;rw[yd rfl];refine⟨?_,?_,?_,?_,?_,?_,?_,?_,M,A,G,D,O⟩
  all_goals dsimp only
  ·rw[ya (by omega),ya (by omega),U]
  ·rw[ya (by omega),ya (by omega),e1]
  ·rw[ya (by omega),ya (by omega),e2]
  ·rw[ya (by omega),ya (by omega),e3]
  ·rw[ya (by omega),ya (by omega),e4]
  ·rw[ya (by omega),ya (by omega),e5]
  ·rw[ya (by omega),yd rfl]
  ·rw[yd rfl]
 ·rw[ya e];refine⟨?_,?_,?_,?_,?_,?_,?_,?_,M,A,G,D,O⟩
  all_goals
   dsimp only;rw[ya (by omega),ya (by omega)];assumption
theorem zlg(a:Option Addr)(c:Nat)(S:List Nd)(t:Int)(w:World)(hN:S.length<=24)(hK:∀ i,i<S.length->(nd S i).ks.length<=1000)(hS:zae w a S)(hC:zaD S=0)(g9:0<=t)(h3:t<=99)(k:Nat)(hk:k<S.length)(T:zbO (nd S k)=true)(h0:0<=(nd S k).n)(a4:∀ i,i<k->zbO (nd S i)=false) :
  Calls Tryz.prog 101 #[.agg #[.slice a S.length c],.int .i64 t] w fun e w' => ∃ g,e=.returned (.tuple #[.agg #[.slice (some ⟨g,0,none⟩) S.length S.length],.agg #[.int .i64 k,.int .i64 ((nd S k).n+1)],.int .i64 0])/\Below w.heap.size w w' /\ w.heap.size<=g/\zjE w' g (S.set k (zbq (nd S k) t)):=by
 have h2:(nd S k).n<1000000:=by
  unfold zbO at T;simp at T;exact T.2
 have HS:Hid (zae w a S):=hS;have df:=fun(W:World) (hW:zae W a S)=>ziJ a c S W (by omega) hW k hk T a4;have DF:Hid _:=df;have dc:=fun(W:World) (hW:zae W a S)=>copy_any a c S W hN hK hW;have DC:Hid _:=dc;have d0:=fun W hW=>zdn a c S W (by omega) (fun i hi=>yx (hK i hi) (by omega)) hW;rw[hC] at d0;have D0:Hid _:=d0
 have TU:Hid (∀ (w w' : World) (B g:Nat) (kb kc:Nat->Nat) (h:Own w B g S kb kc S.length) (F' : Nat->Value) (J:w'.rowIs g 47 (S.length*8) F')
  (hN:∀ F,w.rowIs g 47 (S.length*8) F->(∀ i,i<S.length->NdR w F (i*8) (nd S i) (kb i) (kc i))->(∀ i,i<S.length->g<kb i)->∀ i,i<S.length->∃ d6 g2,NdR w' F' (i*8) (nd (S.set k (zbq (nd S k) t)) i) d6 g2/\g<d6),zjE w' g (S.set k (zbq (nd S k) t))):=fun w w' B g kb kc h F' J hN=>by
  obtain⟨_,F,a6,a7,Z,_⟩:=h;exact⟨F', by rw[List.length_set];exact J,fun i hi=>hN F a6 a7 Z i (by rw[List.length_set] at hi;exact hi)⟩
 have f0:Hid (∀ i,nd (S.set k (zbq (nd S k) t)) i=if i=k then zbq (nd S k) t else nd S i):=fun i=>zay S k i _ hk
 have OC:Hid (∀ (wr:World) (B g:Nat) (kb kc:Nat->Nat),Own wr B g S kb kc S.length->(g<wr.heap.size/\(∀ o,wr.frozen? ⟨g,o,none⟩=false)/\(∃ F:Nat->Value,wr.rowIs g 47 (S.length*8) F)/\wr.cell? ⟨g,k*8,none⟩=some (.bool (nd S k).u)/\wr.cell? ⟨g,k*8+1,none⟩=some (.int .i64 (nd S k).n)/\wr.cell? ⟨g,k*8+2,none⟩=some (.int .i64 (nd S k).t))):=fun wr B g kb kc h=>by
  obtain⟨_,F,J,f7,_⟩:=h;obtain⟨e0,e1,e2,_⟩:=f7 k hk;exact⟨J.lt,J.frozen,⟨F,J⟩,by rw[J.cell (by omega),e0],by rw[J.cell (by omega),e1],by rw[J.cell (by omega),e2]⟩
 clear hS a4 df dc d0 hC hK T;generalize hn:S.length=n at *;generalize b9:(nd S k).n=nk at *;have g7:(k:Int)<(n:Int):=by omega
 have g8:decide ((k:Int)<0)=false:=decide_eq_false (by omega);clear hn;have d8:Hid _:=b9;clear b9
 go_enter Tryz.func101,Tryz.ntmps101
 go_wp2_with (go_at_call 20;refine(D0.out _ (HS.out.below (zal _ _ _ _))).mono ?_;rintro e w0 ⟨rfl,I⟩;simp only[yk] at I;obtain⟨l0,l1,l2,l3,z1,z2,z3⟩:=zbU I;have b5:Below w.heap.size w w0:=(zal _ _ _ _).trans (I.mono (by omega)))
 go_wp2_with (go_at_call 54;refine(zdz _ _ _ _ (by omega) (by omega)).mono ?_;rintro e w' ⟨rfl,rfl⟩)
 refine(DF.out _ (HS.out.below b5)).mono ?_;rintro e w1 ⟨rfl,a5⟩;have c7:=I.size;simp only[yk] at c7;have M:=I.trans (a5.mono c7);have f6:Below w.heap.size w w1:=(zal _ _ _ _).trans (M.mono (by omega));clear l0 l1 l2 l3 z1 z2 z3 I a5 b5;obtain⟨l0,l1,l2,l3,z1,z2,z3⟩:=zbU M
 go_wp2_with fail
 refine(DC.out _ (HS.out.below f6)).mono ?_;rintro e w2 ⟨g,kb,kc,rfl,b8,V⟩;have c8:=M.size;simp only[yk] at c8;have O:=M.trans (b8.mono c8);obtain⟨m0,m1,m2,m3,y1,y2,y3⟩:=zbU O;obtain⟨g6,f9,⟨F,J⟩,d0,d1,d2⟩:=OC.out _ _ _ _ _ V;have g3:w1.heap.size<=g:=V.1;have g0:w.heap.size+1+1<g:=by omega
 have d9:Hid (Own w2 w1.heap.size g S kb kc n):=V;have HB:Hid (Below (w.heap.size+1+1+1) (((w.alloc (.cells #[.slice a n c] 24)).alloc (.cells #[.slice none 0 0] 24)).alloc (.cells #[.int .i64 0,.int .i64 0] 39)) w2):=O;have HF:Hid (w2.rowIs g 47 (n*8) F):=J;clear V J l0 l1 l2 l3 z1 z2 z3 M b8 O
 go_wp2
 obtain⟨U,A⟩:∃ U,U=(((w2.setCell ⟨g,k*8,none⟩ (Value.bool true)).setCell ⟨g,k*8+1,none⟩ (Value.int IntKind.i64 (nk+1))).setCell ⟨g,k*8+2,none⟩ (Value.int IntKind.i64 t)).alloc (Obj.cells #[Value.slice (some ⟨g,0,none⟩) n n] 24):=⟨_,rfl⟩;rw[<- A];have q8:U.cell? ⟨w2.heap.size,0,none⟩=some (.slice (some ⟨g,0,none⟩) n n):=by rw[A];go_simp
 have q1:U.cell? ⟨g,k*8+1,none⟩=some (.int .i64 (nk+1)):=by rw[A];go_simp
 have c9:U.heap.size=w2.heap.size+1:=by rw[A];simp
 have a8:Below (w.heap.size+1+1+1) (((w.alloc (.cells #[.slice a n c] 24)).alloc (.cells #[.slice none 0 0] 24)).alloc (.cells #[.int .i64 0,.int .i64 0] 39)) U:=by
  rw[A];exact(((HB.out.setCell (by simp;omega) _).setCell (by simp;omega) _).setCell (by simp;omega) _).alloc (by simp;omega) _
 clear m0 m1 m2 m3 y1 y2 y3 d0 d1 d2 f9;obtain⟨m0,m1,m2,m3,y1,y2,y3⟩:=zbU a8;have d7:Hid (Below (w.heap.size+1+1+1) (((w.alloc (.cells #[.slice a n c] 24)).alloc (.cells #[.slice none 0 0] 24)).alloc (.cells #[.int .i64 0,.int .i64 0] 39)) U):=a8;have a9:Hid (U=(((w2.setCell ⟨g,k*8,none⟩ (Value.bool true)).setCell ⟨g,k*8+1,none⟩ (Value.int IntKind.i64 (nk+1))).setCell ⟨g,k*8+2,none⟩ (Value.int IntKind.i64 t)).alloc (Obj.cells #[Value.slice (some ⟨g,0,none⟩) n n] 24)):=A;have g4:Hid (U.heap.size=w2.heap.size+1):=c9;clear a8 A HB c9
 go_region
 all_goals (try go_wp2)
 refine yq (v:=.tuple #[.agg #[.slice (some ⟨g,0,none⟩) n n],.agg #[.int .i64 k,.int .i64 (nk+1)],.int .i64 0]) (by simp[results,Tryz.results101,go_sem,m1,m2,m3]) rfl ⟨g,rfl,?_,by omega,?_⟩
 ·have f8:Below w.heap.size w U:=(zal _ _ _ _).trans (d7.out.mono (by omega));exact(((f8.setCell (by simp) _).setCell (by simp;omega) _).setCell (by simp;omega) _).drew
 ·have c6:=(((HF.out.set (k*8) (.bool true)).set (k*8+1) (.int .i64 (nk+1))).set (k*8+2) (.int .i64 t)).alloc (Obj.cells #[Value.slice (some ⟨g,0,none⟩) n n] 24);rw[<- a9.out] at c6;have g1:=(((c6.setOther (a:=⟨w.heap.size+1,0,none⟩) (by simp;omega) (.slice (some ⟨g,0,none⟩) n n)).setOther (a:=⟨w.heap.size+1+1,0,none⟩) (by simp;omega) (.int .i64 k)).setOther (a:=⟨w.heap.size+1+1,1,none⟩) (by simp;omega) (.int .i64 (nk+1))).drew;refine TU.out w2 _ _ g kb kc d9.out _ g1 (fun F0 a6 a7 Z i hi=>⟨kb i,kc i,?_,Z i hi⟩)
  have D:∀ j,j<n*8->F j=F0 j:=fun j hj=>by
   have h1:=HF.out.cell hj;rw[a6.cell hj] at h1;exact(Option.some.inj h1).symm
  have g5:=Z i hi;obtain⟨e0,e1,e2,e3,e4,e5,e6,e7,e8,b4,G,hG,e9⟩:=a7 i hi;have b6:=(((hG.setOther (a:=⟨g,k*8,none⟩) (by simp;omega) (.bool true)).setOther (a:=⟨g,k*8+1,none⟩) (by simp;omega) (.int .i64 (nk+1))).setOther (a:=⟨g,k*8+2,none⟩) (by simp;omega) (.int .i64 t)).alloc (Obj.cells #[Value.slice (some ⟨g,0,none⟩) n n] 24);rw[<- a9.out] at b6;have b7:=(((b6.setOther (a:=⟨w.heap.size+1,0,none⟩) (by simp;omega) (.slice (some ⟨g,0,none⟩) n n)).setOther (a:=⟨w.heap.size+1+1,0,none⟩) (by simp;omega) (.int .i64 k)).setOther (a:=⟨w.heap.size+1+1,1,none⟩) (by simp;omega) (.int .i64 (nk+1))).drew;rw[f0.out i];by_cases e:i=k
  ·subst e;rw[yd rfl];unfold zbq;refine⟨?_,?_,?_,?_,?_,?_,?_,?_,e8,b4,G,b7,e9⟩
   all_goals dsimp only
   ·rw[ya (by omega),ya (by omega),yd rfl]
   ·rw[ya (by omega),yd rfl,d8.out]
   ·rw[yd rfl]
   ·rw[ya (by omega),ya (by omega),ya (by omega),D _ (by omega),e3]
   ·rw[ya (by omega),ya (by omega),ya (by omega),D _ (by omega),e4]
   ·rw[ya (by omega),ya (by omega),ya (by omega),D _ (by omega),e5]
   ·rw[ya (by omega),ya (by omega),ya (by omega),D _ (by omega),e6]
   ·rw[ya (by omega),ya (by omega),ya (by omega),D _ (by omega),e7]
  ·rw[ya e];refine⟨?_,?_,?_,?_,?_,?_,?_,?_,e8,b4,G,b7,e9⟩
   all_goals
    dsimp only;rw[ya (by omega),ya (by omega),ya (by omega),D _ (by omega)];assumption
def zbI(x:Nd)(k:Nat)(cl:Bool):Nd:={ zbq x 0 with h:=(k:Int),c:=cl }
theorem WF.no_under{S:List Nd}(h:WF S){f:Nat}(J:f<S.length)(A:(nd S f).u=false){i a:Nat}(w:i<S.length)(I:Up S a i f):a=0:=by
 obtain⟨t0,V,Z,U,h0,c0⟩:=h.unused J A
 cases a with
 | zero=>rfl
 | succ a =>
  exfalso
  have key:∀ (a i:Nat),i<S.length->Up S (a+1) i f->False:=by
   intro a
   induction a with
   | zero =>
    rintro i w ⟨z,D,hr,e⟩;have F:z=f:=e;subst F;unfold zah at hr;by_cases e1:(nd S i).h = -1
    ·rw[yd e1] at hr;have M:(nd S i).p≠-1:=by omega
     obtain⟨T,e2,_,_,_,e3⟩:=h.parent_place w M;have:T=z:=by omega
     rw[this,A] at e3;cases e3
    ·rw[ya e1] at hr;have:=(h.hosts i w e1).1;rw[hr,yg,A] at this;cases this
   | succ a O =>
    rintro i w ⟨z,D,hr,e⟩;exact O z D e
  exact key a i w I
theorem WF.attach{S:List Nd}(h:WF S){f k:Nat}(cl:Bool)(I:f<S.length)(a4:zbO (nd S f)=true)(hk:k<S.length)(F:(nd S k).u=true)(hH:zdq S k=false):WF (S.set f (zbI (nd S f) k cl)):=by
 obtain⟨J,hn⟩:=zeB a4;obtain⟨t0,m0,p0,k0,h0,c0⟩:=h.unused I J;obtain⟨n0,n1,_⟩:=h.uses I;have T:k≠f:=fun e=>by rw[e,J] at F;cases F
 have M:=zch.1 hH;have hl:(S.set f (zbI (nd S f) k cl)).length=S.length:=by simp
 have hnd:∀ i,nd (S.set f (zbI (nd S f) k cl)) i=if i=f then zbI (nd S f) k cl else nd S i:=fun i=>zay S f i _ I
 refine⟨by rw[hl];exact h.small,fun i w=>?_,zel (fun i w=>?_) (fun i w x hx=>?_) (fun j hj A=>?_),fun i w=>?_,fun i w=>?_⟩
 ·rw[hl] at w |-;rw[hnd];split
  ·refine zen ?_ (zdb ?_ ?_ (fun y hy=>absurd hy (by unfold zbI zbq;dsimp only;rw[k0];simp))) ?_
   ·unfold zbV zbI zbq;simp only[Bool.and_eq_true,decide_eq_true_eq];exact⟨⟨by omega,by omega⟩,⟨by omega,by omega⟩,by rw[m0];omega,by rw[m0];omega⟩
   ·unfold zbI zbq zdT;exact decide_eq_true ⟨by dsimp only;omega,by dsimp only;omega⟩
   ·unfold zbI zbq zdT;exact decide_eq_true ⟨by dsimp only;omega,by dsimp only;omega⟩
   ·unfold zcy zbI zbq;simp only[if_true];rw[ya (by omega),ya (by omega)];exact decide_eq_true p0
  ·exact h.node i w
 ·rw[hl] at w;rw[hnd];split
  ·unfold zbI zbq;dsimp only;rw[k0];exact List.nodup_nil
  ·exact h.kids_nodup w
 ·rw[hl] at w |-;rw[hnd] at hx
  split at hx
  ·unfold zbI zbq at hx;dsimp only at hx;rw[k0] at hx;cases hx
  ·obtain⟨y,rfl,y1,y2,y3,_⟩:=h.kid w hx;have V:y≠f:=fun e=>by rw[e,J] at y2;cases y2
   exact⟨y,rfl,y1,by rw[hnd,ya V];exact y2,by rw[hnd,ya V];exact y3⟩
 ·rw[hl] at hj |-;rw[hnd] at A
  split at A
  ·exact absurd (show (zbI (nd S f) k cl).p = -1 from p0) A
  ·obtain⟨i,i1,i2,_,i3,_⟩:=h.parent_place hj A;refine⟨i,i2,?_⟩;rw[hnd];split
   ·rename_i e;subst e;rw[k0] at i3;cases i3
   ·exact i3
 ·rw[hl] at w;intro hh;by_cases e:i=f
  ·subst e;have D:(nd (S.set i (zbI (nd S i) k cl)) i).h=(k:Int):=by rw[hnd,yd rfl];rfl
   rw[D,yg];refine⟨by rw[hnd,ya T];exact F,fun i' O=>?_⟩;rw[hnd,ya (by omega)];exact M i' (by omega)
  ·have D:nd (S.set f (zbI (nd S f) k cl)) i=nd S i:=by rw[hnd,ya e]
   rw[D] at hh |-;obtain⟨g1,g2⟩:=h.hosts i w hh;refine⟨?_,fun i' O=>?_⟩
   ·rw[hnd];split
    ·rfl
    ·exact g1
   ·rw[hnd];split
    ·exact fun e2=>M i w e2.symm
    ·exact g2 i' O
 ·rw[hl] at w;have hr:∀ y,y<S.length->y≠f->zah (nd (S.set f (zbI (nd S f) k cl)) y)=zah (nd S y):=fun y _ e=>by rw[hnd,ya e]
  have a5:zah (nd (S.set f (zbI (nd S f) k cl)) f)=k:=by
   rw[hnd,yd rfl];unfold zah zbI zbq;dsimp only;rw[ya (by omega)]
  have Z:∀ (j x:Nat),x<S.length->x≠f->¬ Up (S.set f (zbI (nd S f) k cl)) j x f:=fun j x hx U a7=>by
   rcases zfw hl hr hx a7 with g |⟨a,m,_,g,_⟩
   ·have:=h.no_under I J hx g;subst this;exact U g
   ·have:=h.no_under I J hx g;subst this;exact U g
  cases hb:zbm (S.set f (zbI (nd S f) k cl)) i i with
  | false=>rfl
  | true =>
   obtain⟨j,j1,j2,j3⟩:=zdO (by rw[hl];exact w) hb;rw[hl] at j2;by_cases e:i=f
   ·subst e;obtain⟨j', rfl⟩:∃ j', j=j' + 1:=⟨j-1,by omega⟩;obtain⟨z,hz,a6,a8⟩:=j3;rw[a5] at a6;have:z=k:=by omega
    subst this;exact absurd a8 (Z j' z hk T)
   ·rcases zfw hl hr w j3 with g |⟨a,m,_,g,_⟩
    ·exact absurd g (h.no_ring w j1 j2)
    ·have:=h.no_under I J w g;subst this;exact absurd g e
theorem zhv{q:List Tst}(h:zcA q=0):1<=q.length/\q.length<=6:=by
 unfold zcA at h
 split at h
 ·rename_i w;have:=of_decide_eq_true w;omega
 ·omega
theorem zkY{w A:World}{a:Option Addr}{n c:Nat}{p u:Int}(D:Below (w.heap.size+1+1) ((w.alloc (.cells #[.slice a n c] 24)).alloc (.cells #[.int .i64 p,.int .i64 u] 39)) A) :
  A.cell? ⟨w.heap.size,0,none⟩=some (.slice a n c)/\A.cell? ⟨w.heap.size+1,0,none⟩=some (.int .i64 p)/\A.cell? ⟨w.heap.size+1,1,none⟩=some (.int .i64 u)/\Below w.heap.size w A/\w.heap.size<A.heap.size/\w.heap.size+1<A.heap.size:=by
 refine⟨?_,?_,?_,(zav _ _ _).trans (D.mono (by omega)),by have:=D.size;simp at this;omega,by have:=D.size;simp at this;omega⟩
 all_goals exact(D.cell (by first|(simp;done)|(simp;omega))).trans (by go_simp)
def zcQ(S:List Nd)(k:Nat)(q:List Tst):List Int:=(zan S k).tail.filter fun p=>zbE S p q
theorem zoK(a:Option Addr)(c:Nat)(S:List Nd)(p u E:Int)(Z:Value)(w:World)(U:S.length<=9223372036854775807)(I:Big S)(M:zae w a S)(J:zar S [(p,u)]=E)(D:E≠0) :
  Calls Tryz.prog 109 #[.agg #[.slice a S.length c],.agg #[.int .i64 p,.int .i64 u],Z] w fun e w' => e=.returned (.tuple #[.slice none 0 0,.int .i64 E])/\Below w.heap.size w w' := by
 have O:Hid (∀ W,zae W a S->Calls _ _ _ _ _):=fun W V=>zoB a c S p u E W U I V J D;have T:Hid (zae w a S):=M;have hz:(E == 0)=false:=by simp[D]
 clear M I J;generalize S.length=n at *
 go_enter Tryz.func109,Tryz.ntmps109
 go_wp2_with fail
 refine(O.out _ (T.out.below (zav _ _ _))).mono ?_;rintro e w1 ⟨rfl,A⟩;simp only[yk] at A;have F:Hid (Below w.heap.size w w1):=(zav _ _ _).trans (A.mono (by omega));clear A
 go_wp2
 go_ret2
 exact⟨rfl,F.out⟩
theorem zoJ(a:Option Addr)(c:Nat)(S:List Nd)(k:Nat)(u E:Int)(I:Option Addr)(qc:Nat)(q:List Tst)(w:World)(wf:WF S)(T:k<S.length)(hT:zar S [((k:Int),u)]=0)(hS:zae w a S)(U:q.length<=9223372036854775807)(hQ:zaP w I q)(Z:zcA q=E)(M:E≠0) :
  Calls Tryz.prog 109 #[.agg #[.slice a S.length c],.agg #[.int .i64 (k:Int),.int .i64 u],.slice I q.length qc] w fun e w' => e=.returned (.tuple #[.slice none 0 0,.int .i64 E])/\Below w.heap.size w w' := by
 have hN:=wf.small;have V:=wf.big;have D1:Hid (∀ W,zae W a S->Calls _ _ _ _ _):=fun W O=>zie a c S k S.length u W (by omega) V O hT T (wf.deep_all T) (by have:=zdc wf T;omega);have d2:=fun W (O:zaP W I q)=>zhu I qc q W U O;rw[Z] at d2;have D2:Hid _:=d2;have HS:Hid (zae w a S):=hS;have HQ:Hid (zaP w I q):=hQ;have hz:(E == 0)=false:=by simp[M]
 clear hS hQ d2 Z V wf hT;generalize (zaw S S.length k).length=OL at *;generalize S.length=n at *;generalize q.length=L at *
 go_enter Tryz.func109,Tryz.ntmps109
 go_wp2_with fail
 refine(D1.out _ (HS.out.below (zav _ _ _))).mono ?_;rintro e w1 ⟨sa,cap,rfl,D,_⟩;simp only[yk] at D;have A:Hid (Below w.heap.size w w1):=(zav _ _ _).trans (D.mono (by omega));clear D
 go_wp2_with fail
 refine(D2.out _ (HQ.out.below A.out)).mono ?_;rintro e w2 ⟨rfl,F⟩;have J:Hid (Below w.heap.size w w2):=A.out.trans (F.mono A.out.size);clear F
 go_wp2
 go_ret2
 exact⟨rfl,J.out⟩
theorem zgn(f:Int->Bool)(l:List Int)(k:Nat)(h:k<l.length):(l.take (k+1)).filter f=(l.take k).filter f++(if f (l.getD k 0) then [l.getD k 0] else []):=by
 rw[List.take_add_one,List.filter_append,List.getElem?_eq_getElem h,zaf l 0 h];simp only[Option.toList,List.filter_cons,List.filter_nil]
theorem zqr(a:Option Addr)(c:Nat)(S:List Nd)(k:Nat)(u:Int)(qa:Option Addr)(qc:Nat)(q:List Tst)(w:World)(wf:WF S)(hk:k<S.length)(h9:(nd S k).u=true)(hT:zar S [((k:Int),u)]=0)(hS:zae w a S)(hQ:zaP w qa q)(hq:zcA q=0) :
  Calls Tryz.prog 109 #[.agg #[.slice a S.length c],.agg #[.int .i64 (k:Int),.int .i64 u],.slice qa q.length qc] w fun e w' => ∃ fa fc,e=.returned (.tuple #[.slice fa (zcQ S k q).length fc,.int .i64 0])/\Below w.heap.size w w' /\ zaj w' fa (zcQ S k q)/\(zcQ S k q).length<=24/\∀ x:Addr,fa=some x->w.heap.size<=x.block:=by
 have hN:=wf.small;have hB:=wf.big;have hlen:=zhv hq;have b9:=zhr wf hk h9;have D1:Hid (∀ W,zae W a S->Calls _ _ _ _ _):=fun W hW=>zie a c S k S.length u W (by omega) hB hW hT hk (wf.deep_all hk) (by have:=zdc wf hk;omega);have d2:=fun W (hW:zaP W qa q)=>zhu qa qc q W (by omega) hW;rw[hq] at d2;have D2:Hid _:=d2;have D3:Hid (∀ (p:Nat) W,p<S.length->zae W a S->zaP W qa q->Calls _ _ _ _ _):=fun p W hp h1 h2=>zqe a c S p qa qc q W wf hp h1 hlen.2 h2;have HS:Hid (zae w a S):=hS;have HQ:Hid (zaP w qa q):=hQ
 have e8:Hid (∀ i,i<(zan S k).tail.length->∃ p:Nat,(zan S k).tail.getD i 0=p/\p<S.length):=fun i Z=>by
  rw[List.length_tail] at Z;obtain⟨p,e,hp,_⟩:=b9.each (i+1) (by omega);refine⟨p,?_,hp⟩;rw[<- e,zaf _ _ (by rw[List.length_tail];omega),zaf _ _ (by omega),List.getElem_tail]
 have c7:=b9.pos;have g2:=b9.small
 have TL:Hid (∀ W sa,zaj W sa (zan S k)->∃ b o,sa=some ⟨b,o,none⟩/\zaj W (some ⟨b,o+1,none⟩) (zan S k).tail):=fun W sa h=>by
  obtain⟨b,o,e,_⟩:=h 0 c7;refine⟨b,o,e,fun i Z=>⟨b,o+1,rfl,?_⟩⟩;rw[List.length_tail] at Z;obtain⟨b', o', e', hc⟩:=h (i+1) (by omega);rw[e] at e'
  cases e'
  rw[show o+1+i=o+(i+1) by omega,hc,zaf _ _ (by omega),zaf _ _ (by rw[List.length_tail];omega),List.getElem_tail]
 have FT:Hid (∀ i,i<(zan S k).tail.length->((zan S k).tail.take (i+1)).filter (fun p=>zbE S p q)=((zan S k).tail.take i).filter (fun p=>zbE S p q)++(if zbE S ((zan S k).tail.getD i 0) q then [(zan S k).tail.getD i 0] else [])):=fun i Z=>zgn _ _ i Z;have FE:Hid (zcQ S k q=((zan S k).tail.take (zan S k).tail.length).filter (fun p=>zbE S p q)):=by show _=_;rw[List.take_length];rfl
 have FL:Hid (∀ i,(((zan S k).tail.take i).filter (fun p=>zbE S p q)).length<=24):=fun i=>by
  refine yx (List.length_filter_le _ _) ?_;rw[List.length_take,List.length_tail];omega
 have d7:(zaw S S.length k).length=(zan S k).tail.length+1:=by rw[List.length_tail];show (zan S k).length=_;omega
 clear hS hQ d2 hq hB wf hT b9 c7 g2;rw[show zaw S S.length k=zan S k from rfl] at D1 d7;rw[d7] at D1;clear d7;generalize zcQ S k q=R at *;generalize hn:S.length=n at *;have HN:Hid _:=hn;clear hn;generalize hl:q.length=L at *;have HL:Hid _:=hl;clear hl;generalize g0:(zan S k).tail.length=U at *;have f0:Hid _:=g0;clear g0;obtain⟨i0,h8,i3,i4,i5⟩:=info_parts info3
 go_enter Tryz.func109,Tryz.ntmps109
 go_wp2_with fail
 refine(D1.out _ (HS.out.below (zav _ _ _))).mono ?_;rintro e w1 ⟨sa,cap,rfl,b8,f6,d9,e0⟩;simp only[yk] at b8;obtain⟨l0,l1,l2,l3,r0,r1⟩:=zkY b8;have j1:Hid _:=b8;have d6:Hid _:=l3;obtain⟨ob,oo,i2,c6⟩:=TL.out _ _ f6;subst i2;have e9:Hid (zaj w1 (some ⟨ob,oo+1,none⟩) (zan S k).tail):=c6;clear b8 l3 f6 c6
 go_wp2_with fail
 refine(D2.out _ (HQ.out.below d6.out)).mono ?_;rintro e w2 ⟨rfl,a9⟩;have hs2:=a9.size;have M:Hid (Below w.heap.size w w2):=d6.out.trans (a9.mono d6.out.size);have g4:Hid (zaj w2 (some ⟨ob,oo+1,none⟩) (zan S k).tail):=e9.out.below a9;have b4:=(a9.cell (ye _ _ l0)).trans l0;have b5:=ye _ _ b4;have c9:Hid (w.heap.size<w2.heap.size):=b5;clear a9 l0 l1 l2 r0 r1 e9;by_cases g7:cap=1
 ·subst g7;have f7:U=0:=by omega
  have f8:(zan S k).tail=[]:=List.length_eq_zero_iff.1 (by rw[f0.out];exact f7);have g5:Hid _:=f8;clear f8 d9 e0;have HT:Hid (zaj w2 (some ⟨ob,oo,none⟩) (zan S k).tail):=(show Hid _ by rw[g5.out];exact(fun i Z=>absurd Z (yr _)))
  go_wp2
  go_loopg [11,31] U (fun g1 s11 s31 wr=>∃ (j:Nat),j<=U/\U-j<=g1/\s31=.int .i64 j/\Hid (Below w2.heap.size w2 wr)/\wr.cell? ⟨w.heap.size,0,none⟩=some (.slice a n c)/\w.heap.size<wr.heap.size/\Hid (wr.ownsRow w2.heap.size 3 1 s11 (((zan S k).tail.take j).filter (fun p=>zbE S p q)).length ((((zan S k).tail.take j).filter (fun p=>zbE S p q)).map (Value.int .i64))))
  case atStart=>exact⟨0,by omega,by omega,rfl,yj _ _,b4,b5,World.ownsRow_nil _ _ _ _⟩
  case round =>
   obtain⟨j,hj,h7,rfl,HB,hc,h4,a5⟩:=hrel;clear b4 b5;obtain⟨pa,pc,V,I,O⟩:=zat a5.out;have HI:Hid _:=I
   have HK:Hid (∀ x:Addr,pa=some x->w.heap.size<=x.block):=fun x hx=>by
    have h1:=(O x.block (by rw[V,hx];rfl)).1;have h2:w.heap.size<w2.heap.size:=c9.out;omega
   clear I O;by_cases e7:j<U
   ·exact absurd e7 (by omega)
   ·have e6:j=U:=by omega
    subst e6
    have FR:Hid (R=((zan S k).tail.take j).filter (fun p=>zbE S p q)):=by
     show _=_;rw[FE.out]
    have T:=FL.out j;rw[<- FR.out] at V HI T;have c8:Hid (Below w.heap.size w wr):=M.out.trans (HB.out.mono M.out.size);rw[V];clear V;generalize a8:R.length=RL at T |-;have a6:Hid _:=a8;clear a8
    go_wp2
    go_ret2
    exact⟨pa,pc,by rw[a6.out];rfl,c8.out,HI.out,by rw[a6.out];exact T,HK.out⟩
 ·have g9:(1:Int)<=(cap:Int):=by omega
  have h3:¬ ((cap:Int)=1):=by omega
  have HT:Hid (zaj w2 (some ⟨ob,oo+1,none⟩) (zan S k).tail):=g4
  go_wp2
  go_loopg [11,31] U (fun g1 s11 s31 wr=>∃ (j:Nat),j<=U/\U-j<=g1/\s31=.int .i64 j/\Hid (Below w2.heap.size w2 wr)/\wr.cell? ⟨w.heap.size,0,none⟩=some (.slice a n c)/\w.heap.size<wr.heap.size/\Hid (wr.ownsRow w2.heap.size 3 1 s11 (((zan S k).tail.take j).filter (fun p=>zbE S p q)).length ((((zan S k).tail.take j).filter (fun p=>zbE S p q)).map (Value.int .i64))))
  case atStart=>exact⟨0,by omega,by omega,rfl,yj _ _,b4,b5,World.ownsRow_nil _ _ _ _⟩
  case round =>
   obtain⟨j,hj,h7,rfl,HB,hc,h4,a5⟩:=hrel;clear b4 b5;obtain⟨pa,pc,V,I,O⟩:=zat a5.out;have HI:Hid _:=I
   have HK:Hid (∀ x:Addr,pa=some x->w.heap.size<=x.block):=fun x hx=>by
    have h1:=(O x.block (by rw[V,hx];rfl)).1;have h2:w.heap.size<w2.heap.size:=c9.out;omega
   clear I O;by_cases e7:j<U
   ·have i8:(j:Int)<(U:Int):=by omega
    obtain⟨tb,j3,ee,tc⟩:=(HT.out.below HB.out) j (by rw[f0.out];exact e7);cases ee;obtain⟨p,hp,i1⟩:=e8.out j (by omega);have j2:=ye _ _ tc;have FJ:=FT.out j (by omega);rw[hp] at tc FJ;have D:Hid _:=D3.out p wr i1 (HS.out.below (M.out.trans (HB.out.mono M.out.size))) (HQ.out.below (M.out.trans (HB.out.mono M.out.size)));have b7:Hid _:=FJ;have j0:=FL.out j;clear FJ hp;generalize hA:((zan S k).tail.take j).filter (fun p=>zbE S p q)=A at *;have HA:Hid _:=hA;clear hA
    cases hso:zbE S p q with
    | false =>
     rw[hso] at D b7
     have F2:Hid (((zan S k).tail.take (j+1)).filter (fun p=>zbE S p q)=A):=by
      show _=_;rw[b7.out];simp
     clear hso V
     go_wp2_with fail
     refine yf D.out ?_;rintro e w3 ⟨rfl,F⟩;have d8:=(F.cell (ye _ _ hc)).trans hc;have a4:Hid (Below w2.heap.size w2 w3):=HB.out.trans (F.mono HB.out.size)
     have a7:Hid (w3.ownsRow w2.heap.size 3 1 u11 A.length (A.map (Value.int .i64))):=a5.out.kept (row:=none) ⟨F.os,F.tape,F.output,F.size,fun k hk _=>F.block k hk⟩ (by
      cases V:u11.ownBlock with
      | none=>exact Or.inl rfl
      | some k=>exact Or.inr (fun e=>by cases e))
     have i6:=F.size;clear F
     go_wp2
     go_roundg (U-(j+1))
     case measure=>omega
     case rel=>exact⟨j+1,by omega,by omega,by go_num,a4,d8,by omega,by rw[F2.out];exact a7⟩
    | true =>
     rw[hso] at D b7
     have F2:Hid (((zan S k).tail.take (j+1)).filter (fun p=>zbE S p q)=A++[(p:Int)]):=by
      show _=_;rw[b7.out];simp
     clear hso V
     go_wp2_with fail
     refine yf D.out ?_;rintro e w3 ⟨rfl,F⟩;have d8:=(F.cell (ye _ _ hc)).trans hc;have a4:Hid (Below w2.heap.size w2 w3):=HB.out.trans (F.mono HB.out.size)
     have a7:Hid (w3.ownsRow w2.heap.size 3 1 u11 A.length (A.map (Value.int .i64))):=a5.out.kept (row:=none) ⟨F.os,F.tape,F.output,F.size,fun k hk _=>F.block k hk⟩ (by
      cases V:u11.ownBlock with
      | none=>exact Or.inl rfl
      | some k=>exact Or.inr (fun e=>by cases e))
     have i6:=F.size;have i9:=HB.out.size;have i7:w.heap.size<w3.heap.size:=by omega
     clear F
     go_wp2_with (at_builtin;refine wpList_append_own _ rfl _ _ 29 rfl w2.heap.size 3 i0 (.int .i64 0) 1 8 Tryz.underlying29 h8 i3 i4 i5 rfl (by decide) _ _ _ rfl (a7.out.alloc _) ⟨w3.heap.size,0,none⟩ 1 1 [.int .i64 (p:Int)] rfl rfl ?c1 ?c2 ?c3 ?c4 ?c5 ?_)
     case c1 =>
      intro i u Z
      match i,Z with
      | 0,Z=>simp at Z;subst Z;simp[Addr.add]
     case c2=>intro u hu;simp at hu;subst hu;rfl
     case c3=>unfold maxLen;omega
     case c4=>omega
     case c5=>simp;omega
     intro v' w4 b6 J _;have g3:Hid (Below w2.heap.size w2 w4):=(a4.out.alloc a4.out.size _).grown J (by simp;have:=a4.out.size;omega) (fun k hk=>(a7.out.lt k hk).1)
     have g8:w4.cell? ⟨w.heap.size,0,none⟩=some (.slice a n c):=by
      have h1:=zcr d8 (.cells #[.int .i64 (p:Int)] 3);exact(yw (J.block _ (by simp;omega) (fun e=>by have h5:w2.heap.size<=w.heap.size:=(a7.out.lt _ e.symm).1;have h6:w.heap.size<w2.heap.size:=c9.out;omega))).trans h1
     have f9:w.heap.size<w4.heap.size:=by have:=J.size;simp at this;omega
     have g6:Hid (w4.ownsRow w2.heap.size 3 1 v' (A++[(p:Int)]).length ((A++[(p:Int)]).map (Value.int .i64))):=by
      show _;rw[List.length_append,List.map_append];exact b6
     clear b6 J
     go_wp2
     go_roundg (U-(j+1))
     case measure=>omega
     case rel=>exact⟨j+1,by omega,by omega,by go_num,g3,g8,f9,by rw[F2.out];exact g6⟩
   ·have e6:j=U:=by omega
    subst e6
    have FR:Hid (R=((zan S k).tail.take j).filter (fun p=>zbE S p q)):=by
     show _=_;rw[FE.out]
    have T:=FL.out j;rw[<- FR.out] at V HI T;have c8:Hid (Below w.heap.size w wr):=M.out.trans (HB.out.mono M.out.size);rw[V];clear V;generalize a8:R.length=RL at T |-;have a6:Hid _:=a8;clear a8
    go_wp2
    go_ret2
    exact⟨pa,pc,by rw[a6.out];rfl,c8.out,HI.out,by rw[a6.out];exact T,HK.out⟩
end Go.Proofs.YtgjfmepbphfjoaaGreat
