/-
  x
-/
import Derived.Test.YtcbcpomacdngmaaGreatQ22
namespace Go.Proofs.YtcbcpomacdngmaaGreat
set_option maxRecDepth 100000
set_option maxHeartbeats 4000000
set_option linter.unusedVariables false
open Go.RowKit Go.ChangeShapes Go.WideShapes
def SlB(W:World)(b:Nat):Prop:=∀ j v,W.cell? ⟨b,j,none⟩=some v->∃ a n c,v=.slice a n c
def zqs(b:Nat)(W D:World):Prop:=W.heap.size<=D.heap.size/\∀ k,k<W.heap.size->k≠b->D.heap[k]?=W.heap[k]?
theorem zqs.cell{b k o:Nat}{W D:World}{v:Value}(h:zqs b W D)(E:k≠b)(hc:W.cell? ⟨k,o,none⟩=some v):D.cell? ⟨k,o,none⟩=some v:=by
 have:=h.2 k (yd _ _ hc) E;unfold World.cell? at hc |-;dsimp only at hc |-;rw[this];exact hc
theorem SlB.ne{W:World}{b k o:Nat}{v:Value}(h:SlB W b)(hc:W.cell? ⟨k,o,none⟩=some v)(E:∀ a n c,v≠.slice a n c):k≠b:=fun e=>by
 subst e;obtain⟨a,n,c,D⟩:=h _ _ hc;exact E a n c D
theorem zaj.offB{W D:World}{b:Nat}{a:Option Addr}{l:List Int}(h:zaj W a l)(hs:SlB W b)(E:zqs b W D):zaj D a l:=fun i hi=>by
 obtain⟨k,o,e,hc⟩:=h i hi;exact⟨k,o,e,E.cell (hs.ne hc (fun _ _ _ h=>by cases h)) hc⟩
theorem zas.offB{W D:World}{b:Nat}{a:Option Addr}{l:List (Int × Int)}(h:zas W a l)(hs:SlB W b)(F:zqs b W D):zas D a l:=fun i hi=>by
 obtain⟨k,o,e,h1,I⟩:=h i hi;have E:=hs.ne h1 (fun _ _ _ h=>by cases h);exact⟨k,o,e,F.cell E h1,F.cell E I⟩
theorem zah.offB{W I:World}{b:Nat}{a:Option Addr}{S:List Nd}(h:zah W a S)(hs:SlB W b)(D:zqs b W I):zah I a S:=fun i hi=>by
 obtain⟨k,o,e,c0,c1,c2,c3,c4,⟨ka,kc,c5,F⟩,J,M⟩:=h i hi;have E:=hs.ne c0 (fun _ _ _ h=>by cases h);exact⟨k,o,e,D.cell E c0,D.cell E c1,D.cell E c2,D.cell E c3,D.cell E c4,⟨ka,kc,D.cell E c5,F.offB hs D⟩,D.cell E J,D.cell E M⟩
theorem zaG.offB{W F:World}{b:Nat}{a:Option Addr}{G:List Cl}(h:zaG W a G)(hs:SlB W b)(E:zqs b W F):zaG F a G:=fun i hi=>by
 obtain⟨k,o,e,c0,ka,kc,c1,D⟩:=h i hi;have I:=hs.ne c0 (fun _ _ _ h=>by cases h);exact⟨k,o,e,E.cell I c0,ka,kc,E.cell I c1,D.offB hs E⟩
theorem zcp.offB{W E:World}{b:Nat}{A:RA}{R:Rl}(h:zcp W A R)(hs:SlB W b)(D:zqs b W E):zcp E A R:=⟨h.1.offB hs D,h.2.1.offB hs D,h.2.2.1.offB hs D,h.2.2.2.offB hs D⟩
theorem zqs.set{W D:World}{b o:Nat}{v:Value}(h:zqs b W D):zqs b W (D.setCell ⟨b,o,none⟩ v):=⟨by simpa using h.1,fun k E hn=>(ys _ _ _ _ hn).trans (h.2 k E hn)⟩
theorem zqs.refl(b:Nat)(W:World):zqs b W W:=⟨yj _,fun _ _ _=>rfl⟩
theorem zaD{W D:World}{b:Nat}{o:Obj}(h:W.heap[b]?=some o)(E:Below W.heap.size W D):D.heap[b]?=some o:=(E.block b (zaw h)).trans h
theorem zAl(U:zpo){R:Rl}{p E:Int}(h1:zdj p=R)(T:zAN p=E)(W:World) :
  Calls Tryz.prog 28 #[.int .i64 p] W fun e w' => ∃ (D F I J:Option Addr) (d0 d1 d2 d3:Nat),e=.returned (.tuple #[.agg #[.slice D R.s.length d0,.slice F R.hs.length d1,.slice I R.i.length d2,.slice J R.t.length d3],.int .i64 E])/\Below W.heap.size W w' /\ zcp w' ⟨D,F,I,J,d0,d1,d2,d3⟩ R:=by
 refine(U p W).mono ?_;rintro e w' ⟨⟨D,F,I,J,d0,d1,d2,d3⟩,M,Z,O⟩;rw[h1] at M O;rw[T] at M;exact⟨D,F,I,J,d0,d1,d2,d3,M,Z,O⟩
theorem zAr{W:World}{b t:Nat}{E v1 v2 F:Value}{f}(h:W.heap[b]?=some (.cells #[E,v1,v2,F] t f))(h0:∃ a n c,E=.slice a n c)(h1:∃ a n c,v1=.slice a n c)(I:∃ a n c,v2=.slice a n c)(J:∃ a n c,F=.slice a n c):SlB W b:=fun j v D=>by
 unfold World.cell? at D;dsimp only at D;rw[h] at D
 match j with
 | 0=>simp at D;rw[<- D];exact h0
 | 1=>simp at D;rw[<- D];exact h1
 | 2=>simp at D;rw[<- D];exact I
 | 3=>simp at D;rw[<- D];exact J
 | j+4=>simp at D
theorem zaR{W:World}{b t i:Nat}{X:Array Value}{v:Value}{f:Nat × Nat}(h:W.heap[b]?=some (.cells X t f)):(W.setCell ⟨b,i,none⟩ v).heap[b]?=some (.cells (X.setIfInBounds i v) t f):=by
 show (W.heap.modify b _)[b]?=_;rw[Array.getElem?_modify,yb rfl,h];rfl
theorem zcL{W:World}{b t:Nat}{I v1 v2 J u0 u1 u2 u3:Value}(h:W.heap[b]?=some (.cells #[I,v1,v2,J] t (0,0))):((((W.setCell ⟨b,0,none⟩ u0).setCell ⟨b,1,none⟩ u1).setCell ⟨b,2,none⟩ u2).setCell ⟨b,3,none⟩ u3).heap[b]?=some (.cells #[u0,u1,u2,u3] t (0,0)):=by
 have D:=zaR (i:=0) (v:=u0) h;have E:=zaR (i:=1) (v:=u1) D;have F:=zaR (i:=2) (v:=u2) E;exact zaR (i:=3) (v:=u3) F
theorem zcc(W:World)(t:Nat)(D v1 v2 E:Value):(W.alloc (.cells #[D,v1,v2,E] t)).heap[W.heap.size]?=some (.cells #[D,v1,v2,E] t (0,0)):=heap_alloc_new W _
theorem zai{W:World}{b t:Nat}{D v1 v2 E:Value}(h:W.heap[b]?=some (.cells #[D,v1,v2,E] t (0,0))):W.cell? ⟨b,0,none⟩=some D/\W.cell? ⟨b,1,none⟩=some v1/\W.cell? ⟨b,2,none⟩=some v2/\W.cell? ⟨b,3,none⟩=some E/\(∀ o,W.frozen? ⟨b,o,none⟩=false)/\b<W.heap.size :=
 ⟨by simp[World.cell?,h],by simp[World.cell?,h],by simp[World.cell?,h],by simp[World.cell?,h],fun o=>by simp[World.frozen?,h],zaw h⟩
theorem zew{w D:World}{a:Option Addr}{n c:Nat}{p u:Int}(E:Below (w.heap.size+1+1+1+1) ((((w.alloc (.cells #[.slice a n c] 43)).alloc (.cells #[.int .i64 p,.int .i64 u] 61)).alloc (.cells #[.slice none 0 0] 43)).alloc (.cells #[.int .i64 0,.int .i64 0] 61)) D) :
  D.cell? ⟨w.heap.size,0,none⟩=some (.slice a n c)/\D.cell? ⟨w.heap.size+1,0,none⟩=some (.int .i64 p)/\D.cell? ⟨w.heap.size+1,1,none⟩=some (.int .i64 u)/\D.cell? ⟨w.heap.size+1+1,0,none⟩=some (.slice none 0 0)/\D.cell? ⟨w.heap.size+1+1+1,0,none⟩=some (.int .i64 0)/\D.cell? ⟨w.heap.size+1+1+1,1,none⟩=some (.int .i64 0)/\(∀ o,D.frozen? ⟨w.heap.size+1+1,o,none⟩=false)/\(∀ o,D.frozen? ⟨w.heap.size+1+1+1,o,none⟩=false):=by
 refine⟨?_,?_,?_,?_,?_,?_,fun o=>?_,fun o=>?_⟩
 all_goals first|exact(E.cell (by first|(simp;done)|(simp;omega))).trans (by go_simp)|exact(E.frozen (by first|(simp;done)|(simp;omega))).trans (by go_simp)
theorem zsx(a:Option Addr)(c:Nat)(S:List Nd)(k f:Nat)(u:Int)(cl:Bool)(w:World)(wf:WF S)(hS:zah w a S)(hk:k<S.length)(hE:zaH S k u=0)(hH:zfs S k=false)(hf:f<S.length)(b2:zco (nd S f)=true)(T:∀ i,i<f->zco (nd S i)=false) :
  Calls Tryz.prog 193 #[.agg #[.slice a S.length c],.agg #[.int .i64 (k:Int),.int .i64 u],.bool cl] w fun e w' => ∃ g,e=.returned (.tuple #[.agg #[.slice (some ⟨g,0,none⟩) S.length S.length],.agg #[.int .i64 (f:Int),.int .i64 ((nd S f).n+1)],.int .i64 0])/\Below w.heap.size w w' /\ w.heap.size<=g/\znM w' g (S.set f (zbQ (nd S f) k cl)):=by
 have hN:=wf.small;have D0:Hid (∀ W,zah W a S->Calls _ _ _ _ _):=fun W hW=>find_ok a c S k u W (by omega) wf.big hW hk hE (by have:=wf.kids_small hk;omega);have d1:=fun W hW=>zeb a c S (k:Int) W (by omega) hW (by omega);rw[hH] at d1;have D1:Hid _:=d1;have D2:Hid (∀ W,zah W a S->Calls _ _ _ _ _):=fun W hW=>zpN a c S 0 W hN (fun i hi=>by have:=wf.kids_small hi;omega) hW ((zfE _).2 wf) (by omega) (by omega) f hf b2 (wf.uses hf).1 T;have HS:Hid (zah w a S):=hS
 have RT:Hid (∀ W g,znM W g (S.set f (zbP (nd S f) 0))->znM ((W.setCell ⟨g,f*8+6,none⟩ (.int .i64 (k:Int))).setCell ⟨g,f*8+7,none⟩ (.bool cl)) g (S.set f (zbQ (nd S f) k cl))):=fun W g h=>by
  have h2:=h.root (k:=f) (by simpa using hf) (k:Int) cl;rw[zct S f f _ hf,yb rfl,List.set_set] at h2;exact h2
 have RC:Hid (∀ W g,znM W g (S.set f (zbP (nd S f) 0))->g<W.heap.size/\(∀ o,W.frozen? ⟨g,o,none⟩=false)/\(∃ v6 v7,W.cell? ⟨g,f*8+6,none⟩=some v6/\W.cell? ⟨g,f*8+7,none⟩=some v7)):=fun W g ⟨F,hF,_⟩=>by
  rw[List.length_set] at hF;exact⟨hF.lt,hF.frozen,_,_,hF.cell (by omega),hF.cell (by omega)⟩
 have b8:(f:Int)<(S.length:Int):=by omega
 have b9:decide ((f:Int)<0)=false:=decide_eq_false (by omega);clear hS wf hE hH b2 T d1;obtain⟨x0,b3⟩:∃ x,nd S k=x:=⟨_,rfl⟩;rw[b3] at D0;clear b3;obtain⟨S1,b0⟩:∃ S1,S.set f (zbP (nd S f) 0)=S1:=⟨_,rfl⟩;obtain⟨S2,b1⟩:∃ S2,S.set f (zbQ (nd S f) k cl)=S2:=⟨_,rfl⟩;rw[b0] at D2 RT RC;rw[b1] at RT |-;clear b0 b1;generalize (nd S f).n=nf at *;generalize S.length=n at *
 go_enter Tryz.func193,Tryz.ntmps193
 go_wp2_with fail
 refine ye (D0.out _ (HS.out.below (zaI _ _ _ _ _))) ?_;rintro e w2 ⟨fg,rfl,J,_⟩;simp only[yr] at J;have a7:Hid (Below (w.heap.size+1+1+1+1) ((((w.alloc (.cells #[.slice a n c] 43)).alloc (.cells #[.int .i64 (k:Int),.int .i64 u] 61)).alloc (.cells #[.slice none 0 0] 43)).alloc (.cells #[.int .i64 0,.int .i64 0] 61)) w2):=J;have b6:=J.size;simp only[yr] at b6;obtain⟨l0,l1,l2,l3,l4,l5,l6,l7⟩:=zew J;have BW:Hid (∀ W,Below (w.heap.size+1+1+1+1) ((((w.alloc (.cells #[.slice a n c] 43)).alloc (.cells #[.int .i64 (k:Int),.int .i64 u] 61)).alloc (.cells #[.slice none 0 0] 43)).alloc (.cells #[.int .i64 0,.int .i64 0] 61)) W->Below w.heap.size w W):=fun W h=>(zaI _ _ _ _ _).trans (h.mono (by omega));clear J;have q0:w.heap.size<w2.heap.size:=by omega
 have q1:w.heap.size+1<w2.heap.size:=by omega
 go_wp2_with fail
 refine ye (D1.out _ (HS.out.below (BW.out _ (a7.out.alloc (by omega) _)))) ?_;rintro e w3 ⟨rfl,M⟩;simp only[yr] at M;have U:Hid (Below (w.heap.size+1+1+1+1) ((((w.alloc (.cells #[.slice a n c] 43)).alloc (.cells #[.int .i64 (k:Int),.int .i64 u] 61)).alloc (.cells #[.slice none 0 0] 43)).alloc (.cells #[.int .i64 0,.int .i64 0] 61)) w3):=(a7.out.alloc (by omega) _).trans (M.mono (by omega));have b7:=M.size;simp only[yr] at b7;clear M l0 l1 l2 l3 l4 l5 l6 l7;obtain⟨l0,l1,l2,l3,l4,l5,l6,l7⟩:=zew U.out
 go_wp2_with fail
 refine ye (D2.out _ (HS.out.below (BW.out _ U.out))) ?_;rintro e I ⟨g,rfl,a6,c6,a5⟩;have Z:Hid (Below (w.heap.size+1+1+1+1) ((((w.alloc (.cells #[.slice a n c] 43)).alloc (.cells #[.int .i64 (k:Int),.int .i64 u] 61)).alloc (.cells #[.slice none 0 0] 43)).alloc (.cells #[.int .i64 0,.int .i64 0] 61)) I):=U.out.trans (a6.mono (by omega));have c8:=a6.size;clear a6 l0 l1 l2 l3 l4 l5 l6 l7;obtain⟨l0,l1,l2,l3,l4,l5,l6,l7⟩:=zew Z.out;obtain⟨c7,b5,v6,v7,d6,d7⟩:=RC.out _ _ a5;have a9:Hid (znM I g S1):=a5;have e1:¬ g=w.heap.size+1:=by omega
 have e2:¬ w.heap.size+1=g:=by omega
 have e3:¬ g=w.heap.size+1+1:=by omega
 have e4:¬ w.heap.size+1+1=g:=by omega
 have e5:¬ g=w.heap.size+1+1+1:=by omega
 have e6:¬ w.heap.size+1+1+1=g:=by omega
 have q2:w.heap.size+1<I.heap.size:=by omega
 have q3:w.heap.size+1+1<I.heap.size:=by omega
 have q4:w.heap.size+1+1+1<I.heap.size:=by omega
 have q5:w.heap.size<I.heap.size:=by omega
 clear a5 D0 D1 D2
 go_wp2_with fail
 first
  |(obtain⟨E,D⟩:∃ E,E=((((I.setCell ⟨g,f*8+6,none⟩ (.int .i64 (k:Int))).setCell ⟨g,f*8+7,none⟩ (.bool cl)).alloc (.cells #[.slice (some ⟨g,0,none⟩) n n] 43)).alloc (.cells #[.int .i64 (f:Int),.int .i64 (nf+1)] 61)):=⟨_,rfl⟩;rw[<- D])
  |(obtain⟨E,D⟩:∃ E,E=((((I.alloc (.cells #[.slice (some ⟨g,0,none⟩) n n] 43)).alloc (.cells #[.int .i64 (f:Int),.int .i64 (nf+1)] 61)).setCell ⟨g,f*8+6,none⟩ (.int .i64 (k:Int))).setCell ⟨g,f*8+7,none⟩ (.bool cl)):=⟨_,rfl⟩;rw[<- D])
 have b4:Hid (znM E g S2):=by
  rw[D]
  first
   | exact(RT.out I g a9.out).up (fun b _ O=>(((yk _ _).alloc (yj _) _).alloc (by simp) _).block b O)
   | exact RT.out _ g (a9.out.up (fun b _ O=>(((yk _ _).alloc (yj _) _).alloc (by simp) _).block b O))
 have c9:E.heap.size=I.heap.size+1+1:=by rw[D];simp
 have a8:Hid (Below w.heap.size w E):=by
  rw[D]
  first
   | exact((((BW.out _ Z.out).setCell (by simp;omega) _).setCell (by simp;omega) _).alloc (by simp;omega) _).alloc (by simp;omega) _
   | exact((((BW.out _ Z.out).alloc (by omega) _).alloc (by simp;omega) _).setCell (by simp;omega) _).setCell (by simp;omega) _
 have y0:E.cell? ⟨I.heap.size,0,none⟩=some (.slice (some ⟨g,0,none⟩) n n):=by rw[D];go_simp
 have y1:E.cell? ⟨I.heap.size+1,0,none⟩=some (.int .i64 (f:Int)):=by rw[D];go_simp
 have y2:E.cell? ⟨I.heap.size+1,1,none⟩=some (.int .i64 (nf+1)):=by rw[D];go_simp
 have y3:E.cell? ⟨w.heap.size+1+1,0,none⟩=some (.slice none 0 0):=by rw[D];go_simp
 have y4:E.cell? ⟨w.heap.size+1+1+1,0,none⟩=some (.int .i64 0):=by rw[D];go_simp
 have y5:E.cell? ⟨w.heap.size+1+1+1,1,none⟩=some (.int .i64 0):=by rw[D];go_simp
 have y6:∀ o,E.frozen? ⟨w.heap.size+1+1,o,none⟩=false:=fun o=>by rw[D];go_simp
 have y7:∀ o,E.frozen? ⟨w.heap.size+1+1+1,o,none⟩=false:=fun o=>by rw[D];go_simp
 have z1:I.heap.size<E.heap.size:=by omega
 have z2:I.heap.size+1<E.heap.size:=by omega
 have z3:w.heap.size+1+1<E.heap.size:=by omega
 have z4:w.heap.size+1+1+1<E.heap.size:=by omega
 have z5:¬ I.heap.size=w.heap.size+1+1:=by omega
 have z6:¬ I.heap.size+1=w.heap.size+1+1:=by omega
 have z7:¬ I.heap.size=w.heap.size+1+1+1:=by omega
 have z8:¬ I.heap.size+1=w.heap.size+1+1+1:=by omega
 clear D l0 l1 l2 l3 l4 l5 l6 l7 d6 d7 b5
 go_region
 all_goals (try go_wp2)
 all_goals
  refine yv (v:=.tuple #[.agg #[.slice (some ⟨g,0,none⟩) n n],.agg #[.int .i64 (f:Int),.int .i64 (nf+1)],.int .i64 0]) (by simp[results,Tryz.results193,go_sem,y3,y4,y5]) rfl ⟨g,rfl,?_,by omega,?_⟩
  ·first
    | exact(((a8.out.setCell (by simp;omega) _).setCell (by simp;omega) _).setCell (by simp;omega) _).drew
    | exact((a8.out.setCell (by simp;omega) _).setCell (by simp;omega) _).setCell (by simp;omega) _
  ·refine b4.out.up (fun b hb O=>?_)
   first
    | rw[heap_drew,ys _ _ _ _ (by show b≠w.heap.size+1+1+1;omega),ys _ _ _ _ (by show b≠w.heap.size+1+1+1;omega),ys _ _ _ _ (by show b≠w.heap.size+1+1;omega)]
    | rw[ys _ _ _ _ (by show b≠w.heap.size+1+1+1;omega),ys _ _ _ _ (by show b≠w.heap.size+1+1+1;omega),ys _ _ _ _ (by show b≠w.heap.size+1+1;omega)]
theorem znY(a:Option Addr)(c:Nat)(S:List Nd)(p u E:Int)(cl:Bool)(w:World)(hN:S.length<=9223372036854775807)(Z:Big S)(hS:zah w a S)(hE:zaH S p u=E)(J:E≠0) :
  Calls Tryz.prog 193 #[.agg #[.slice a S.length c],.agg #[.int .i64 p,.int .i64 u],.bool cl] w fun e w' => e=.returned (.tuple #[.agg #[.slice none 0 0],.agg #[.int .i64 0,.int .i64 0],.int .i64 E])/\Below w.heap.size w w' := by
 have D0:Hid (∀ W,zah W a S->Calls _ _ _ _ _):=fun W hW=>ziK a c S p u E W hN Z hW hE J;have HS:Hid (zah w a S):=hS;have a5:(E == 0)=false:=by simp[J]
 clear hS hE Z hN;generalize S.length=n at *;have BW:Hid (∀ W,Below (w.heap.size+1+1+1+1) ((((w.alloc (.cells #[.slice a n c] 43)).alloc (.cells #[.int .i64 p,.int .i64 u] 61)).alloc (.cells #[.slice none 0 0] 43)).alloc (.cells #[.int .i64 0,.int .i64 0] 61)) W->Below w.heap.size w W):=fun W h=>(zaI _ _ _ _ _).trans (h.mono (by omega))
 go_enter Tryz.func193,Tryz.ntmps193
 go_wp2_with fail
 refine ye (D0.out _ (HS.out.below (zaI _ _ _ _ _))) ?_;rintro e M ⟨rfl,F⟩;simp only[yr] at F;have O:Hid (Below (w.heap.size+1+1+1+1) ((((w.alloc (.cells #[.slice a n c] 43)).alloc (.cells #[.int .i64 p,.int .i64 u] 61)).alloc (.cells #[.slice none 0 0] 43)).alloc (.cells #[.int .i64 0,.int .i64 0] 61)) M):=F;have U:=F.size;simp only[yr] at U;obtain⟨l0,l1,l2,l3,l4,l5,l6,l7⟩:=zew F;have q0:w.heap.size<M.heap.size:=by omega
 have q1:w.heap.size+1<M.heap.size:=by omega
 have q2:w.heap.size+1+1<M.heap.size:=by omega
 have q3:w.heap.size+1+1+1<M.heap.size:=by omega
 clear F;have I:Hid _:=O
 go_wp2
 refine yv (v:=.tuple #[.agg #[.slice none 0 0],.agg #[.int .i64 0,.int .i64 0],.int .i64 E]) (by simp only[results,Tryz.results193];go_simp) rfl ⟨rfl,?_⟩;have D:=BW.out _ I.out;have T:=I.out.size;simp only[yr] at T
 first
  | exact((D.setCell (by simp;omega) _).setCell (by simp;omega) _).setCell (by simp;omega) _
  | exact(((D.setCell (by simp;omega) _).setCell (by simp;omega) _).setCell (by simp;omega) _).drew
  | exact(((D.alloc (by omega) _).setCell (by simp;omega) _).setCell (by simp;omega) _).setCell (by simp;omega) _
  | exact(((D.setCell (by simp;omega) _).setCell (by simp;omega) _).setCell (by simp;omega) _).alloc (by simp;omega) _
  | exact((((D.alloc (by omega) _).alloc (by simp;omega) _).setCell (by simp;omega) _).setCell (by simp;omega) _).setCell (by simp;omega) _
  | exact((((D.setCell (by simp;omega) _).setCell (by simp;omega) _).setCell (by simp;omega) _).alloc (by simp;omega) _).alloc (by simp;omega) _
theorem znZ(a:Option Addr)(c:Nat)(S:List Nd)(k:Nat)(u:Int)(cl:Bool)(w:World)(wf:WF S)(hS:zah w a S)(hk:k<S.length)(hE:zaH S k u=0)(hH:zfs S k=true) :
  Calls Tryz.prog 193 #[.agg #[.slice a S.length c],.agg #[.int .i64 (k:Int),.int .i64 u],.bool cl] w fun e w' => e=.returned (.tuple #[.agg #[.slice none 0 0],.agg #[.int .i64 0,.int .i64 0],.int .i64 6])/\Below w.heap.size w w' := by
 have hN:=wf.small;have D0:Hid (∀ W,zah W a S->Calls _ _ _ _ _):=fun W U=>find_ok a c S k u W (by omega) wf.big U hk hE (by have:=wf.kids_small hk;omega);have d1:=fun W U=>zeb a c S (k:Int) W (by omega) U (by omega);rw[hH] at d1;have D1:Hid _:=d1;have HS:Hid (zah w a S):=hS;clear hS wf hE hH d1;obtain⟨x0,O⟩:∃ x,nd S k=x:=⟨_,rfl⟩;rw[O] at D0;clear O;generalize S.length=n at *;have BW:Hid (∀ W,Below (w.heap.size+1+1+1+1) ((((w.alloc (.cells #[.slice a n c] 43)).alloc (.cells #[.int .i64 (k:Int),.int .i64 u] 61)).alloc (.cells #[.slice none 0 0] 43)).alloc (.cells #[.int .i64 0,.int .i64 0] 61)) W->Below w.heap.size w W):=fun W h=>(zaI _ _ _ _ _).trans (h.mono (by omega))
 go_enter Tryz.func193,Tryz.ntmps193
 go_wp2_with fail
 refine ye (D0.out _ (HS.out.below (zaI _ _ _ _ _))) ?_;rintro e T ⟨fg,rfl,E,_⟩;simp only[yr] at E;have I:Hid (Below (w.heap.size+1+1+1+1) ((((w.alloc (.cells #[.slice a n c] 43)).alloc (.cells #[.int .i64 (k:Int),.int .i64 u] 61)).alloc (.cells #[.slice none 0 0] 43)).alloc (.cells #[.int .i64 0,.int .i64 0] 61)) T):=E;have a5:=E.size;simp only[yr] at a5;obtain⟨l0,l1,l2,l3,l4,l5,l6,l7⟩:=zew E;have q0:w.heap.size<T.heap.size:=by omega
 have q1:w.heap.size+1<T.heap.size:=by omega
 have q2:w.heap.size+1+1<T.heap.size:=by omega
 have q3:w.heap.size+1+1+1<T.heap.size:=by omega
 clear E
 go_wp2_with fail
 refine ye (D1.out _ (HS.out.below (BW.out _ (I.out.alloc (by omega) _)))) ?_;rintro e w3 ⟨rfl,F⟩;simp only[yr] at F;have J:Hid (Below (w.heap.size+1+1+1+1) ((((w.alloc (.cells #[.slice a n c] 43)).alloc (.cells #[.int .i64 (k:Int),.int .i64 u] 61)).alloc (.cells #[.slice none 0 0] 43)).alloc (.cells #[.int .i64 0,.int .i64 0] 61)) w3):=(I.out.alloc (by omega) _).trans (F.mono (by omega));have a6:=F.size;simp only[yr] at a6;clear F l0 l1 l2 l3 l4 l5 l6 l7 q0 q1 q2 q3;obtain⟨l0,l1,l2,l3,l4,l5,l6,l7⟩:=zew J.out;have q0:w.heap.size<w3.heap.size:=by omega
 have q1:w.heap.size+1<w3.heap.size:=by omega
 have q2:w.heap.size+1+1<w3.heap.size:=by omega
 have q3:w.heap.size+1+1+1<w3.heap.size:=by omega
 have M:Hid _:=J
 go_wp2
 refine yv (v:=.tuple #[.agg #[.slice none 0 0],.agg #[.int .i64 0,.int .i64 0],.int .i64 6]) (by simp only[results,Tryz.results193];go_simp) rfl ⟨rfl,?_⟩;have D:=BW.out _ M.out;have Z:=M.out.size;simp only[yr] at Z
 first
  | exact((D.setCell (by simp;omega) _).setCell (by simp;omega) _).setCell (by simp;omega) _
  | exact(((D.setCell (by simp;omega) _).setCell (by simp;omega) _).setCell (by simp;omega) _).drew
  | exact(((D.alloc (by omega) _).setCell (by simp;omega) _).setCell (by simp;omega) _).setCell (by simp;omega) _
  | exact(((D.setCell (by simp;omega) _).setCell (by simp;omega) _).setCell (by simp;omega) _).alloc (by simp;omega) _
  | exact((((D.alloc (by omega) _).alloc (by simp;omega) _).setCell (by simp;omega) _).setCell (by simp;omega) _).setCell (by simp;omega) _
  | exact((((D.setCell (by simp;omega) _).setCell (by simp;omega) _).setCell (by simp;omega) _).alloc (by simp;omega) _).alloc (by simp;omega) _
theorem zoa(a:Option Addr)(c:Nat)(S:List Nd)(k:Nat)(u E:Int)(cl:Bool)(w:World)(wf:WF S)(hS:zah w a S)(hk:k<S.length)(hE:zaH S k u=0)(hH:zfs S k=false)(hM:zfu S 0=E)(Z:E≠0) :
  Calls Tryz.prog 193 #[.agg #[.slice a S.length c],.agg #[.int .i64 (k:Int),.int .i64 u],.bool cl] w fun e w' => e=.returned (.tuple #[.agg #[.slice none 0 0],.agg #[.int .i64 0,.int .i64 0],.int .i64 E])/\Below w.heap.size w w' := by
 have hN:=wf.small;have D0:Hid (∀ W,zah W a S->Calls _ _ _ _ _):=fun W hW=>find_ok a c S k u W (by omega) wf.big hW hk hE (by have:=wf.kids_small hk;omega);have d1:=fun W hW=>zeb a c S (k:Int) W (by omega) hW (by omega);rw[hH] at d1;have D1:Hid _:=d1;have D2:Hid (∀ W,zah W a S->Calls _ _ _ _ _):=fun W hW=>zpM a c S 0 E W (by omega) wf.big hW hM Z;have HS:Hid (zah w a S):=hS;have b0:(E == 0)=false:=by simp[Z]
 clear hS wf hE hH d1 hM;obtain⟨x0,a5⟩:∃ x,nd S k=x:=⟨_,rfl⟩;rw[a5] at D0;clear a5;generalize S.length=n at *;have BW:Hid (∀ W,Below (w.heap.size+1+1+1+1) ((((w.alloc (.cells #[.slice a n c] 43)).alloc (.cells #[.int .i64 (k:Int),.int .i64 u] 61)).alloc (.cells #[.slice none 0 0] 43)).alloc (.cells #[.int .i64 0,.int .i64 0] 61)) W->Below w.heap.size w W):=fun W h=>(zaI _ _ _ _ _).trans (h.mono (by omega))
 go_enter Tryz.func193,Tryz.ntmps193
 go_wp2_with fail
 refine ye (D0.out _ (HS.out.below (zaI _ _ _ _ _))) ?_;rintro e w2 ⟨fg,rfl,F,_⟩;simp only[yr] at F;have O:Hid (Below (w.heap.size+1+1+1+1) ((((w.alloc (.cells #[.slice a n c] 43)).alloc (.cells #[.int .i64 (k:Int),.int .i64 u] 61)).alloc (.cells #[.slice none 0 0] 43)).alloc (.cells #[.int .i64 0,.int .i64 0] 61)) w2):=F;have a7:=F.size;simp only[yr] at a7;obtain⟨l0,l1,l2,l3,l4,l5,l6,l7⟩:=zew F;have q0:w.heap.size<w2.heap.size:=by omega
 have q1:w.heap.size+1<w2.heap.size:=by omega
 have q2:w.heap.size+1+1<w2.heap.size:=by omega
 have q3:w.heap.size+1+1+1<w2.heap.size:=by omega
 clear F
 go_wp2_with fail
 refine ye (D1.out _ (HS.out.below (BW.out _ (O.out.alloc (by omega) _)))) ?_;rintro e w3 ⟨rfl,I⟩;simp only[yr] at I;have J:Hid (Below (w.heap.size+1+1+1+1) ((((w.alloc (.cells #[.slice a n c] 43)).alloc (.cells #[.int .i64 (k:Int),.int .i64 u] 61)).alloc (.cells #[.slice none 0 0] 43)).alloc (.cells #[.int .i64 0,.int .i64 0] 61)) w3):=(O.out.alloc (by omega) _).trans (I.mono (by omega));have a8:=I.size;simp only[yr] at a8;clear I l0 l1 l2 l3 l4 l5 l6 l7 q0 q1 q2 q3;obtain⟨l0,l1,l2,l3,l4,l5,l6,l7⟩:=zew J.out;have q0:w.heap.size<w3.heap.size:=by omega
 have q1:w.heap.size+1<w3.heap.size:=by omega
 have q2:w.heap.size+1+1<w3.heap.size:=by omega
 have q3:w.heap.size+1+1+1<w3.heap.size:=by omega
 go_wp2_with fail
 refine ye (D2.out _ (HS.out.below (BW.out _ J.out))) ?_;rintro e w4 ⟨rfl,M⟩;have T:Hid (Below (w.heap.size+1+1+1+1) ((((w.alloc (.cells #[.slice a n c] 43)).alloc (.cells #[.int .i64 (k:Int),.int .i64 u] 61)).alloc (.cells #[.slice none 0 0] 43)).alloc (.cells #[.int .i64 0,.int .i64 0] 61)) w4):=J.out.trans (M.mono (by omega));have a9:=M.size;clear M l0 l1 l2 l3 l4 l5 l6 l7 q0 q1 q2 q3;obtain⟨l0,l1,l2,l3,l4,l5,l6,l7⟩:=zew T.out;have q0:w.heap.size<w4.heap.size:=by omega
 have q1:w.heap.size+1<w4.heap.size:=by omega
 have q2:w.heap.size+1+1<w4.heap.size:=by omega
 have q3:w.heap.size+1+1+1<w4.heap.size:=by omega
 have U:Hid _:=T
 go_wp2
 refine yv (v:=.tuple #[.agg #[.slice none 0 0],.agg #[.int .i64 0,.int .i64 0],.int .i64 E]) (by simp only[results,Tryz.results193];go_simp) rfl ⟨rfl,?_⟩;have D:=BW.out _ U.out;have a6:=U.out.size;simp only[yr] at a6
 first
  | exact((D.setCell (by simp;omega) _).setCell (by simp;omega) _).setCell (by simp;omega) _
  | exact(((D.setCell (by simp;omega) _).setCell (by simp;omega) _).setCell (by simp;omega) _).drew
  | exact(((D.alloc (by omega) _).setCell (by simp;omega) _).setCell (by simp;omega) _).setCell (by simp;omega) _
  | exact(((D.setCell (by simp;omega) _).setCell (by simp;omega) _).setCell (by simp;omega) _).alloc (by simp;omega) _
  | exact((((D.alloc (by omega) _).alloc (by simp;omega) _).setCell (by simp;omega) _).setCell (by simp;omega) _).setCell (by simp;omega) _
  | exact((((D.setCell (by simp;omega) _).setCell (by simp;omega) _).setCell (by simp;omega) _).alloc (by simp;omega) _).alloc (by simp;omega) _
def SlA(a:Option Addr)(n c:Nat):Prop:=(a=none->c=0)/\n<=c/\c<=9223372036854775807
def zxL:Prop:=∀ (a:Option Addr) (c:Nat) (L:List Pt) (Fr o t:Int) (w:World),L.length<=9223372036854775807->zmu L->SlA a L.length c->zbR w a L ->
 Calls Tryz.prog 142 #[.slice a L.length c,.int .i64 Fr,.int .i64 o,.int .i64 t] w fun e w' => ∃ D E,e=.returned (.tuple #[.slice D (zmb L Fr o t).length E,.int .i64 (ziD L Fr o t),.int .i64 (zfb L Fr o t)])/\Below w.heap.size w w' /\ SlA D (zmb L Fr o t).length E/\zbR w' D (zmb L Fr o t)
def zxM:Prop:=∀ (a:Option Addr) (c:Nat) (L:List Pt) (Fr k o t D th:Int) (w:World),L.length<=9223372036854775807->zmu L->SlA a L.length c->zbR w a L ->
 Calls Tryz.prog 144 #[.slice a L.length c,.int .i64 Fr,.int .i64 k,.int .i64 o,.int .i64 t,.int .i64 D,.int .i64 th] w fun e w' => ∃ E F,e=.returned (.tuple #[.slice E (zeK L Fr k o t D th).length F,.int .i64 (zjA L Fr k o t D th)])/\Below w.heap.size w w' /\ SlA E (zeK L Fr k o t D th).length F/\zbR w' E (zeK L Fr k o t D th)
def zxO:Prop:=∀ (a:Option Addr) (c:Nat) (L:List Pt) (Fr k o t:Int) (ga:Option Addr) (gc:Nat) (G:List Cl) (w:World),L.length<=9223372036854775807->zmu L->SlA a L.length c->zbR w a L->G.length<=9223372036854775807->zkz G->zaG w ga G ->
 Calls Tryz.prog 145 #[.slice a L.length c,.int .i64 Fr,.int .i64 k,.int .i64 o,.int .i64 t,.agg #[.slice ga G.length gc]] w fun e w' => ∃ D E,e=.returned (.tuple #[.slice D (zeM L Fr k o t G).length E,.int .i64 (zhl L Fr k o t G)])/\Below w.heap.size w w' /\ SlA D (zeM L Fr k o t G).length E/\zbR w' D (zeM L Fr k o t G)
def zxN:Prop:=∀ (a:Option Addr) (c:Nat) (L:List Pt) (Fr k o t:Int) (w:World),L.length<=9223372036854775807->zmu L->SlA a L.length c->zbR w a L ->
 Calls Tryz.prog 146 #[.slice a L.length c,.int .i64 Fr,.int .i64 k,.int .i64 o,.int .i64 t] w fun e w' => ∃ D E ga gc,e=.returned (.tuple #[.slice D (zeL L Fr k o t).length E,.agg #[.slice ga (zpb L Fr k o t).length gc],.int .i64 (zfe L Fr k o t)])/\Below w.heap.size w w' /\ SlA D (zeL L Fr k o t).length E/\zbR w' D (zeL L Fr k o t)/\zaG w' ga (zpb L Fr k o t)
def zxP:Prop:=∀ (a:Option Addr) (c:Nat) (L:List Pt) (Fr k o t:Int) (w:World),L.length<=9223372036854775807->zmu L->SlA a L.length c->zbR w a L ->
 Calls Tryz.prog 147 #[.slice a L.length c,.int .i64 Fr,.int .i64 k,.int .i64 o,.int .i64 t] w fun e w' => ∃ D E,e=.returned (.tuple #[.slice D (zeN L Fr k o t).length E,.int .i64 (zaT L Fr k o t)])/\Below w.heap.size w w' /\ SlA D (zeN L Fr k o t).length E/\zbR w' D (zeN L Fr k o t)
def zsg:Prop:=∀ (a:Option Addr) (c:Nat) (L:List Pt) (Fr:Int) (w:World),L.length<=9223372036854775807->zmu L->SlA a L.length c->zbR w a L ->
 Calls Tryz.prog 37 #[.slice a L.length c,.int .i64 Fr] w fun e w' => e=.returned (.int .i64 (zbd L Fr))/\Below w.heap.size w w'
def zzu(C:List (List Cl)):Prop:=C.length<=17/\∀ j,j<C.length->Right (gr C j)
def zqq(L:List Pt):Prop:=L.length<=100/\∀ i,i<L.length->zzu (pt L i).cm
theorem zqN{L:List Pt}{F:Int}(R:zdn L F):zqq L:=⟨by have:=R.few;omega,fun i hi=>by
 obtain⟨_,_,_,_,h5,D⟩:=zbm.1 (R.ok i hi);exact⟨by omega,zci.1 D⟩⟩
theorem zqq.big{L:List Pt}(h:zqq L):zmu L:=fun i hi=>by
 obtain⟨h1,D⟩:=h.2 i hi;exact⟨by omega,fun j E=>⟨by have:=(D j E).few;omega,(D j E).big⟩⟩
theorem zqq.set{L:List Pt}(h:zqq L){k:Nat}{x:Pt}(D:zzu x.cm):zqq (L.set k x):=⟨by rw[List.length_set];exact h.1,fun i hi=>by
 rw[List.length_set] at hi;rw[zjE hi];split
 ·exact D
 ·exact h.2 i hi⟩
def Q1:List Pt:=[⟨1,0,1,[],false⟩,⟨1,0,0,[],false⟩]
def Q2:List Pt:=[⟨1,0,1,[],false⟩,⟨1,0,0,[[⟨5,[]⟩]],false⟩]
end Go.Proofs.YtcbcpomacdngmaaGreat
