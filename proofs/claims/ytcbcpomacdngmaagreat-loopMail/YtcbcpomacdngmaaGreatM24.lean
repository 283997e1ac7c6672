/-
  x
-/
import Derived.Test.YtcbcpomacdngmaaGreatM23
namespace Go.Proofs.YtcbcpomacdngmaaGreat
set_option maxRecDepth 100000
set_option maxHeartbeats 4000000
set_option linter.unusedVariables false
open Go.RowKit Go.ChangeShapes Go.WideShapes
def SlB(W:World)(b:Nat):Prop:=∀ j v,W.cell? ⟨b,j,none⟩=some v->∃ a n c,v=.slice a n c
def zuT(b:Nat)(W D:World):Prop:=W.heap.size<=D.heap.size/\∀ k,k<W.heap.size->k≠b->D.heap[k]?=W.heap[k]?
theorem zuT.cell{b k o:Nat}{W D:World}{v:Value}(h:zuT b W D)(E:k≠b)(hc:W.cell? ⟨k,o,none⟩=some v):D.cell? ⟨k,o,none⟩=some v:=by
 have:=h.2 k (yd _ _ hc) E;unfold World.cell? at hc |-;dsimp only at hc |-;rw[this];exact hc
theorem SlB.ne{W:World}{b k o:Nat}{v:Value}(h:SlB W b)(hc:W.cell? ⟨k,o,none⟩=some v)(E:∀ a n c,v≠.slice a n c):k≠b:=fun e=>by
 subst e;obtain⟨a,n,c,D⟩:=h _ _ hc;exact E a n c D
theorem zal.offB{W D:World}{b:Nat}{a:Option Addr}{l:List Int}(h:zal W a l)(hs:SlB W b)(E:zuT b W D):zal D a l:=fun i hi=>by
 obtain⟨k,o,e,hc⟩:=h i hi;exact⟨k,o,e,E.cell (hs.ne hc (fun _ _ _ h=>by cases h)) hc⟩
theorem zah.offB{W I:World}{b:Nat}{a:Option Addr}{S:List Nd}(h:zah W a S)(hs:SlB W b)(D:zuT b W I):zah I a S:=fun i hi=>by
 obtain⟨k,o,e,c0,c1,c2,c3,c4,⟨ka,kc,c5,F⟩,J,M⟩:=h i hi;have E:=hs.ne c0 (fun _ _ _ h=>by cases h);exact⟨k,o,e,D.cell E c0,D.cell E c1,D.cell E c2,D.cell E c3,D.cell E c4,⟨ka,kc,D.cell E c5,F.offB hs D⟩,D.cell E J,D.cell E M⟩
theorem zuT.set{W D:World}{b o:Nat}{v:Value}(h:zuT b W D):zuT b W (D.setCell ⟨b,o,none⟩ v):=⟨by simpa using h.1,fun k E hn=>(ys _ _ _ _ hn).trans (h.2 k E hn)⟩
theorem zuT.refl(b:Nat)(W:World):zuT b W W:=⟨yj _,fun _ _ _=>rfl⟩
theorem zav{W D:World}{b:Nat}{o:Obj}(h:W.heap[b]?=some o)(E:Below W.heap.size W D):D.heap[b]?=some o:=(E.block b (zau h)).trans h
theorem zzT(U:zoU){R:Rl}{p E:Int}(h1:zdm p=R)(T:zAq p=E)(W:World) :
  yL 28 #[.int .i64 p] W fun e w' => ∃ (D F I J:Option Addr) (d0 d1 d2 d3:Nat),e=.returned (.tuple #[.agg #[.slice D R.s.length d0,.slice F R.hs.length d1,.slice I R.i.length d2,.slice J R.t.length d3],.int .i64 E])/\Below W.heap.size W w' /\ zdd w' ⟨D,F,I,J,d0,d1,d2,d3⟩ R:=by
 refine(U p W).mono ?_;rintro e w' ⟨⟨D,F,I,J,d0,d1,d2,d3⟩,M,Z,O⟩;rw[h1] at M O;rw[T] at M;exact⟨D,F,I,J,d0,d1,d2,d3,M,Z,O⟩
theorem zzX{W:World}{b t:Nat}{E v1 v2 F:Value}{f}(h:W.heap[b]?=some (.cells #[E,v1,v2,F] t f))(h0:∃ a n c,E=.slice a n c)(h1:∃ a n c,v1=.slice a n c)(I:∃ a n c,v2=.slice a n c)(J:∃ a n c,F=.slice a n c):SlB W b:=fun j v D=>by
 unfold World.cell? at D;dsimp only at D;rw[h] at D
 match j with
 | 0=>simp at D;rw[<- D];exact h0
 | 1=>simp at D;rw[<- D];exact h1
 | 2=>simp at D;rw[<- D];exact I
 | 3=>simp at D;rw[<- D];exact J
 | j+4=>simp at D
theorem zaG{W:World}{b t i:Nat}{X:Array Value}{v:Value}{f:Nat × Nat}(h:W.heap[b]?=some (.cells X t f)):(W.setCell ⟨b,i,none⟩ v).heap[b]?=some (.cells (X.setIfInBounds i v) t f):=by
 show (W.heap.modify b _)[b]?=_;rw[Array.getElem?_modify,yb rfl,h];rfl
theorem zcN{W:World}{b t:Nat}{I v1 v2 J u0 u1 u2 u3:Value}(h:W.heap[b]?=some (.cells #[I,v1,v2,J] t (0,0))):((((W.setCell ⟨b,0,none⟩ u0).setCell ⟨b,1,none⟩ u1).setCell ⟨b,2,none⟩ u2).setCell ⟨b,3,none⟩ u3).heap[b]?=some (.cells #[u0,u1,u2,u3] t (0,0)):=by
 have D:=zaG (i:=0) (v:=u0) h;have E:=zaG (i:=1) (v:=u1) D;have F:=zaG (i:=2) (v:=u2) E;exact zaG (i:=3) (v:=u3) F
theorem zcd(W:World)(t:Nat)(D v1 v2 E:Value):(W.alloc (.cells #[D,v1,v2,E] t)).heap[W.heap.size]?=some (.cells #[D,v1,v2,E] t (0,0)):=yK W _
theorem zai{W:World}{b t:Nat}{D v1 v2 E:Value}(h:W.heap[b]?=some (.cells #[D,v1,v2,E] t (0,0))):W.cell? ⟨b,0,none⟩=some D/\W.cell? ⟨b,1,none⟩=some v1/\W.cell? ⟨b,2,none⟩=some v2/\W.cell? ⟨b,3,none⟩=some E/\(∀ o,W.frozen? ⟨b,o,none⟩=false)/\b<W.heap.size :=
 ⟨by simp[World.cell?,h],by simp[World.cell?,h],by simp[World.cell?,h],by simp[World.cell?,h],fun o=>by simp[World.frozen?,h],zau h⟩
theorem znI(a:Option Addr)(c:Nat)(S:List Nd)(p u E:Int)(cl:Bool)(w:World)(hN:S.length<=9223372036854775807)(Z:Big S)(hS:zah w a S)(hE:zaC S p u=E)(J:E≠0) :
  yL 193 #[.agg #[.slice a S.length c],.agg #[.int .i64 p,.int .i64 u],.bool cl] w fun e w' => e=.returned (.tuple #[.agg #[.slice none 0 0],.agg #[.int .i64 0,.int .i64 0],.int .i64 E])/\Below w.heap.size w w' := by
 have D0:Hid (∀ W,zah W a S->Calls _ _ _ _ _):=fun W hW=>ziB a c S p u E W hN Z hW hE J;have HS:Hid (zah w a S):=hS;have a5:(E == 0)=false:=by simp[J]
 clear hS hE Z hN;generalize S.length=n at *;have BW:Hid (∀ W,Below (w.heap.size+1+1+1+1) ((((w.alloc (.cells #[.slice a n c] 43)).alloc (.cells #[.int .i64 p,.int .i64 u] 61)).alloc (.cells #[.slice none 0 0] 43)).alloc (.cells #[.int .i64 0,.int .i64 0] 61)) W->Below w.heap.size w W):=fun W h=>(zaH _ _ _ _ _).trans (h.mono (by omega))
 go_enter Tryz.func193,Tryz.ntmps193
 go_wp2_with fail
 refine ye (D0.out _ (HS.out.below (zaH _ _ _ _ _))) ?_;rintro e M ⟨rfl,F⟩;simp only[yr] at F;have O:Hid (Below (w.heap.size+1+1+1+1) ((((w.alloc (.cells #[.slice a n c] 43)).alloc (.cells #[.int .i64 p,.int .i64 u] 61)).alloc (.cells #[.slice none 0 0] 43)).alloc (.cells #[.int .i64 0,.int .i64 0] 61)) M):=F;have U:=F.size;simp only[yr] at U;obtain⟨l0,l1,l2,l3,l4,l5,l6,l7⟩:=zew F;have q0:w.heap.size<M.heap.size:=by omega
 have q1:w.heap.size+1<M.heap.size:=by omega
 have q2:w.heap.size+1+1<M.heap.size:=by omega
 have q3:w.heap.size+1+1+1<M.heap.size:=by omega
 clear F;have I:Hid _:=O
 go_wp2
 refine yv (v:=.tuple #[.agg #[.slice none 0 0],.agg #[.int .i64 0,.int .i64 0],.int .i64 E]) (by simp only[results,Tryz.results193];go_simp) rfl ⟨rfl,?_⟩;have D:=BW.out _ I.out;have T:=I.out.size;simp only[yr] at T
 first
  | exact((D.setCell (by simp;omega) _).setCell (by simp;omega) _).setCell (by simp;omega) _
  | exact(((D.setCell (by simp;omega) _).setCell (by simp;omega) _).setCell (by simp;omega) _).drew
  | exact(((D.alloc (by omega) _).setCell (by simp;omega) _).setCell (by simp;omega) _).setCell (by simp;omega) _
  | exact(((D.setCell (by simp;omega) _).setCell (by simp;omega) _).setCell (by simp;omega) _).alloc (by simp;omega) _
  | exact((((D.alloc (by omega) _).alloc (by simp;omega) _).setCell (by simp;omega) _).setCell (by simp;omega) _).setCell (by simp;omega) _
  | exact((((D.setCell (by simp;omega) _).setCell (by simp;omega) _).setCell (by simp;omega) _).alloc (by simp;omega) _).alloc (by simp;omega) _
theorem znJ(a:Option Addr)(c:Nat)(S:List Nd)(k:Nat)(u:Int)(cl:Bool)(w:World)(wf:WF S)(hS:zah w a S)(hk:k<S.length)(hE:zaC S k u=0)(hH:zfj S k=true) :
  yL 193 #[.agg #[.slice a S.length c],.agg #[.int .i64 (k:Int),.int .i64 u],.bool cl] w fun e w' => e=.returned (.tuple #[.agg #[.slice none 0 0],.agg #[.int .i64 0,.int .i64 0],.int .i64 6])/\Below w.heap.size w w' := by
 have hN:=wf.small;have D0:Hid (∀ W,zah W a S->Calls _ _ _ _ _):=fun W U=>find_ok a c S k u W (by omega) wf.big U hk hE (by have:=wf.kids_small hk;omega);have d1:=fun W U=>zee a c S (k:Int) W (by omega) U (by omega);rw[hH] at d1;have D1:Hid _:=d1;have HS:Hid (zah w a S):=hS;clear hS wf hE hH d1;obtain⟨x0,O⟩:∃ x,nd S k=x:=⟨_,rfl⟩;rw[O] at D0;clear O;generalize S.length=n at *;have BW:Hid (∀ W,Below (w.heap.size+1+1+1+1) ((((w.alloc (.cells #[.slice a n c] 43)).alloc (.cells #[.int .i64 (k:Int),.int .i64 u] 61)).alloc (.cells #[.slice none 0 0] 43)).alloc (.cells #[.int .i64 0,.int .i64 0] 61)) W->Below w.heap.size w W):=fun W h=>(zaH _ _ _ _ _).trans (h.mono (by omega))
 go_enter Tryz.func193,Tryz.ntmps193
 go_wp2_with fail
 refine ye (D0.out _ (HS.out.below (zaH _ _ _ _ _))) ?_;rintro e T ⟨fg,rfl,E,_⟩;simp only[yr] at E;have I:Hid (Below (w.heap.size+1+1+1+1) ((((w.alloc (.cells #[.slice a n c] 43)).alloc (.cells #[.int .i64 (k:Int),.int .i64 u] 61)).alloc (.cells #[.slice none 0 0] 43)).alloc (.cells #[.int .i64 0,.int .i64 0] 61)) T):=E;have a5:=E.size;simp only[yr] at a5;obtain⟨l0,l1,l2,l3,l4,l5,l6,l7⟩:=zew E;have q0:w.heap.size<T.heap.size:=by omega
 have q1:w.heap.size+1<T.heap.size:=by omega
 have q2:w.heap.size+1+1<T.heap.size:=by omega
 have q3:w.heap.size+1+1+1<T.heap.size:=by omega
 clear E
 go_wp2_with fail
 refine ye (D1.out _ (HS.out.below (BW.out _ (I.out.alloc (by omega) _)))) ?_;rintro e w3 ⟨rfl,F⟩;simp only[yr] at F;have J:Hid (Below (w.heap.size+1+1+1+1) ((((w.alloc (.cells #[.slice a n c] 43)).alloc (.cells #[.int .i64 (k:Int),.int .i64 u] 61)).alloc (.cells #[.slice none 0 0] 43)).alloc (.cells #[.int .i64 0,.int .i64 0] 61)) w3):=(I.out.alloc (by omega) _).trans (F.mono (by omega));have a6:=F.size;simp only[yr] at a6;clear F l0 l1 l2 l3 l4 l5 l6 l7 q0 q1 q2 q3;obtain⟨l0,l1,l2,l3,l4,l5,l6,l7⟩:=zew J.out;have q0:w.heap.size<w3.heap.size:=by omega
 have q1:w.heap.size+1<w3.heap.size:=by omega
 have q2:w.heap.size+1+1<w3.heap.size:=by omega
 have q3:w.heap.size+1+1+1<w3.heap.size:=by omega
 have M:Hid _:=J
 go_wp2
 refine yv (v:=.tuple #[.agg #[.slice none 0 0],.agg #[.int .i64 0,.int .i64 0],.int .i64 6]) (by simp only[results,Tryz.results193];go_simp) rfl ⟨rfl,?_⟩;have D:=BW.out _ M.out;have Z:=M.out.size;simp only[yr] at Z
 first
  | exact((D.setCell (by simp;omega) _).setCell (by simp;omega) _).setCell (by simp;omega) _
  | exact(((D.setCell (by simp;omega) _).setCell (by simp;omega) _).setCell (by simp;omega) _).drew
  | exact(((D.alloc (by omega) _).setCell (by simp;omega) _).setCell (by simp;omega) _).setCell (by simp;omega) _
  | exact(((D.setCell (by simp;omega) _).setCell (by simp;omega) _).setCell (by simp;omega) _).alloc (by simp;omega) _
  | exact((((D.alloc (by omega) _).alloc (by simp;omega) _).setCell (by simp;omega) _).setCell (by simp;omega) _).setCell (by simp;omega) _
  | exact((((D.setCell (by simp;omega) _).setCell (by simp;omega) _).setCell (by simp;omega) _).alloc (by simp;omega) _).alloc (by simp;omega) _
theorem znK(a:Option Addr)(c:Nat)(S:List Nd)(k:Nat)(u E:Int)(cl:Bool)(w:World)(wf:WF S)(hS:zah w a S)(hk:k<S.length)(hE:zaC S k u=0)(hH:zfj S k=false)(hM:zfl S 0=E)(Z:E≠0) :
  yL 193 #[.agg #[.slice a S.length c],.agg #[.int .i64 (k:Int),.int .i64 u],.bool cl] w fun e w' => e=.returned (.tuple #[.agg #[.slice none 0 0],.agg #[.int .i64 0,.int .i64 0],.int .i64 E])/\Below w.heap.size w w' := by
 have hN:=wf.small;have D0:Hid (∀ W,zah W a S->Calls _ _ _ _ _):=fun W hW=>find_ok a c S k u W (by omega) wf.big hW hk hE (by have:=wf.kids_small hk;omega);have d1:=fun W hW=>zee a c S (k:Int) W (by omega) hW (by omega);rw[hH] at d1;have D1:Hid _:=d1;have D2:Hid (∀ W,zah W a S->Calls _ _ _ _ _):=fun W hW=>zpr a c S 0 E W (by omega) wf.big hW hM Z;have HS:Hid (zah w a S):=hS;have b0:(E == 0)=false:=by simp[Z]
 clear hS wf hE hH d1 hM;obtain⟨x0,a5⟩:∃ x,nd S k=x:=⟨_,rfl⟩;rw[a5] at D0;clear a5;generalize S.length=n at *;have BW:Hid (∀ W,Below (w.heap.size+1+1+1+1) ((((w.alloc (.cells #[.slice a n c] 43)).alloc (.cells #[.int .i64 (k:Int),.int .i64 u] 61)).alloc (.cells #[.slice none 0 0] 43)).alloc (.cells #[.int .i64 0,.int .i64 0] 61)) W->Below w.heap.size w W):=fun W h=>(zaH _ _ _ _ _).trans (h.mono (by omega))
 go_enter Tryz.func193,Tryz.ntmps193
 go_wp2_with fail
 refine ye (D0.out _ (HS.out.below (zaH _ _ _ _ _))) ?_;rintro e w2 ⟨fg,rfl,F,_⟩;simp only[yr] at F;have O:Hid (Below (w.heap.size+1+1+1+1) ((((w.alloc (.cells #[.slice a n c] 43)).alloc (.cells #[.int .i64 (k:Int),.int .i64 u] 61)).alloc (.cells #[.slice none 0 0] 43)).alloc (.cells #[.int .i64 0,.int .i64 0] 61)) w2):=F;have a7:=F.size;simp only[yr] at a7;obtain⟨l0,l1,l2,l3,l4,l5,l6,l7⟩:=zew F;have q0:w.heap.size<w2.heap.size:=by omega
 have q1:w.heap.size+1<w2.heap.size:=by omega
 have q2:w.heap.size+1+1<w2.heap.size:=by omega
 have q3:w.heap.size+1+1+1<w2.heap.size:=by omega
 clear F
 go_wp2_with fail
 refine ye (D1.out _ (HS.out.below (BW.out _ (O.out.alloc (by omega) _)))) ?_;rintro e w3 ⟨rfl,I⟩;simp only[yr] at I;have J:Hid (Below (w.heap.size+1+1+1+1) ((((w.alloc (.cells #[.slice a n c] 43)).alloc (.cells #[.int .i64 (k:Int),.int .i64 u] 61)).alloc (.cells #[.slice none 0 0] 43)).alloc (.cells #[.int .i64 0,.int .i64 0] 61)) w3):=(O.out.alloc (by omega) _).trans (I.mono (by omega));have a8:=I.size;simp only[yr] at a8;clear I l0 l1 l2 l3 l4 l5 l6 l7 q0 q1 q2 q3;obtain⟨l0,l1,l2,l3,l4,l5,l6,l7⟩:=zew J.out;have q0:w.heap.size<w3.heap.size:=by omega
 have q1:w.heap.size+1<w3.heap.size:=by omega
 have q2:w.heap.size+1+1<w3.heap.size:=by omega
 have q3:w.heap.size+1+1+1<w3.heap.size:=by omega
 go_wp2_with fail
 refine ye (D2.out _ (HS.out.below (BW.out _ J.out))) ?_;rintro e w4 ⟨rfl,M⟩;have T:Hid (Below (w.heap.size+1+1+1+1) ((((w.alloc (.cells #[.slice a n c] 43)).alloc (.cells #[.int .i64 (k:Int),.int .i64 u] 61)).alloc (.cells #[.slice none 0 0] 43)).alloc (.cells #[.int .i64 0,.int .i64 0] 61)) w4):=J.out.trans (M.mono (by omega));have a9:=M.size;clear M l0 l1 l2 l3 l4 l5 l6 l7 q0 q1 q2 q3;obtain⟨l0,l1,l2,l3,l4,l5,l6,l7⟩:=zew T.out;have q0:w.heap.size<w4.heap.size:=by omega
 have q1:w.heap.size+1<w4.heap.size:=by omega
 have q2:w.heap.size+1+1<w4.heap.size:=by omega
 have q3:w.heap.size+1+1+1<w4.heap.size:=by omega
 have U:Hid _:=T
 go_wp2
 refine yv (v:=.tuple #[.agg #[.slice none 0 0],.agg #[.int .i64 0,.int .i64 0],.int .i64 E]) (by simp only[results,Tryz.results193];go_simp) rfl ⟨rfl,?_⟩;have D:=BW.out _ U.out;have a6:=U.out.size;simp only[yr] at a6
 first
  | exact((D.setCell (by simp;omega) _).setCell (by simp;omega) _).setCell (by simp;omega) _
  | exact(((D.setCell (by simp;omega) _).setCell (by simp;omega) _).setCell (by simp;omega) _).drew
  | exact(((D.alloc (by omega) _).setCell (by simp;omega) _).setCell (by simp;omega) _).setCell (by simp;omega) _
  | exact(((D.setCell (by simp;omega) _).setCell (by simp;omega) _).setCell (by simp;omega) _).alloc (by simp;omega) _
  | exact((((D.alloc (by omega) _).alloc (by simp;omega) _).setCell (by simp;omega) _).setCell (by simp;omega) _).setCell (by simp;omega) _
  | exact((((D.setCell (by simp;omega) _).setCell (by simp;omega) _).setCell (by simp;omega) _).alloc (by simp;omega) _).alloc (by simp;omega) _
def rS(E:Int)(T:List Nd):List Nd:=if E=0 then T else []
def rH(E:Int)(h:Int × Int):Int × Int:=if E=0 then h else (0,0)
theorem zhM{T:List Nd}:rS 0 T=T:=rfl
theorem zjt{E:Int}{T:List Nd}(h:E≠0):rS E T=[]:=ya h
theorem zwJ{E:Int}{T:Int × Int}(h:E≠0):rH E T=(0,0):=ya h
theorem zdJ(W:World):zah W none []:=fun _ hi=>absurd hi (yw _)
abbrev znE(f:Nat)(S T:List Nd)(more:Array Value)(E:Int):Prop:=∀ (a:Option Addr) (c:Nat) W,zah W a S ->
 yL f (#[.agg #[.slice a S.length c]] ++ more) W fun e w' => ∃ D F,e=.returned (.tuple #[.agg #[.slice D T.length F],.int .i64 E])/\Below W.heap.size W w' /\ St (fun b=>b<W.heap.size) (fun V=>zah V D T) w'
theorem zyH{w' : World}{a:Option Addr}{T:List Nd}{B g:Nat}(hg:B<=g)(hn:∀ w3:World,(∀ b,g<=b->w3.heap[b]?=w'.heap[b]?)->zah w3 a T):St (fun b=>b<B) (fun V=>zah V a T) w' := fun V E=>by
 have e:∀ b,b<w'.heap.size->(V.heap.extract 0 w'.heap.size)[b]?=V.heap[b]?:=fun b F=>by
  have:=E.size;simp[Array.getElem?_extract];omega
 have h:=hn { V with heap:=V.heap.extract 0 w'.heap.size } (fun b F=>by
  show (V.heap.extract 0 w'.heap.size)[b]?=w'.heap[b]?;by_cases h1:b<w'.heap.size
  ·rw[e b h1];exact E.block b h1 (by show ¬ b<B;omega)
  ·rw[Array.getElem?_eq_none (by simp;omega),Array.getElem?_eq_none (by omega)])
 have D:(V.heap.extract 0 w'.heap.size).size=w'.heap.size:=by have:=E.size;simp;omega
 exact h.below ⟨rfl,rfl,rfl,by show (V.heap.extract 0 w'.heap.size).size<=_;rw[D];exact E.size,fun b F=>(e b (by rw[<- D];exact F)).symm⟩
abbrev hdV(h:Int × Int):Value:=.agg #[.int .i64 h.1,.int .i64 h.2]
def zuX(f:Nat):Prop:=∀ (S:List Nd) (h:Int × Int),WF S->znE f S (rS (zsM S h.1 h.2) (S.set h.1.toNat (zcV (nd S h.1.toNat)))) #[hdV h] (zsM S h.1 h.2)
def zqd(f:Nat):Prop:=∀ (S:List Nd) (h:Int × Int),WF S->znE f S (rS (zzW S h.1 h.2) (leaveG S h.1.toNat)) #[hdV h] (zzW S h.1 h.2)
def zqa(f:Nat):Prop:=∀ (S:List Nd) (h g:Int × Int) (hs:List (Int × Int)) (ha:Option Addr) (hc:Nat),WF S->hs.length<=1->∀ (a:Option Addr) (c:Nat) W,zah W a S->zaw W ha hs ->
 yL f #[.agg #[.slice a S.length c],hdV h,hdV g,.slice ha hs.length hc] W fun e w' => ∃ D E,e=.returned (.tuple #[.agg #[.slice D (rS (zjS S h.1 h.2 g.1 g.2 hs) (zpm S h.1 g.1 hs)).length E],.int .i64 (zjS S h.1 h.2 g.1 g.2 hs)])/\Below W.heap.size W w' /\ St (fun b=>b<W.heap.size) (fun V=>zah V D (rS (zjS S h.1 h.2 g.1 g.2 hs) (zpm S h.1 g.1 hs))) w'
def zuW(f:Nat):Prop:=∀ (S:List Nd) (h:Int × Int) (t m:Int) (qa:Option Addr) (qc:Nat),WF S->∀ (a:Option Addr) (c:Nat) W,zah W a S->zci W qa [⟨t,m,false⟩] ->
 yL f #[.agg #[.slice a S.length c],hdV h,.slice qa 1 qc] W fun e w' => ∃ D E n,e=.returned (.tuple #[.slice D n E,.int .i64 (zxP S h.1 h.2 [⟨t,m,false⟩])])/\Below W.heap.size W w' /\ n=if zxP S h.1 h.2 [⟨t,m,false⟩]=0 then (zgR S h.1.toNat [⟨t,m,false⟩]).length else 0
def zxB(f:Nat):Prop:=∀ (S:List Nd) (h:Int × Int),WF S->∀ (a:Option Addr) (c:Nat) W,zah W a S ->
 yL f #[.agg #[.slice a S.length c],hdV h] W fun e w' => ∃ D E n,e=.returned (.tuple #[.slice D n E,.int .i64 (zaC S h.1 h.2)])/\Below W.heap.size W w' /\ n=if zaC S h.1 h.2=0 then (ziV S h.1.toNat).length else 0
theorem zfy(S:List Nd)(p u:Int):zbd S [(p,u)]=zaC S p u:=by
 unfold zbd zaC zfd zfd;by_cases h:zda S p u=0
 ·simp[h]
 ·simp[h]
theorem zxv{S:List Nd}(wf:WF S){D:Nat}(hch:D<S.length):(nd S D).p = -1\/∃ E:Nat,E<S.length/\E≠D/\(nd S D).p=E:=by
 by_cases e:(nd S D).p = -1
 ·exact Or.inl e
 ·obtain⟨E,F,g1,g2,_⟩:=wf.parent_place hch e;exact Or.inr ⟨E,g1,g2,F⟩
theorem zdz{S:List Nd}(wf:WF S):∀ i,i<S.length->(nd S i).ks.length<=1000:=fun i hi=>by have:=wf.kids_small hi;omega
theorem zvD:zuX 167:=fun S h wf a c W I=>by
 obtain⟨P,U⟩:=h;dsimp only[hdV];have M:S.length<=9223372036854775807:=by have:=wf.small;omega
 unfold zsM;by_cases D:zaC S P U=0
 ·rw[yb D];obtain⟨_,k,e,J,T,O⟩:=zcC D;subst e;rw[yi];by_cases hl:zfX S k
  ·rw[yb hl,zhM];refine(zye a c S k U W wf.small (zdz wf) I J D hl).mono (fun e w' ⟨g,E,F,hg,hn⟩=>⟨some ⟨g,0,none⟩,S.length,?_,F,zyH hg hn⟩);rw[E,List.length_set]
  ·rw[ya hl,zjt (by decide)];exact(zsN a c S k U W M wf.big I J D (by have:=zdz wf k J;omega) hl).mono (fun e w' ⟨E,F⟩=>⟨none,0,E,F,fun V _=>zdJ V⟩)
 ·rw[ya D,zjt D];exact(zvE a c S P U _ W M wf.big I rfl D).mono (fun e w' ⟨E,F⟩=>⟨none,0,E,F,fun V _=>zdJ V⟩)
theorem zrl:zqd 168:=fun S h wf a c W J=>by
 obtain⟨P,U⟩:=h;dsimp only[hdV];have Z:S.length<=9223372036854775807:=by have:=wf.small;omega
 unfold zzW;by_cases D:zaC S P U=0
 ·rw[yb D];obtain⟨_,k,e,M,hu,a5⟩:=zcC D;subst e;rw[yi];have hT:zbd S [((k:Int),U)]=0:=(zfy _ _ _).trans D;rcases zxv wf M with hp |⟨p0,O,T,I⟩
  ·rw[yb hp,zjt (by decide)];exact(zoL a c S k U W Z wf.big J hT M hp).mono (fun e w' ⟨E,F⟩=>⟨none,0,E,F,fun V _=>zdJ V⟩)
  ·have hG:leaveG S k=zbG S p0 k:=(by unfold leaveG;rw[ya (by omega),I,yi]);rw[ya (by omega),zhM,hG];refine(zuq a c S k p0 U W wf.small wf.big J hT M O T I (zdz wf)).mono (fun e w' ⟨g,E,F,hg,hn⟩=>⟨some ⟨g,0,none⟩,S.length,?_,F,zyH hg hn⟩);rw[E,zbJ]
 ·rw[ya D,zjt D];exact(zrm a c S P U _ W Z wf.big J (zfy _ _ _) D).mono (fun e w' ⟨E,F⟩=>⟨none,0,E,F,fun V _=>zdJ V⟩)
theorem zxa{S:List Nd}{P J C E:Int}{hs:List (Int × Int)}(wf:WF S)(hm:hs.length<=1):zrK S (rS (zjS S P J C E hs) (zpm S P C hs)) P C E hs (zbd S ((P,J) ::(C,E) :: hs)) (zjS S P J C E hs):=by
 by_cases F:zbd S ((P,J) ::(C,E) :: hs)=0
 ·obtain⟨_,O⟩:=zuF F;obtain⟨pa,e1,hpa,hpu,a9⟩:=O (P,J) (by simp);obtain⟨T,e2,hch,hcu,a6⟩:=O (C,E) (by simp);dsimp only at e1 e2 a9 a6;subst e1;subst e2;have hK:=zdz wf;refine .inr ⟨pa,T,rfl,rfl,F,wf.small,hpa,hch,fun Z=>?_,fun Z=>⟨fun h hh=>?_,?_⟩⟩
  ·have e:zjS S pa J T E hs=6:=(by unfold zjS;rw[yb F,yi,yi,ya (by rw[Z];decide)]);rw[e];exact⟨rfl,zjt (by decide)⟩
  ·obtain⟨q,e,hq,_⟩:=O h (by simp[hh]);exact⟨q,e,hq⟩
  ·have pt:zyW S pa T:=⟨wf,hpa,hch,hpu,hcu,Z⟩;obtain⟨f1,f2,f3⟩:=zkE Z;have hl:=zbl S T;have a5:=zxv wf hch;unfold zjS zpm;rw[yb F];simp only[yi];rw[yb Z]
   match hs,hm,F,O with
   | [],_,F,O =>
    exact⟨fun⟨h,hh,_⟩=>(by cases hh),fun _=>⟨rfl,hK,by rw[zhM,zbt,hl],.inr ⟨by simp,f2,a5,(nd (leaveG S T) pa).ks.length,rfl,by omega,zhM⟩⟩⟩
   | [(Q,qu)],_,F,O =>
    obtain⟨q,e3,hq,b3,b0⟩:=O (Q,qu) (by simp);dsimp only at e3 b0;subst e3;dsimp only;rw[yi]
    have I:∀ h ∈ [((q:Int),qu)],(nd S h.1.toNat).p=(nd S q).p:=fun h hh=>by
     have:h=((q:Int),qu):=(by simpa using hh);subst this;rw[yi]
    by_cases D:(nd S q).p=pa
    ·rw[yb D,zhM];refine⟨fun⟨h,hh,a8⟩=>absurd ((I h hh).trans D) a8,fun _=>?_⟩;by_cases M:q=T
     ·subst M;have a7:E=qu:=(by omega);subst a7;rw[yb rfl];exact⟨rfl,hK,rfl,.inl ⟨List.mem_singleton.2 rfl,rfl⟩⟩
     ·rw[ya (by omega)];obtain⟨at', U,b1,b2⟩:=pt.ahead hq D M;rw[U,yi];exact⟨rfl,hK,by rw[zbt,hl],.inr ⟨fun e=>M (by have:=congrArg Prod.fst (List.mem_singleton.1 e);simp at this;omega),f2,a5,at', U,by omega,rfl⟩⟩
    ·rw[ya D];exact⟨fun _=>⟨rfl,zjt (by decide)⟩,fun h=>absurd ((I _ (List.mem_singleton.2 rfl)).symm.trans (h _ (List.mem_singleton.2 rfl))) D⟩
   | _ :: _ :: _,h,_,_=>exact absurd h (by simp)
 ·have e:zjS S P J C E hs=zbd S ((P,J) ::(C,E) :: hs):=by unfold zjS;rw[ya F]
  exact .inl ⟨F,e,by rw[e,zjt F]⟩
theorem zkH:zqa 192:=fun S h g hs ha hc wf D a c W M J =>
 (zqG a c S h.1 g.1 h.2 g.2 ha hc hs _ _ _ W (by have:=wf.small;omega) wf.big M J D rfl (zxa wf D)).mono (fun e w' ⟨E,F,I,O,hn⟩=>⟨E,F,I,O,zyH (yj _) hn⟩)
theorem zsz:zuW 189:=fun S h t m qa qc wf a c W J M=>by
 obtain⟨P,U⟩:=h;dsimp only[hdV];have Z:S.length<=9223372036854775807:=by have:=wf.small;omega
 unfold zxP;by_cases D:zaC S P U=0
 ·rw[yb D];obtain⟨_,k,e,O,hu,a5⟩:=zcC D;subst e;rw[yi];by_cases I:zfw [⟨t,m,false⟩]=0
  ·rw[I,yb rfl];exact(zwH a c S k U qa qc [⟨t,m,false⟩] W wf O hu ((zfy _ _ _).trans D) J M I).mono (fun e w' ⟨T,fc,E,F,hi,_⟩=>⟨T,fc,_,E,F,rfl⟩)
  ·rw[ya I];exact(zuj a c S k U _ qa qc [⟨t,m,false⟩] W wf O ((zfy _ _ _).trans D) J (by simp) M rfl I).mono (fun e w' ⟨E,F⟩=>⟨none,0,0,E,F,rfl⟩)
 ·rw[ya D,ya D];exact(zuk a c S P U _ _ W Z wf.big J (zfy _ _ _) D).mono (fun e w' ⟨E,F⟩=>⟨none,0,0,E,F,rfl⟩)
theorem zvB:zxB 190:=fun S h wf a c W I=>by
 obtain⟨P,U⟩:=h;dsimp only[hdV];have J:S.length<=9223372036854775807:=by have:=wf.small;omega
 by_cases D:zaC S P U=0
 ·obtain⟨_,k,e,M,T,O⟩:=zcC D;subst e;rw[yi,D,yb rfl];exact(zyc a c S k U W wf I M D).mono (fun e w' ⟨sa,sc,E,F,hi⟩=>⟨sa,sc,_,E,F,rfl⟩)
 ·rw[ya D];exact(zvC a c S P U _ W J wf.big I rfl D).mono (fun e w' ⟨E,F⟩=>⟨none,0,0,E,F,rfl⟩)
def zAl:Ac:=⟨0,0,0,0,0⟩
def ac(X:List Ac)(i:Nat):Ac:=X.getD i zAl
def zbE(w:World)(a:Option Addr)(X:List Ac):Prop :=
 ∀ i,i<X.length->∃ b o,a=some ⟨b,o,none⟩/\w.cell? ⟨b,o+i*5,none⟩=some (.int .i64 (ac X i).k)/\w.cell? ⟨b,o+i*5+1,none⟩=some (.int .i64 (ac X i).a)/\w.cell? ⟨b,o+i*5+2,none⟩=some (.int .i64 (ac X i).b)/\w.cell? ⟨b,o+i*5+3,none⟩=some (.int .i64 (ac X i).c)/\w.cell? ⟨b,o+i*5+4,none⟩=some (.int .i64 (ac X i).n)
theorem zbE.below{w w' : World}{a:Option Addr}{X:List Ac}(h:zbE w a X)(D:Below w.heap.size w w'):zbE w' a X:=fun i hi=>by
 obtain⟨b,o,e,c0,c1,c2,c3,c4⟩:=h i hi;exact⟨b,o,e,zab c0 D,zab c1 D,zab c2 D,zab c3 D,zab c4 D⟩
def zxA(f:Nat):Prop:=∀ (S:List Nd) (p u:Int) (a:Option Addr) (c:Nat) (W:World),WF S->zah W a S ->
 yL f #[.agg #[.slice a S.length c],.agg #[.int .i64 p,.int .i64 u]] W fun e w' => ∃ (x:Nd) (ka:Option Addr) (kl kc:Nat),e=.returned (.tuple #[.agg #[.bool x.u,.int .i64 x.n,.int .i64 x.t,.int .i64 x.m,.int .i64 x.p,.slice ka kl kc,.int .i64 x.h,.bool x.c],.int .i64 (zaC S p u)])/\Below W.heap.size W w' /\(zaC S p u=0->x=nd S p.toNat)/\(zaC S p u≠0->x=zhj)
theorem zeC:zxA 14:=fun S p u a c W wf J=>by
 have I:S.length<=9223372036854775807:=by have:=wf.small;omega
 by_cases D:zaC S p u=0
 ·obtain⟨_,k,e,M,T,O⟩:=zcC D;subst e;rw[yi,D];exact(find_ok a c S k u W I wf.big J M D (by have:=zdz wf k M;omega)).mono (fun e w' ⟨g,E,F,hi⟩=>⟨nd S k,_,_,_,E,F,fun _=>rfl,fun h=>absurd rfl h⟩)
 ·exact(ziB a c S p u _ W I wf.big J rfl D).mono (fun e w' ⟨E,F⟩=>⟨zhj,_,_,_,E,F,fun h=>absurd h D,fun _=>rfl⟩)
theorem zwY(k:Int)(n:Nat)(hn:0<n):-(n:Int)<k.tmod n/\k.tmod n<n:=by
 have h1:=Int.tmod_lt_of_pos k (b:=(n:Int)) (by omega);have D:=Int.tmod_lt_of_pos (-k) (b:=(n:Int)) (by omega);rw[Int.neg_tmod] at D;omega
theorem zsd(k:Int)(n:Nat)(hn:0<n)(J:n<=1000):∃ p:Nat,p<n/\∀ w:World,
  yL 11 #[.int .i64 k,.int .i64 n] w fun e w' => e=.returned (.int .i64 (p:Int))/\w' = w:=by
 obtain⟨F,I⟩:=zwY k n hn;generalize M:k.tmod (n:Int)=r at F I;by_cases h:r<0
 ·obtain⟨p,D⟩:∃ p:Nat,(p:Int)=r+n:=⟨(r+n).toNat,by omega⟩;refine⟨p,by omega,fun w=>?_⟩;have E:Hid ((p:Int)=r+n):=D;clear D
  go_enter Tryz.func11,Tryz.ntmps11
  go_wp2
  go_ret;exact⟨by rw[E.out];rfl,rfl⟩
 ·obtain⟨p,D⟩:∃ p:Nat,(p:Int)=r:=⟨r.toNat,by omega⟩;refine⟨p,by omega,fun w=>?_⟩;have E:Hid ((p:Int)=r):=D;clear D
  go_enter Tryz.func11,Tryz.ntmps11
  go_wp2
  go_ret;exact⟨by rw[E.out];rfl,rfl⟩
theorem zbg{W:World}{b t:Nat}{D v1:Value}(h:W.heap[b]?=some (.cells #[D,v1] t (0,0))):W.cell? ⟨b,0,none⟩=some D/\W.cell? ⟨b,1,none⟩=some v1/\b<W.heap.size :=
 ⟨by simp[World.cell?,h],by simp[World.cell?,h],zau h⟩
def SlA(a:Option Addr)(n c:Nat):Prop:=(a=none->c=0)/\n<=c/\c<=9223372036854775807
def zrL:Prop:=∀ (a:Option Addr) (c:Nat) (L:List Pt) (Fr:Int) (w:World),L.length<=9223372036854775807->zrF L->SlA a L.length c->zdr w a L ->
 yL 37 #[.slice a L.length c,.int .i64 Fr] w fun e w' => e=.returned (.int .i64 (zbf L Fr))/\Below w.heap.size w w'
def zAr(C:List (List Cl)):Prop:=C.length<=17/\∀ j,j<C.length->Right (gr C j)
def zxC(L:List Pt):Prop:=L.length<=100/\∀ i,i<L.length->zAr (pt L i).cm
theorem zqw{L:List Pt}{F:Int}(R:zds L F):zxC L:=⟨by have:=R.few;omega,fun i hi=>by
 obtain⟨_,_,_,_,h5,D⟩:=zbm.1 (R.ok i hi);exact⟨by omega,zcj.1 D⟩⟩
theorem zxC.big{L:List Pt}(h:zxC L):zrF L:=fun i hi=>by
 obtain⟨h1,D⟩:=h.2 i hi;exact⟨by omega,fun j E=>⟨by have:=(D j E).few;omega,(D j E).big⟩⟩
def Q1:List Pt:=[⟨1,0,1,[],false⟩,⟨1,0,0,[],false⟩]
def Q2:List Pt:=[⟨1,0,1,[],false⟩,⟨1,0,0,[[⟨5,[]⟩]],false⟩]
structure ECl where
 n:Int
 ka:Option Addr
 kl:Nat
 kc:Nat
def zxR(x:ECl):Nat->Value
 | 0=>.int .i64 x.n
 | _=>.slice x.ka x.kl x.kc
theorem zxq(n:Nat)(hn:n<=100000)(w:World):(Instr.makeSlice 45 (.int .i64 (n:Int)) (.int .i64 (n:Int))).run Tryz.prog w=.ok (.slice (some ⟨w.heap.size,0,none⟩) n n) (w.alloc (.cells (madeCells #[.int .i64 0,.slice none 0 0] (n*2)) 55)):=by
 have I:(Tryz.prog.info? 55).map (fun i=>(i.zero,i.size,i.bytes))=some (some (.agg #[.int .i64 0,.slice none 0 0]),2,32):=by kernel_rfl
 obtain⟨i,hi,D,E,F⟩:=info_parts I;have h:=run_make (P:=Tryz.prog) w 45 55 i _ Tryz.underlying45 hi D .i64 .i64 n n (by omega) (by omega) (by rw[F];omega) (by omega);rw[E] at h;simp only[yi] at h;exact h
theorem zaA.putCl{w:World}{g n k:Nat}{F:Nat->Value}(h:w.rowIs g 55 (n*2) F)(x:ECl):∃ D,((w.setCell ⟨g,k*2,none⟩ (.int .i64 x.n)).setCell ⟨g,k*2+1,none⟩ (.slice x.ka x.kl x.kc)).rowIs g 55 (n*2) D/\(∀ j,j<2->D (k*2+j)=zxR x j)/\∀ i,i<k->∀ j,j<2->D (i*2+j)=F (i*2+j):=by
 refine⟨_,(h.set _ _).set _ _,fun j E=>?_,fun i hi j E=>?_⟩
 ·rcases(by omega:j=0\/j=1) with rfl|rfl
  ·rw[ya (by omega),yb (by omega)];rfl
  ·rw[yb rfl];rfl
 ·rw[ya (by omega),ya (by omega)]
theorem zzl(K:Nat)(eg:∀ args w,(callFunc K args).run Tryz.prog w=.ok (.enter K args) w)(a:Option Addr)(c n:Nat)(S:Nat->ECl)(R:Nat->ECl->Nat->Nat->World->Prop)(w:World)(hn:n<=100000)
  (hs:∀ i,i<n->∃ b o,a=some ⟨b,o,none⟩/\w.cell? ⟨b,o+i*2,none⟩=some (.int .i64 (S i).n)/\w.cell? ⟨b,o+i*2+1,none⟩=some (.slice (S i).ka (S i).kl (S i).kc))
  (hK:∀ i,i<n->∀ W,Below w.heap.size w W->yL K #[.agg #[.int .i64 (S i).n,.slice (S i).ka (S i).kl (S i).kc]] W fun e U=>∃ y:ECl,e=.returned (.agg #[.int .i64 y.n,.slice y.ka y.kl y.kc])/\Below W.heap.size W U/\St (fun b=>b<W.heap.size\/U.heap.size<=b) (R i y W.heap.size U.heap.size) U) :
  yL 134 #[.slice a n c,.func (.func K) #[] #[]] w fun e w' => e=.returned (.slice (some ⟨w.heap.size,0,none⟩) n n)/\Below w.heap.size w w' /\ zaA zxR 55 2 n R w.heap.size n w' := by
 have HS:Hid _:=hs;have HK:Hid _:=hK;clear hs hK;have b3:=zxq n hn
 go_enter Tryz.func134,Tryz.ntmps134
 go_wp2
 go_loopg [13] n (fun m s13 wr=>∃ k:Nat,k<=n/\n-k<=m/\s13=.int .i64 k/\Below w.heap.size w wr/\Hid (zaA zxR 55 2 n R w.heap.size k wr))
 case atStart=>exact⟨0,by omega,by omega,rfl,zaa _ _,zaA.zero w _ 55 2 n R (S 0)⟩
 case round =>
  obtain⟨k,hk,hg,rfl,I,O⟩:=hrel;by_cases M:k<n
  ·have b0:(k:Int)<(n:Int):=(by omega);obtain⟨b,o,rfl,c0,c1⟩:=HS.out k M;replace c0:=zab c0 I;replace c1:=zab c1 I;have b1:b<wr.heap.size:=yd _ _ c0;obtain⟨E,a5,F,Z⟩:=O.out.facts;have D:Hid (∀ W,Below wr.heap.size wr W->Calls _ _ _ _ _):=fun W hW=>HK.out k M W (I.trans (hW.mono I.size));generalize S k=x at *;obtain⟨xn,b4,b6,b5⟩:=x;dsimp only at c0 c1 D
   go_wp2_with (go_at_fn K;refine(D.out _ ?nd).mono ?_;(case nd=>exact zaa _ _);rintro e w3 ⟨⟨yn,a6,a8,a7⟩,rfl,J,h3⟩;have HR:Hid _:=h3;clear h3;have T:Hid (Below wr.heap.size wr w3):=(zaa _ _).trans (J.mono (by simp));have s3:Hid (wr.heap.size<=w3.heap.size):=T.out.size;have SZ:Hid _:=J.size;clear J;have q0:=(T.out.cell (by exact E)).trans (Z (k*2) (by omega));have q1:=(T.out.cell (by exact E)).trans (Z (k*2+1) (by omega));have a9:=fun o=>(T.out.frozen (by exact E)).trans (a5 o);have b2:w.heap.size<w3.heap.size:=yx E s3.out)
   go_roundg (n-(k+1))
   case measure=>omega
   case rel =>
    refine⟨k+1,by omega,by omega,by go_num,(((I.trans (T.out.mono I.size)).setCell (by simp) _).setCell (by simp) _),zaA.step O.out M T.out (by simp) ?_ HR.out rfl (((zar.refl (fun b=>b=w.heap.size) _).trans (zar.set (X:=fun b=>b=w.heap.size) _ _ rfl)).trans (zar.set (X:=fun b=>b=w.heap.size) _ _ rfl)) (fun F Z=>zaA.putCl Z ⟨yn,a6,a8,a7⟩)⟩;have:=SZ.out;simpa using this
  ·have:k=n:=(by omega);subst this
   go_wp2
   go_ret;exact⟨rfl,I,O.out⟩
def RCl(G:List Cl)(i:Nat)(y:ECl)(lo hi:Nat)(V:World):Prop:=y.n=(cl G i).n/\y.kl=(cl G i).ks.length/\zal V y.ka (cl G i).ks
theorem zvi{w:World}{g:Nat}{G:List Cl}(h:zaA zxR 55 2 G.length (RCl G) g G.length w):zaF w (some ⟨g,0,none⟩) G:=fun i hi=>by
 obtain⟨v,_,_,F,D,O⟩:=h;obtain⟨h1,_,_,_,_,J⟩:=O i hi;obtain⟨E,I,M⟩:=J.at;refine⟨g,0,rfl,?_⟩;rw[yz];refine⟨(D.cell (by omega)).trans ?_,(v i).ka,(v i).kc,(D.cell (by omega)).trans ?_,M⟩
 ·rw[<- E];exact congrArg some (h1 0 (by omega))
 ·rw[<- I];exact congrArg some (h1 1 (by omega))
theorem zsk(n:Int)(ka:Option Addr)(kc:Nat)(ks:List Int)(w:World)(hk:ks.length<=1000)(M:zal w ka ks) :
  yL 135 #[.agg #[.int .i64 n,.slice ka ks.length kc]] w fun e w' => ∃ g,e=.returned (.agg #[.int .i64 n,.slice (some ⟨g,0,none⟩) ks.length ks.length])/\Below w.heap.size w w' /\ w.heap.size<=g/\w'.rowIs g 3 ks.length (fun j=>.int .i64 (ks.getD j 0)):=by
 have D:Hid (∀ W,Below w.heap.size w W->Calls _ _ _ _ _):=fun W hW=>zfc ka kc ks W (by omega) (M.below hW);clear M hk;obtain⟨l,hl⟩:∃ l,ks.length=l:=⟨_,rfl⟩;rw[hl] at D |-;clear hl
 go_enter Tryz.func135,Tryz.ntmps135
 go_wp2_with fail
 obtain⟨V,I⟩:∃ V,(w.alloc (.cells #[.int .i64 n,.slice ka l kc] 55)).alloc (.cells #[.int .i64 0,.slice none 0 0] 55)=V:=⟨_,rfl⟩;have Z:V.cell? ⟨w.heap.size,0,none⟩=some (.int .i64 n):=by rw[<- I];exact zaM _ _ _ 0 _ rfl
 have v1:V.cell? ⟨w.heap.size,1,none⟩=some (.slice ka l kc):=by rw[<- I];exact zaM _ _ _ 1 _ rfl
 have z0:V.cell? ⟨w.heap.size+1,0,none⟩=some (.int .i64 0):=by rw[<- I];exact zaN _ _ _ 0 _ rfl
 have z1:V.cell? ⟨w.heap.size+1,1,none⟩=some (.slice none 0 0):=by rw[<- I];exact zaN _ _ _ 1 _ rfl
 have zf:∀ o,V.frozen? ⟨w.heap.size+1,o,none⟩=false:=fun o=>by rw[<- I];exact ziL _ _ _ _ _
 have T:Hid (Below w.heap.size w V):=by rw[<- I];exact zam _ _ _
 have sV:w.heap.size+1<V.heap.size:=yd _ _ z0;have a5:w.heap.size<V.heap.size:=yd _ _ Z;rw[I];clear I
 go_region_held3 (fun O=>O.cell? ⟨w.heap.size,0,none⟩=some (.int .i64 n)/\O.cell? ⟨w.heap.size,1,none⟩=some (.slice ka l kc)) (go_keep) (first|(go_at_call 85;refine ye (D.out _ ?nd) ?_;(case nd=>exact T.out.drew);rintro e w3 ⟨rfl,J,F⟩;have E:Hid (Below V.heap.size V w3):=(yk V.heap.size V).drew.trans J;have U:Hid (Below w.heap.size w w3):=T.out.trans (E.out.mono T.out.size);have HR:Hid (w3.rowIs V.heap.size 3 l (fun j=>.int .i64 (ks.getD j 0))):=F;have u0:=zab Z E.out;have u1:=zab v1 E.out;have q0:=zab z0 E.out;have q1:=zab z1 E.out;have fz:=fun o=>(E.out.frozen (show (⟨w.heap.size+1,o,none⟩:Addr).block<V.heap.size from sV)).trans (zf o);have s3:V.heap.size<w3.heap.size:=World.rowIs.lt F;clear J F))
 go_wp2
 refine yv (v:=.agg #[.int .i64 n,.slice (some ⟨V.heap.size,0,none⟩) l l]) (by simp[results,Tryz.results135,go_sem,q0,q1]) rfl ⟨V.heap.size,rfl,(U.out.setCell (by simp) _).setCell (by simp) _,T.out.size,(HR.out.setOther (by simp;omega) _).setOther (by simp;omega) _⟩
theorem zql(a:Option Addr)(c:Nat)(G:List Cl)(w:World)(U:G.length<=1000)(hK:∀ i,i<G.length->(cl G i).ks.length<=1000)(J:zaF w a G) :
  yL 134 #[.slice a G.length c,.func (.func 135) #[] #[]] w fun e w' => e=.returned (.slice (some ⟨w.heap.size,0,none⟩) G.length G.length)/\Below w.heap.size w w' /\ zaA zxR 55 2 G.length (RCl G) w.heap.size G.length w' := by
 obtain⟨f,I⟩:=Classical.skolem.1 (fun i=>show ∃ x:Option Addr × Nat,i<G.length->(∃ b o,a=some ⟨b,o,none⟩/\w.cell? ⟨b,o+i*2,none⟩=some (.int .i64 (cl G i).n)/\w.cell? ⟨b,o+i*2+1,none⟩=some (.slice x.1 (cl G i).ks.length x.2))/\zal w x.1 (cl G i).ks by
  by_cases hi:i<G.length
  ·obtain⟨b,o,e,c0,ka,kc,c1,D⟩:=J i hi;exact⟨(ka,kc),fun _=>⟨⟨b,o,e,c0,c1⟩,D⟩⟩
  ·exact⟨(none,0),fun h=>absurd h hi⟩)
 refine zzl 135 (yJ Tryz.func135 (by kernel_rfl) rfl) a c G.length (fun i=>⟨(cl G i).n,(f i).1,(cl G i).ks.length,(f i).2⟩) (RCl G) w (by omega) (fun i hi=>(I i hi).1) (fun i hi W M=>?_);refine(zsk (cl G i).n (f i).1 (f i).2 (cl G i).ks W (hK i hi) ((I i hi).2.below M)).mono ?_;rintro e w' ⟨g,rfl,O,hg,E⟩;refine⟨⟨(cl G i).n,some ⟨g,0,none⟩,(cl G i).ks.length,(cl G i).ks.length⟩,rfl,O,fun Z T=>⟨rfl,rfl,zgX (E.of_block (T.block g E.lt (fun F=>?_)))⟩⟩;have:=E.lt;rcases F with F|F <;> omega
theorem zht(a:Option Addr)(c:Nat)(G:List Cl)(w:World)(Z:G.length<=1000)(hK:∀ i,i<G.length->(cl G i).ks.length<=1000)(I:zaF w a G) :
  yL 104 #[.agg #[.slice a G.length c]] w fun e w' => ∃ g,e=.returned (.agg #[.slice (some ⟨g,0,none⟩) G.length G.length])/\Below w.heap.size w w' /\ w.heap.size<=g/\St (fun b=>b<w.heap.size\/w'.heap.size<=b) (fun V=>zaF V (some ⟨g,0,none⟩) G) w' := by
 have D:Hid (∀ J M,Calls _ _ _ _ _):=fun J M=>zql a c G ((w.alloc J).alloc M) Z hK (I.below (zam _ _ _));have T:Hid (∀ V:World,zaA zxR 55 2 G.length (RCl G) (w.heap.size+1+1) G.length V->St (fun b=>b<w.heap.size\/V.heap.size<=b) (fun V=>zaF V (some ⟨w.heap.size+1+1,0,none⟩) G) V):=fun V h=>(h.st (by omega) (yj _)).imp (fun V h=>zvi h);clear I hK;simp only[yr] at D;generalize G.length=n at *
 go_enter Tryz.func104,Tryz.ntmps104
 go_wp2_with (go_at_call 134;refine(D.out _ _).mono ?_;rintro e w3 ⟨rfl,E,F⟩;have U:Hid (zaA zxR 55 2 n (RCl G) (w.heap.size+1+1) n w3):=F;clear F;have y1:w3.cell? ⟨w.heap.size+1,0,none⟩=some (.slice none 0 0):=(E.cell (by simp)).trans (by go_simp);have y2:∀ o,w3.frozen? ⟨w.heap.size+1,o,none⟩=false:=fun o=>(E.frozen (by simp)).trans (by go_simp);have O:Hid (Below w.heap.size w w3):=(zam _ _ _).trans (E.mono (by omega));clear E)
 refine yv (v:=.agg #[.slice (some ⟨w.heap.size+1+1,0,none⟩) n n]) (by simp[results,Tryz.results104,go_sem,y1]) rfl ⟨w.heap.size+1+1,rfl,O.out.setCell (by simp) _,by omega,T.out _ (U.out.set (by omega) _)⟩
end Go.Proofs.YtcbcpomacdngmaaGreat
