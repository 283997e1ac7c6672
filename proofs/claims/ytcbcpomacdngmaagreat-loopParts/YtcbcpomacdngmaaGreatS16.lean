/-
  x
-/
import Derived.Test.YtcbcpomacdngmaaGreatS15
import Derived.Deep.RegionWith
namespace Go.Proofs.YtcbcpomacdngmaaGreat
set_option maxRecDepth 100000
set_option maxHeartbeats 4000000
set_option linter.unusedVariables false
open Go.RowKit
theorem znW{B:Nat}{w w' : World}(h:Below B w w')(n:Nat):Below B w (w'.drewN n):=⟨h.os,h.tape,h.output,h.size,h.block⟩
structure RA where
 a0:Option Addr
 a1:Option Addr
 a2:Option Addr
 a3:Option Addr
 c0:Nat
 c1:Nat
 c2:Nat
 c3:Nat
def zcZ(w:World)(A:RA)(R:Rl):Prop:=zai w A.a0 R.s/\zas w A.a1 R.hs/\zaI w A.a2 R.i/\zaj w A.a3 R.t
abbrev rlV(A:RA)(R:Rl):Value:=.agg #[.slice A.a0 R.s.length A.c0,.slice A.a1 R.hs.length A.c1,.slice A.a2 R.i.length A.c2,.slice A.a3 R.t.length A.c3]
abbrev acV(x:Ac):Value:=.agg #[.int .i64 x.k,.int .i64 x.a,.int .i64 x.b,.int .i64 x.c,.int .i64 x.n]
abbrev bxR(A:RA)(R:Rl):Obj:=.cells #[.slice A.a0 R.s.length A.c0,.slice A.a1 R.hs.length A.c1,.slice A.a2 R.i.length A.c2,.slice A.a3 R.t.length A.c3] 50 (0,0)
def zvf(R:Rl):Prop:=R.s.length<=9223372036854775807/\Big R.s/\R.hs.length<=9223372036854775807/\R.i.length<=9223372036854775807/\zjV R.i/\R.t.length<=9223372036854775807
theorem zcZ.below{w w' : World}{A:RA}{R:Rl}(h:zcZ w A R)(D:Below w.heap.size w w'):zcZ w' A R:=⟨h.1.below D,h.2.1.below D,h.2.2.1.below D,h.2.2.2.below D⟩
theorem zjF(w:World)(A:RA):zcZ w A zbE:=⟨fun _ h=>absurd h (yx _),fun _ h=>absurd h (yx _),fun _ h=>absurd h (yx _),fun _ h=>absurd h (yx _)⟩
theorem zeB{m:Nat}:∀ {G:List Cl},cellsE m G=0->∀ i,i<G.length->zeZ m (cl G i)=0
 | [],_,i,hi=>absurd hi (yx _)
 | x :: r,h,i,hi=>by
  unfold cellsE at h;by_cases h1:zeZ m x=0
  ·rw[yb h1] at h
   match i,hi with
   | 0,_=>exact h1
   | i+1,hi=>exact zeB (G:=r) h i (by simpa using hi)
  ·rw[ya h1] at h;exact absurd h h1
theorem zdj{G:List Cl}(h:zav G=0):G.length<=24/\zjV G:=by
 unfold zav at h;by_cases h1:24<G.length
 ·rw[yb h1] at h;omega
 ·rw[ya h1] at h;refine⟨by omega,fun i hi=>?_⟩;have:=zeB h i hi;unfold zeZ at this
  split at this
  ·omega
  ·split at this
   ·omega
   ·omega
theorem zdU{R:Rl}(h:zaF R=0):zvf R:=by
 obtain⟨h1,E,D,F⟩:=zaB h;have:=zdj D;exact⟨by have:=h1.small;omega,h1.big,by omega,by omega,this.2,by omega⟩
def zAP(p:Int):Int:=if 0<=p/\p<=24 then 0 else 2
def zdl(p:Int):Rl:=if 0<=p/\p<=24 then ⟨List.replicate p.toNat zaZ,List.replicate 16 (0,0),[],[]⟩ else zbE
def zpj:Prop:=∀ (p:Int) (w:World),
 yM 28 #[.int .i64 p] w fun e w' => ∃ B:RA,e=.returned (.tuple #[rlV B (zdl p),.int .i64 (zAP p)])/\Below w.heap.size w w' /\ zcZ w' B (zdl p)
def zsa:Prop:=∀ (A:RA) (R:Rl) (w:World),zvf R->zcZ w A R ->
 yM 32 #[rlV A R] w fun e w' => e=.returned (.int .i64 (zaF R))/\Below w.heap.size w w'
def X1:Ac:=⟨1,2,0,0,4⟩
def X2:Ac:=⟨5,2,0,0,7⟩
def X3:Ac:=⟨6,2,0,0,0⟩
def X4:Ac:=⟨6,1,0,0,0⟩
def H0:Rl:=zdl 3
def H1:Rl:=(doF H0 X1).r
def H2:Rl:=(doF H1 X2).r
def zaP(w:World)(a:Option Addr)(L:List Fr):Prop :=
 ∀ i,i<L.length->∃ b o,a=some ⟨b,o,none⟩/\w.cell? ⟨b,o+i*5,none⟩=some (.int .i64 (fr L i).p)/\w.cell? ⟨b,o+i*5+1,none⟩=some (.int .i64 (fr L i).o)/\w.cell? ⟨b,o+i*5+2,none⟩=some (.int .i64 (fr L i).m)/\w.cell? ⟨b,o+i*5+3,none⟩=some (.int .i64 (fr L i).t)/\w.cell? ⟨b,o+i*5+4,none⟩=some (.bool (fr L i).g)
theorem zaP.below{w w' : World}{a:Option Addr}{L:List Fr}(h:zaP w a L)(E:Below w.heap.size w w'):zaP w' a L:=fun i hi=>by
 obtain⟨b,o,e,h1,F,I,J,h5⟩:=h i hi;have D:b<w.heap.size:=yd _ _ h1;exact⟨b,o,e,(E.cell (by exact D)).trans h1,(E.cell (by exact D)).trans F,(E.cell (by exact D)).trans I,(E.cell (by exact D)).trans J,(E.cell (by exact D)).trans h5⟩
theorem zwt{W D:World}{b F I J M O:Nat}{T v1 v2 U Z:Value}(E:Below W.heap.size W D)(c0:W.cell? ⟨b,F,none⟩=some T)(c1:W.cell? ⟨b,I,none⟩=some v1)(c2:W.cell? ⟨b,J,none⟩=some v2)(c3:W.cell? ⟨b,M,none⟩=some U)(c4:W.cell? ⟨b,O,none⟩=some Z) :
  D.cell? ⟨b,F,none⟩=some T/\D.cell? ⟨b,I,none⟩=some v1/\D.cell? ⟨b,J,none⟩=some v2/\D.cell? ⟨b,M,none⟩=some U/\D.cell? ⟨b,O,none⟩=some Z:=⟨zab c0 E,zab c1 E,zab c2 E,zab c3 E,zab c4 E⟩
theorem zbL{B:Nat}{w w' : World}(h:Below B w w')(n:Nat):Below B w (w'.drewN n):=⟨h.os,h.tape,h.output,h.size,h.block⟩
abbrev fv(x:Fr):Value:=.agg #[.int .i64 x.p,.int .i64 x.o,.int .i64 x.m,.int .i64 x.t,.bool x.g]
theorem zcC(x a b:Int)(w:World) :
  yM 66 #[.int .i64 x,.int .i64 a,.int .i64 b] w fun e w' => e=.returned (.bool (decide (a<=x/\x<=b)))/\w' = w:=by
 by_cases h1:a<=x
 ·by_cases D:x<=b
  ·have h:decide (a<=x/\x<=b)=true:=(by simp[h1,D]);rw[h];clear h
   go_enter Tryz.func66,Tryz.ntmps66
   go_wp2
   go_ret;exact⟨rfl,rfl⟩
  ·have h:decide (a<=x/\x<=b)=false:=(by simp[D]);rw[h];clear h
   go_enter Tryz.func66,Tryz.ntmps66
   go_wp2
   go_ret;exact⟨rfl,rfl⟩
 ·have h:decide (a<=x/\x<=b)=false:=by simp[h1]
  rw[h];clear h
  go_enter Tryz.func66,Tryz.ntmps66
  go_wp2
  go_ret;exact⟨rfl,rfl⟩
theorem zxs(x:Fr):decide (zgF x 0)=decide (x.p = -1):=decide_eq_decide.2 (by unfold zgF;simp)
theorem zze(x:Fr){k:Nat}(h:k≠0):decide (zgF x k)=decide (0<=x.p/\x.p<=(k:Int)-1):=decide_eq_decide.2 (by unfold zgF;rw[ya h])
theorem zkq(x:Fr)(k:Nat)(I:k<=1000)(w:World) :
  yM 94 #[.int .i64 x.p,.int .i64 k] w fun e w' => e=.returned (.bool (decide (zgF x k)))/\w' = w:=by
 by_cases h0:k=0
 ·subst h0;rw[zxs];obtain⟨p,D⟩:∃ p,x.p=p:=⟨_,rfl⟩;rw[D];have hd:(p == -1)=decide (p = -1):=by by_cases e:p = -1 <;> simp[e]
  clear D
  go_enter Tryz.func94,Tryz.ntmps94
  go_wp2
  go_ret
  first|exact⟨rfl,rfl⟩|exact⟨by rw[hd],rfl⟩|exact⟨by simp,rfl⟩
 ·rw[zze x h0];obtain⟨p,D⟩:∃ p,x.p=p:=⟨_,rfl⟩;rw[D];have h1:¬ (k:Int)=0:=by omega
  have F:decide ((k:Int)=0)=false:=yF h1;have E:Hid _:=zcC p 0 ((k:Int)-1);clear D;generalize decide (0<=p/\p<=(k:Int)-1)=r at *
  go_enter Tryz.func94,Tryz.ntmps94
  go_wp2_with fail
  refine ye (E.out _) ?_;rintro e J ⟨rfl,rfl⟩
  go_wp2
  go_ret;exact⟨rfl,rfl⟩
theorem zkp(x:Int)(w:World) :
  yM 129 #[.int .i64 x] w fun e w' => e=.returned (.bool (decide (0<=x/\x<=9)))/\w' = w:=by
 have D:Hid _:=zcC x 0 9;generalize decide (0<=x/\x<=9)=r at *
 go_enter Tryz.func129,Tryz.ntmps129
 go_wp2_with fail
 refine ye (D.out _) ?_;rintro e E ⟨rfl,rfl⟩
 go_wp2
 go_ret;exact⟨rfl,rfl⟩
theorem zoI(x:Int)(w:World) :
  yM 130 #[.int .i64 x] w fun e w' => e=.returned (.bool (decide (0<=x/\x<=7)))/\w' = w:=by
 have D:Hid _:=zcC x 0 7;generalize decide (0<=x/\x<=7)=r at *
 go_enter Tryz.func130,Tryz.ntmps130
 go_wp2_with fail
 refine ye (D.out _) ?_;rintro e E ⟨rfl,rfl⟩
 go_wp2
 go_ret;exact⟨rfl,rfl⟩
theorem zrw(x:Fr):decide (zdP x)=(decide (0<=x.o/\x.o<=9) && (decide (0<=x.m/\x.m<=7) && decide (0<=x.t/\x.t<=1000))):=by
 unfold zdP;by_cases h1:0<=x.o/\x.o<=9 <;> by_cases D:0<=x.m/\x.m<=7 <;> by_cases E:0<=x.t/\x.t<=1000 <;> simp[h1,D,E]
theorem zmS(x:Fr)(w:World) :
  yM 95 #[fv x] w fun e w' => e=.returned (.bool (decide (zdP x)))/\Below w.heap.size w w' := by
 rw[zrw];have F:Hid _:=zkp x.o;have I:Hid _:=zoI x.m;have J:Hid _:=zcC x.t 0 1000;have D:Hid (∀ E,Below w.heap.size w (w.alloc E)):=fun E=>zaa w E;generalize decide (0<=x.o/\x.o<=9)=O at *;generalize decide (0<=x.m/\x.m<=7)=T at *;generalize decide (0<=x.t/\x.t<=1000)=U at *;obtain⟨xp,xo,xm,xt,Z⟩:=x;dsimp only at F I J
 go_enter Tryz.func95,Tryz.ntmps95
 go_wp2_with fail
 refine ye (F.out _) ?_;rintro e M ⟨rfl,rfl⟩;cases O
 ·go_wp2_with fail
  go_ret;exact⟨rfl,D.out _⟩
 ·go_wp2_with fail
  refine ye (I.out _) ?_;rintro e M ⟨rfl,rfl⟩;cases T
  ·go_wp2_with fail
   go_ret;exact⟨rfl,D.out _⟩
  ·go_wp2_with fail
   refine ye (J.out _) ?_;rintro e M ⟨rfl,rfl⟩
   go_wp2_with fail
   go_ret;exact⟨by cases U <;> rfl,D.out _⟩
theorem zvP(x y:Fr):decide (zgP x y)=(decide (bits .andNot .i64 x.m y.m=0) && (x.g || !y.g)):=by
 rw[Bool.eq_iff_iff,decide_eq_true_iff];unfold zgP;simp
theorem zmK(x y:Fr)(w:World) :
  yM 96 #[fv x,fv y] w fun e w' => e=.returned (.bool (decide (zgP x y)))/\Below w.heap.size w w' := by
 rw[zvP];have F:Hid (∀ D E,Below w.heap.size w ((w.alloc D).alloc E)):=fun D E=>zaf w D E;obtain⟨Z,U,J,xt,I⟩:=x;obtain⟨yp,yo,O,yt,M⟩:=y;dsimp only;generalize T:bits .andNot .i64 J O=z;by_cases h:z=0
 ·have d:decide (z=0)=true:=yG h;have d2:(z == 0)=true:=by simp[h]
  cases I <;> cases M
  all_goals
   go_enter Tryz.func96,Tryz.ntmps96
   go_wp2_with fail
   go_ret;exact⟨by simp[h],F.out _ _⟩
 ·have d:decide (z=0)=false:=yF h;have d2:(z == 0)=false:=by simp[h]
  go_enter Tryz.func96,Tryz.ntmps96
  go_wp2_with fail
  go_ret;exact⟨by simp[h],F.out _ _⟩
theorem zlX{P:Program}(w:World)(T sT ty elem:TypeId)(i:TypeInfo)(g o I M:Nat)(a:Addr)(E J n:Nat)(D:Array Value)(t:TypeId)(F:List Value)
  (Z:P.underlying T=some (.slice elem)) (hi:P.info? elem=some i) (hg:w.heap[g]?=some (.cells D t (0,0))) (hn:n=Nat.min E I) (hl:F.length=n*i.size)
  (hsrc:∀ j v,F[j]?=some v->w.cell? (a.add j)=some v) (hfit:o+F.length<=D.size) (h1:∀ v ∈ F,v.oneCell' = true) :
  (Builtin.copy_ #[T,sT] ty #[.slice (some ⟨g,o,none⟩) I M,.slice (some a) E J]).run P w=.ok (goInt n) (w.setRow g (D.toList.take o++F++D.toList.drop (o+F.length)).toArray):=by
 have U:=run_firstCells_some (P:=P) w i.size n a E J F hl hsrc;have O:=run_storeCells_at P g o t F 0 D w hg (by simpa using hfit) h1;simp only[Nat.add_zero] at O;simp[Builtin.copy_,run_underlying Z,Builtin.lenOf,sizeOf,typeInfo,hi,<- hn,U,O]
theorem zcY{P:Program}{w:World}{ops:Array Oper}{rest:List Oper}{o:Oper}{a:Act}{Q:Exit->Act->World->Prop}(Z:o.guard=none)(d s:Operand)(U sT:TypeId)
  (ho:o.op=.call { callee:=.builtin .copy,args:=#[d,s],argTypes:=#[U,sT] }) (elem:TypeId) (i:TypeInfo) (hu:P.underlying U=some (.slice elem)) (hi:P.info? elem=some i)
  (g off E J:Nat) (T:Addr) (F M n:Nat) (hd:a.eval d=.slice (some ⟨g,off,none⟩) E J) (hs:a.eval s=.slice (some T) F M)
  (D:List Value) (t:TypeId) (hg:w.heap[g]?=some (.cells D.toArray t (0,0))) (I:List Value) (hn:n=Nat.min F E) (hl:I.length=n*i.size)
  (hsrc:∀ j v,I[j]?=some v->w.cell? (T.add j)=some v) (hfit:off+I.length<=D.length) (h1:∀ v ∈ I,v.oneCell' = true)
  (h:∀ w', w'.heap[g]?=some (.cells (D.take off++I++D.drop (off+I.length)).toArray t (0,0))->(∀ B w0,Below B w0 w->B<=g->Below B w0 w')->wpList P ops Q rest (a.put o.dst (goInt n)) w'):wpList P ops Q (o :: rest) a w:=by
 refine wpList_plain Z fun K hK=>?_;have O:=zlX (P:=P) w U sT o.type elem i g off E J T F M n D.toArray t I hu hi hg hn hl hsrc (by simpa using hfit) h1;unfold Oper.wp;simp[execOp,ho,resolve,invoke,builtin,hd,hs,O,Result.andThen];refine hK _ _ (h _ ?_ (fun B w0 hb hB=>below_setRow hb hB _));have:=setRow_heap w g D.toArray ((D.toArray.toList.take off++I++D.toArray.toList.drop (off+I.length)).toArray) t _ hg;simpa using this
theorem Own.nil8{w:World}{B g:Nat}{S:List Nd}{kb kc:Nat->Nat}{k:Nat}(h:Own w B g S kb kc S.length)(hk:k<S.length)(x:Nd)(U:x.ks=[])(w3:World)
  (J:∀ b,g<=b->b<w.heap.size->w3.heap[b]?=((((((((w.setCell ⟨g,k*8,none⟩ (.bool x.u)).setCell ⟨g,k*8+1,none⟩ (.int .i64 x.n)).setCell ⟨g,k*8+2,none⟩ (.int .i64 x.t)).setCell ⟨g,k*8+3,none⟩ (.int .i64 x.m)).setCell ⟨g,k*8+4,none⟩ (.int .i64 x.p)).setCell ⟨g,k*8+5,none⟩ (.slice none 0 0)).setCell ⟨g,k*8+6,none⟩ (.int .i64 x.h)).setCell ⟨g,k*8+7,none⟩ (.bool x.c)).heap[b]?) :
  zai w3 (some ⟨g,0,none⟩) (S.set k x):=fun i hi=>by
 obtain⟨_,F,T,hN,hg,_⟩:=h;rw[List.length_set] at hi;have E:=(zpW T (k*8) (.bool x.u) (.int .i64 x.n) (.int .i64 x.t) (.int .i64 x.m) (.int .i64 x.p) (.slice none 0 0) (.int .i64 x.h) (.bool x.c)).of_block (J g (yj _) T.lt);refine⟨g,0,rfl,?_⟩;rw[yB,zcP S k i x hk];by_cases e:i=k
 ·subst e;rw[yb rfl];refine⟨?_,?_,?_,?_,?_,⟨none,0,?_,fun j O=>absurd O (by rw[U];exact yx _)⟩,?_,?_⟩
  ·rw[E.cell (by omega)];unfold zrW;rw[ya (by omega),ya (by omega),ya (by omega),ya (by omega),ya (by omega),ya (by omega),ya (by omega),yb rfl]
  ·rw[E.cell (by omega)];unfold zrW;rw[ya (by omega),ya (by omega),ya (by omega),ya (by omega),ya (by omega),ya (by omega),yb rfl]
  ·rw[E.cell (by omega)];unfold zrW;rw[ya (by omega),ya (by omega),ya (by omega),ya (by omega),ya (by omega),yb rfl]
  ·rw[E.cell (by omega)];unfold zrW;rw[ya (by omega),ya (by omega),ya (by omega),ya (by omega),yb rfl]
  ·rw[E.cell (by omega)];unfold zrW;rw[ya (by omega),ya (by omega),ya (by omega),yb rfl]
  ·rw[E.cell (by omega),U];unfold zrW;rw[ya (by omega),ya (by omega),yb rfl];rfl
  ·rw[E.cell (by omega)];unfold zrW;rw[ya (by omega),yb rfl]
  ·rw[E.cell (by omega)];unfold zrW;rw[yb rfl]
 ·rw[ya e];have M:=hg i hi;obtain⟨Z,e1,e2,e3,e4,e5,e6,e7,e8,a5,G,I,e9⟩:=hN i hi;have D:kb i≠g:=by omega
  have hG:=I.of_block (w' := w3) ((J (kb i) (Nat.le_of_lt M) I.lt).trans (by
   rw[yv _ _ _ _ D,yv _ _ _ _ D,yv _ _ _ _ D,yv _ _ _ _ D,yv _ _ _ _ D,yv _ _ _ _ D,yv _ _ _ _ D,yv _ _ _ _ D]))
  refine⟨?_,?_,?_,?_,?_,⟨some ⟨kb i,0,none⟩,kc i,?_,fun j O=>⟨kb i,0,rfl,?_⟩⟩,?_,?_⟩
  ·rw[E.cell (by omega),zbR (by omega),Z]
  ·rw[E.cell (by omega),zbR (by omega),e1]
  ·rw[E.cell (by omega),zbR (by omega),e2]
  ·rw[E.cell (by omega),zbR (by omega),e3]
  ·rw[E.cell (by omega),zbR (by omega),e4]
  ·rw[E.cell (by omega),zbR (by omega),e5]
  ·rw[yB,hG.cell (by omega),e9 j O]
  ·rw[E.cell (by omega),zbR (by omega),e6]
  ·rw[E.cell (by omega),zbR (by omega),e7]
theorem zbQ{w D:World}{v:Value}{x y:Int}(E:Below (w.heap.size+1+1+1) (((w.alloc (.cells #[v] 43)).alloc (.cells #[.int .i64 x,.int .i64 y] 61)).alloc (.cells #[.slice none 0 0] 43)) D) :
  D.cell? ⟨w.heap.size,0,none⟩=some v/\D.cell? ⟨w.heap.size+1,0,none⟩=some (.int .i64 x)/\D.cell? ⟨w.heap.size+1,1,none⟩=some (.int .i64 y)/\D.cell? ⟨w.heap.size+1+1,0,none⟩=some (.slice none 0 0)/\D.frozen? ⟨w.heap.size+1+1,0,none⟩=false :=
 ⟨(E.cell (by simp;omega)).trans (by go_simp),(E.cell (by simp)).trans (by go_simp),(E.cell (by simp)).trans (by go_simp),(E.cell (by simp)).trans (by go_simp),(E.frozen (by simp)).trans (by go_simp)⟩
theorem zeF{B:Nat}{W E F:World}{a0 a1 a2 a3 a4 J M O:Value}(I:Below B W E)(hs:B<=E.heap.size)(D:Below (E.heap.size+1) (E.alloc (.cells #[a0,a1,a2,a3,a4,J,M,O] 57)) F) :
  Below B W F/\F.cell? ⟨E.heap.size,0,none⟩=some a0/\F.cell? ⟨E.heap.size,1,none⟩=some a1/\F.cell? ⟨E.heap.size,2,none⟩=some a2/\F.cell? ⟨E.heap.size,3,none⟩=some a3/\F.cell? ⟨E.heap.size,4,none⟩=some a4/\F.cell? ⟨E.heap.size,5,none⟩=some J/\F.cell? ⟨E.heap.size,6,none⟩=some M/\F.cell? ⟨E.heap.size,7,none⟩=some O :=
 ⟨(I.alloc hs _).trans (D.mono (by omega)),(D.cell (by simp)).trans (by go_simp),(D.cell (by simp)).trans (by go_simp),(D.cell (by simp)).trans (by go_simp),(D.cell (by simp)).trans (by go_simp),(D.cell (by simp)).trans (by go_simp),(D.cell (by simp)).trans (by go_simp),(D.cell (by simp)).trans (by go_simp),(D.cell (by simp)).trans (by go_simp)⟩
theorem zvV(a:Option Addr)(c:Nat)(S:List Nd)(p u E:Int)(w:World)(U:S.length<=9223372036854775807)(O:Big S)(Z:zai w a S)(T:zaG S p u=E)(I:E≠0) :
  yM 167 #[.agg #[.slice a S.length c],.agg #[.int .i64 p,.int .i64 u]] w fun e w' => e=.returned (.tuple #[.agg #[.slice none 0 0],.int .i64 E])/\Below w.heap.size w w' := by
 have D1:Hid (∀ W,zai W a S->Calls _ _ _ _ _):=fun W hW=>ziC a c S p u E W U O hW T I;have HS:Hid (zai w a S):=Z;have hz:(E == 0)=false:=by simp[I]
 clear Z T O U;generalize S.length=n at *
 go_enter Tryz.func167,Tryz.ntmps167
 go_wp2_with (go_at_call 14;refine(D1.out _ (HS.out.below (zar _ _ _ _))).mono ?_;rintro e J ⟨rfl,D⟩;simp only[yr] at D;obtain⟨l0,l1,l2,l3,z3⟩:=zbQ D;have M:=D.size;simp only[yr] at M;have q0:w.heap.size<J.heap.size:=(by omega);have q1:w.heap.size+1<J.heap.size:=(by omega);have q2:w.heap.size+1+1<J.heap.size:=(by omega))
 refine yw (v:=.tuple #[.agg #[.slice none 0 0],.int .i64 E]) (by simp only[results,Tryz.results167];go_simp) rfl ⟨rfl,?_⟩;have F:Below w.heap.size w J:=(zar _ _ _ _).trans (D.mono (by omega))
 first|exact(F.setCell (by simp;omega) _).alloc (by simp;omega) _|exact(F.alloc (by omega) _).setCell (by simp;omega) _|exact F.setCell (by simp;omega) _
theorem ztc(a:Option Addr)(c:Nat)(S:List Nd)(k:Nat)(u:Int)(w:World)(hN:S.length<=9223372036854775807)(hB:Big S)(hS:zai w a S)(hk:k<S.length)(hF:zaG S k u=0)(hK:(nd S k).ks.length<=1000000)(hT:¬ zge S k) :
  yM 167 #[.agg #[.slice a S.length c],.agg #[.int .i64 k,.int .i64 u]] w fun e w' => e=.returned (.tuple #[.agg #[.slice none 0 0],.int .i64 6])/\Below w.heap.size w w' := by
 have D1:Hid (∀ W,zai W a S->Calls _ _ _ _ _):=fun W hW=>find_ok a c S k u W (by omega) hB hW hk hF hK;obtain⟨r,hr⟩:∃ r,zam (nd S k)=r:=⟨_,rfl⟩;obtain⟨b0,a9⟩:∃ b,zfp S k=b:=⟨_,rfl⟩;have d2:=fun(v:Value) W=>zdQ (nd S k) v W;rw[show (if (nd S k).h = -1 then (nd S k).p else (nd S k).h)=r from hr] at d2;have D2:Hid _:=d2;have d3:=fun W hW=>zee a c S (k:Int) W (by omega) hW (by omega);rw[a9] at d3;have D3:Hid _:=d3;have HS:Hid (zai w a S):=hS
 have b1:r≠-1\/(r = -1/\(nd S k).ks.length≠0)\/(r = -1/\(nd S k).ks.length=0/\b0=true):=by
  unfold zge at hT;rw[hr,a9] at hT;by_cases h1:r = -1
  ·by_cases h2:(nd S k).ks=[]
   ·refine Or.inr (Or.inr ⟨h1,by rw[h2];rfl,?_⟩)
    cases b0 with
    | true=>rfl
    | false=>exact absurd ⟨h1,h2,rfl⟩ hT
   ·refine Or.inr (Or.inl ⟨h1,fun h=>h2 (List.length_eq_zero_iff.1 h)⟩)
  ·exact Or.inl h1
 clear hS d2 d3 hF hB hT hr a9;generalize nd S k=x at *;obtain⟨xu,xn,xt,xm,xp,b2,xh,xc⟩:=x;dsimp only at *;generalize b2.length=L at *;generalize S.length=n at *;rcases b1 with h1 |⟨rfl,h2⟩ |⟨rfl,rfl,rfl⟩
 ·have hz:(r == -1)=false:=by simp[h1]
  go_enter Tryz.func167,Tryz.ntmps167
  go_wp2_with (go_at_call 14;refine(D1.out _ (HS.out.below (zar _ _ _ _))).mono ?_;rintro e M ⟨kg,rfl,D,Z⟩;clear Z;simp only[yr] at D;obtain⟨l0,l1,l2,l3,z3⟩:=zbQ D;have J:=D.size;simp only[yr] at J;have q0:w.heap.size<M.heap.size:=(by omega);have q1:w.heap.size+1<M.heap.size:=(by omega);have q2:w.heap.size+1+1<M.heap.size:=(by omega))
  refine(D2.out _ _).mono ?_;rintro e w2 ⟨rfl,F⟩;simp only[yr] at F;obtain⟨E,n0,n1,n2,n3,n4,n5,n6,n7⟩:=zeF D J F;have T:=F.size;simp only[yr] at T;clear l0 l1 l2 l3 z3;obtain⟨l0,l1,l2,l3,z3⟩:=zbQ E;have I:Hid (Below w.heap.size w w2):=(zar _ _ _ _).trans (E.mono (by omega));have a8:Hid _:=D;have a5:Hid _:=F;have q3:M.heap.size<w2.heap.size:=by omega
  clear D F E
  go_wp2
  refine yw (v:=.tuple #[.agg #[.slice none 0 0],.int .i64 6]) (by simp only[results,Tryz.results167];go_simp) rfl ⟨rfl,?_⟩
  first|exact I.out.setCell (by simp;omega) _|exact(I.out.setCell (by simp;omega) _).drew|exact(I.out.alloc (by simp;omega) _).setCell (by simp;omega) _|exact(I.out.setCell (by simp;omega) _).alloc (by simp;omega) _
 ·have hz:decide ((0:Int)<(L:Int))=true:=yG (by omega);have b5:(0:Int)<(L:Int):=by omega
  go_enter Tryz.func167,Tryz.ntmps167
  go_wp2_with (go_at_call 14;refine(D1.out _ (HS.out.below (zar _ _ _ _))).mono ?_;rintro e M ⟨kg,rfl,D,Z⟩;clear Z;simp only[yr] at D;obtain⟨l0,l1,l2,l3,z3⟩:=zbQ D;have J:=D.size;simp only[yr] at J;have q0:w.heap.size<M.heap.size:=(by omega);have q1:w.heap.size+1<M.heap.size:=(by omega);have q2:w.heap.size+1+1<M.heap.size:=(by omega))
  refine(D2.out _ _).mono ?_;rintro e w2 ⟨rfl,F⟩;simp only[yr] at F;obtain⟨E,n0,n1,n2,n3,n4,n5,n6,n7⟩:=zeF D J F;have T:=F.size;simp only[yr] at T;clear l0 l1 l2 l3 z3;obtain⟨l0,l1,l2,l3,z3⟩:=zbQ E;have I:Hid (Below w.heap.size w w2):=(zar _ _ _ _).trans (E.mono (by omega));have a8:Hid _:=D;have a5:Hid _:=F;have q3:M.heap.size<w2.heap.size:=by omega
  clear D F E
  go_wp2
  refine yw (v:=.tuple #[.agg #[.slice none 0 0],.int .i64 6]) (by simp only[results,Tryz.results167];go_simp) rfl ⟨rfl,?_⟩
  first|exact I.out.setCell (by simp;omega) _|exact(I.out.setCell (by simp;omega) _).drew|exact(I.out.alloc (by simp;omega) _).setCell (by simp;omega) _|exact(I.out.setCell (by simp;omega) _).alloc (by simp;omega) _
 ·go_enter Tryz.func167,Tryz.ntmps167
  go_wp2_with (go_at_call 14;refine(D1.out _ (HS.out.below (zar _ _ _ _))).mono ?_;rintro e M ⟨kg,rfl,D,Z⟩;clear Z;simp only[yr] at D;obtain⟨l0,l1,l2,l3,z3⟩:=zbQ D;have J:=D.size;simp only[yr] at J;have q0:w.heap.size<M.heap.size:=(by omega);have q1:w.heap.size+1<M.heap.size:=(by omega);have q2:w.heap.size+1+1<M.heap.size:=(by omega))
  refine(D2.out _ _).mono ?_;rintro e w2 ⟨rfl,F⟩;simp only[yr] at F;obtain⟨E,n0,n1,n2,n3,n4,n5,n6,n7⟩:=zeF D J F;have T:=F.size;simp only[yr] at T;clear l0 l1 l2 l3 z3;obtain⟨l0,l1,l2,l3,z3⟩:=zbQ E;have I:Hid (Below w.heap.size w w2):=(zar _ _ _ _).trans (E.mono (by omega));have a8:Hid _:=D;have a5:Hid _:=F;have q3:M.heap.size<w2.heap.size:=by omega
  clear D F E
  go_wp2_with fail
  refine(D3.out _ (HS.out.below I.out)).mono ?_;rintro e w3 ⟨rfl,a6⟩;have b4:=a6.size;have O:Hid (Below w.heap.size w w3):=I.out.trans (a6.mono (by have:=I.out.size;omega));have U:=a5.out.trans (a6.mono T);clear l0 l1 l2 l3 z3 n0 n1 n2 n3 n4 n5 n6 n7 a6 a5;obtain⟨a7,n0,n1,n2,n3,n4,n5,n6,n7⟩:=zeF a8.out J U;obtain⟨l0,l1,l2,l3,z3⟩:=zbQ a7;have r1:M.heap.size<w3.heap.size:=by omega
  have r2:w.heap.size<w3.heap.size:=by omega
  have r3:w.heap.size+1<w3.heap.size:=by omega
  have r4:w.heap.size+1+1<w3.heap.size:=by omega
  have b3:Hid _:=U;clear a7 U
  go_wp2
  refine yw (v:=.tuple #[.agg #[.slice none 0 0],.int .i64 6]) (by simp only[results,Tryz.results167];go_simp) rfl ⟨rfl,?_⟩
  first|exact O.out.setCell (by simp;omega) _|exact(O.out.setCell (by simp;omega) _).drew|exact(O.out.alloc (by simp;omega) _).setCell (by simp;omega) _|exact(O.out.setCell (by simp;omega) _).alloc (by simp;omega) _
end Go.Proofs.YtcbcpomacdngmaaGreat
