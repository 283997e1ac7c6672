/-
  x
-/
import Derived.Test.YtcbcpomacdngmaaGreatA25
namespace Go.Proofs.YtcbcpomacdngmaaGreat
set_option maxRecDepth 100000
set_option maxHeartbeats 4000000
set_option linter.unusedVariables false
open Go.RowKit Tryz
variable{n b i c0 c1 c2 c3 c4 g D pc E I t qc c J:Nat}{w wr:Wd}{W Y V Z:Wl}{O k:Int}{pa a a0 a1 a2 a3 a4 F ra qa:OA}{X M:Nat->Prop}{A B:WA}{R:List Rl}{p:List Ac}{s:Bool}
theorem Px{A:RA}{R:Rl}(h:aU w A R):St (fun b=>w.heap.size<=b) (fun w=>aU w A R) w:=fun w' D=>by
 have E:aU { w' with os:=w.os,tape:=w.tape,output:=w.output } A R:=h.below ⟨rfl,rfl,rfl,D.size,fun b hb=>D.block b hb oaa⟩;exact E
theorem Py(h:dY w a p):St (fun b=>w.heap.size<=b) (fun w=>dY w a p) w:=fun w' D=>by
 have E:dY { w' with os:=w.os,tape:=w.tape,output:=w.output } a p:=h.below ⟨rfl,rfl,rfl,D.size,fun b hb=>D.block b hb oaa⟩;exact E
theorem Pz(h:Bl w wr):aC (fun b=>w.heap.size<=b) w wr:=⟨h.size,fun b hb _=>h.block b hb⟩
def pM(w wr:Wd)(a:OA)(n:Nat)(R:List Rl):Prop :=
 ∀ j,j<n->∃ g D,a=some ⟨g,0,none⟩/\w.heap.size<=g/\wr.heap[g]?=some (.cells D 50 (0,0))/\∃ A:RA,D[j*4]?=some (.slice A.a0 (rl R j).s.length A.c0)/\D[j*4+1]?=some (.slice A.a1 (rl R j).hs.length A.c1)/\D[j*4+2]?=some (.slice A.a2 (rl R j).i.length A.c2)/\D[j*4+3]?=some (.slice A.a3 (rl R j).t.length A.c3)/\aU w A (rl R j)
def pO(w wr:Wd)(a:OA)(n:Nat)(P:List (List Ac)):Prop :=
 ∀ j,j<n->∃ g D,a=some ⟨g,0,none⟩/\w.heap.size<=g/\wr.heap[g]?=some (.cells D 34 (0,0))/\∃ (qa:OA) (qc:Nat),D[j]?=some (.slice qa (pg P j).length qc)/\dY w qa (pg P j)
def iW(wr E:Wd):Prop:=∀ (g:Nat) (D:Array Value) (t:Nat),t=50\/t=34->wr.heap[g]?=some (.cells D t (0,0))->E.heap[g]?=some (.cells D t (0,0))
theorem iW.trans{a b c:Wd}(h:iW a b)(k:iW b c):iW a c:=fun g D t E hh=>k g D t E (h g D t E hh)
theorem iW.below{a b:Wd}(h:Bl a b):iW a b:=fun g D t _ hh=>aH hh h
theorem iW.set{a:Wd}{o:Nat}{v:Value}{Y:Array Value}(h:a.heap[b]?=some (.cells Y D (0,0)))(h1:D≠50)(I:D≠34):iW a (a.setCell ⟨b,o,none⟩ v):=fun g E t J hh=>(yx _ _ _ _ (fun e=>by
 have F:g=b:=e;subst F;rw[h] at hh;cases hh;rcases J with rfl|rfl
 ·exact h1 rfl
 ·exact I rfl)).trans hh
theorem pM.keep{E:Wd}(h:pM w wr a n R)(k:iW wr E):pM w E a n R:=fun j F=>by
 obtain⟨g,D,e,hg,hh,rest⟩:=h j F;exact⟨g,D,e,hg,k _ _ _ (Or.inl rfl) hh,rest⟩
theorem pO.keep{E:Wd}{P:List (List Ac)}(h:pO w wr a n P)(k:iW wr E):pO w E a n P:=fun j F=>by
 obtain⟨g,D,e,hg,hh,rest⟩:=h j F;exact⟨g,D,e,hg,k _ _ _ (Or.inr rfl) hh,rest⟩
theorem WN{D:Array Value}{k:Nat}(T:k+3<D.size)(M v1 v2 O:Value)(m:Nat):((((D.setIfInBounds k M).setIfInBounds (k+1) v1).setIfInBounds (k+2) v2).setIfInBounds (k+3) O)[m]?=if m=k+3 then some O else if m=k+2 then some v2 else if m=k+1 then some v1 else if m=k then some M else D[m]?:=by
 have s0:k<D.size:=oaa
 have s1:k+1<D.size:=oaa
 have s2:k+2<D.size:=oaa
 by_cases J:m=k+3
 ·subst J;simp[T]
 rw[yd J,Array.getElem?_setIfInBounds_ne (Ne.symm J)];by_cases I:m=k+2
 ·subst I;simp[s2]
 rw[yd I,Array.getElem?_setIfInBounds_ne (Ne.symm I)];by_cases F:m=k+1
 ·subst F;simp[s1]
 rw[yd F,Array.getElem?_setIfInBounds_ne (Ne.symm F)];by_cases E:m=k
 ·subst E;simp[s0]
 rw[yd E,Array.getElem?_setIfInBounds_ne (Ne.symm E)]
def vR(wr:Wd)(g k:Nat)(A:RA)(R:Rl):World:=(((wr.setCell ⟨g,k,none⟩ (.slice A.a0 R.s.length A.c0)).setCell ⟨g,k+1,none⟩ (.slice A.a1 R.hs.length A.c1)).setCell ⟨g,k+2,none⟩ (.slice A.a2 R.i.length A.c2)).setCell ⟨g,k+3,none⟩ (.slice A.a3 R.t.length A.c3)
theorem Qa{k:Nat}{D:Array Value}(A:RA)(R:Rl)(h:wr.heap[g]?=some (.cells D t (0,0))):(vR wr g k A R).heap[g]?=some (.cells ((((D.setIfInBounds k (.slice A.a0 R.s.length A.c0)).setIfInBounds (k+1) (.slice A.a1 R.hs.length A.c1)).setIfInBounds (k+2) (.slice A.a2 R.i.length A.c2)).setIfInBounds (k+3) (.slice A.a3 R.t.length A.c3)) t (0,0)) :=
 bR (bR (bR (bR h)))
theorem FM{k:Nat}(A:RA)(R:Rl)(h:b≠g):(vR wr g k A R).heap[b]?=wr.heap[b]? :=
 (yx _ _ _ _ h).trans ((yx _ _ _ _ h).trans ((yx _ _ _ _ h).trans (yx _ _ _ _ h)))
structure ExI (w:Wd) (W:Wl) (M:Nat->Prop) (n:Nat) (ra pa:OA) (V:Wl) (wr:Wd):Prop where
 bel:Bl w wr
 fs:V.fs=W.fs
 qs:V.qs=W.qs
 pt:V.pt=W.pt
 lr:V.rs.length=n
 lp:V.ps.length=n
 rr:pM w wr ra n V.rs
 rp:pO w wr pa n V.ps
 same:∀ j,j<n->¬ M j->rl V.rs j=rl W.rs j/\pg V.ps j=pg W.ps j
 sz:∀ j,j<n->(rl V.rs j).s.length=(rl W.rs j).s.length
 big:∀ j,j<n->iG (rl V.rs j)/\(pg V.ps j).length<=9223372036854775807
theorem ExI.keep{w W M n E pa V wr D}(h:ExI w W M n E pa V wr)(k:iW wr D)(hb:Bl w D):ExI w W M n E pa V D :=
 ⟨hb,h.fs,h.qs,h.pt,h.lr,h.lp,h.rr.keep k,h.rp.keep k,h.same,h.sz,h.big⟩
theorem ExI.setR{Z:OA}(h:ExI w W M n Z pa V wr)(hi:i<n)(hM:M i){A:RA}{R:Rl}(hR:aU w A R)(hB:iG R)(hz:R.s.length=(rl W.rs i).s.length)(hg:Z=some ⟨g,0,none⟩) :
  ExI w W M n Z pa { V with rs:=V.rs.set i R } (vR wr g (i*4) A R):=by
 obtain⟨g0,O,e0,D,I,A0,_,_,_,z3,_⟩:=h.rr i hi;rw[hg] at e0;cases e0;have U:i*4+3<O.size:=(Array.getElem?_eq_some_iff.1 z3).1;have F:∀ j,rl (V.rs.set i R) j=if j=i then R else rl V.rs j:=fun j=>by unfold rl;exact dE _ _ _ _ _ (by rw[h.lr];exact hi)
 refine⟨?_,h.fs,h.qs,h.pt,(List.length_set ..).trans h.lr,h.lp,?_,?_,?_,?_,?_⟩
 ·unfold vR;exact(((h.bel.setCell D _).setCell D _).setCell D _).setCell D _
 ·intro j E;obtain⟨g', J,e,T,hh,A', y0,y1,y2,y3,hr⟩:=h.rr j E;rw[hg] at e;cases e;rw[I] at hh;cases hh;refine⟨g,_,hg,D,Qa A R I,?_⟩;dsimp only;rw[F j];by_cases e:j=i
  ·subst e;rw[ye rfl];refine⟨A,?_,?_,?_,?_,hR⟩ <;> rw[WN U]
   ·rw[yd oaa,yd oaa,yd oaa,ye rfl]
   ·rw[yd oaa,yd oaa,ye rfl]
   ·rw[yd oaa,ye rfl]
   ·rw[ye rfl]
  ·rw[yd e];refine⟨A', ?_,?_,?_,?_,hr⟩ <;> rw[WN U,yd oaa,yd oaa,yd oaa,yd oaa]
   ·exact y0
   ·exact y1
   ·exact y2
   ·exact y3
 ·intro j E;obtain⟨g', J,e,T,hh,rest⟩:=h.rp j E;refine⟨g', J,e,T,(FM A R (fun e' => ?_)).trans hh,rest⟩;subst e';rw[I] at hh;cases hh
 ·intro j E hn;dsimp only;rw[F j,yd (fun e=>hn (by rw[e];exact hM))];exact h.same j E hn
 ·intro j E;dsimp only;rw[F j];by_cases e:j=i
  ·subst e;rw[ye rfl];exact hz
  ·rw[yd e];exact h.sz j E
 ·intro j E;dsimp only;rw[F j];by_cases e:j=i
  ·subst e;rw[ye rfl];exact⟨hB,(h.big j E).2⟩
  ·rw[yd e];exact h.big j E
theorem ExI.setP(h:ExI w W M n ra pa V wr)(hi:i<n)(hM:M i)(hp:dY w qa p)(hB:p.length<=9223372036854775807)(hg:pa=some ⟨g,0,none⟩) :
  ExI w W M n ra pa { V with ps:=V.ps.set i p } (wr.setCell ⟨g,i,none⟩ (.slice qa p.length qc)):=by
 obtain⟨g0,J,e0,T,E,_,_,z0,_⟩:=h.rp i hi;rw[hg] at e0;cases e0;have Z:i<J.size:=(Array.getElem?_eq_some_iff.1 z0).1;have F:∀ j,pg (V.ps.set i p) j=if j=i then p else pg V.ps j:=fun j=>by unfold pg;exact dE _ _ _ _ _ (by rw[h.lp];exact hi)
 refine⟨h.bel.setCell T _,h.fs,h.qs,h.pt,h.lr,(List.length_set ..).trans h.lp,?_,?_,?_,h.sz,?_⟩
 ·intro j D;obtain⟨U,I,e,O,hh,rest⟩:=h.rr j D;refine⟨U,I,e,O,(yx _ _ _ _ (fun e' => ?_)).trans hh,rest⟩;have e2:U=g:=e';subst e2;rw[E] at hh;cases hh
 ·intro j D;obtain⟨U,I,e,O,hh,a5,a6,y0,hr⟩:=h.rp j D;rw[hg] at e;cases e;rw[E] at hh;cases hh;refine⟨g,_,hg,T,bR E,?_⟩;dsimp only;rw[F j];by_cases e:j=i
  ·subst e;rw[ye rfl];exact⟨qa,qc,by simp[Z],hp⟩
  ·rw[yd e];exact⟨a5,a6,(Array.getElem?_setIfInBounds_ne (Ne.symm e)).trans y0,hr⟩
 ·intro j D hn;dsimp only;rw[F j,yd (fun e=>hn (by rw[e];exact hM))];exact h.same j D hn
 ·intro j D;dsimp only;rw[F j];by_cases e:j=i
  ·subst e;rw[ye rfl];exact⟨(h.big j D).1,hB⟩
  ·rw[yd e];exact h.big j D
theorem ExI.st(h:ExI w W M n ra pa V wr)(U:∀ b,X b->w.heap.size<=b/\∃ Y t,wr.heap[b]?=some (.cells Y t (0,0))/\t≠50/\t≠34)(hW:gP w ⟨a0,a1,a2,a3,a4,c0,c1,c2,c3,c4⟩ W)(rc pc:Nat) :
  cO X wr ⟨a0,ra,pa,a3,a4,c0,rc,pc,c3,c4⟩ V:=fun w' Z=>by
 have F:aC (fun b=>w.heap.size<=b) w w' :=(Pz h.bel).trans (Z.mono (fun b hb=>(U b hb).1))
 have hn:∀ (g:Nat) (D:Array Value) (t:Nat),t=50\/t=34->wr.heap[g]?=some (.cells D t (0,0))->w'.heap[g]?=some (.cells D t (0,0)):=fun g D t ht hh=>(Z.block g (aR hh) (fun hx=>by
  obtain⟨_,Y,t', hy,h1,I⟩:=U g hx;rw[hh] at hy;cases hy;rcases ht with rfl|rfl
  ·exact h1 rfl
  ·exact I rfl)).trans hh
 have I:gP { w' with os:=w.os,tape:=w.tape,output:=w.output } ⟨a0,a1,a2,a3,a4,c0,c1,c2,c3,c4⟩ W:=hW.below ⟨rfl,rfl,rfl,F.size,fun b hb=>F.block b hb oaa⟩;refine⟨?_,fun j J=>?_,fun j J=>?_,?_,?_⟩
 ·rw[h.fs];exact I.fs
 ·obtain⟨g,D,e,hg,hh,A,T,y1,y2,y3,O⟩:=h.rr j (by rw[<- h.lr];exact J);have E:=hn g D _ (Or.inl rfl) hh;refine⟨g,0,A,e,?_,?_,?_,?_,Px O w' F⟩
  ·rw[yD];simp only[World.cell?,E];exact T
  ·rw[yD];simp only[World.cell?,E];exact y1
  ·rw[yD];simp only[World.cell?,E];exact y2
  ·rw[yD];simp only[World.cell?,E];exact y3
 ·obtain⟨g,D,e,hg,hh,qa,qc,T,O⟩:=h.rp j (by rw[<- h.lp];exact J);have E:=hn g D _ (Or.inr rfl) hh;refine⟨g,0,qa,qc,e,?_,Py O w' F⟩;rw[yD];simp only[World.cell?,E];exact T
 ·rw[h.qs];exact I.qs
 ·rw[h.pt];exact I.pt
theorem ExI.base(h:ExI w W (fD W O) n F pa V wr)(hn:W.fs.length=n)(hw:aI W)(hv:aI V):Base O W V :=
 base_of hw hv ⟨h.fs,by rw[h.pt],fun i hi=>by rw[h.pt];exact⟨rfl,rfl,rfl,rfl,rfl⟩,fun i hi _=>by rw[h.pt],fun j D=>by unfold que;rw[h.qs],fun j D _=>by unfold que;rw[h.qs]⟩
  (fun j D E=>h.same j (by rw[<- hn];exact D) E) (fun j D=>h.sz j (by rw[<- hn];exact D))
theorem ExI.bigW{J:OA}(h:ExI w W M n J pa V wr)(hn:n<=1000)(I:kS W):kS V:=by
 obtain⟨D,_,_,E,F⟩:=I;refine⟨by rw[h.fs];exact D,⟨by rw[h.lr];omega,fun i hi=>(h.big i (by rw[<- h.lr];exact hi)).1⟩,⟨by rw[h.lp];omega,fun i hi=>(h.big i (by rw[<- h.lp];exact hi)).2⟩,?_,?_⟩
 ·rw[h.qs];exact E
 ·rw[h.pt];exact F
theorem kR.row(h:kR w a R):∃ K:Nat->Value,(∀ j,j<R.length->∃ A:RA,K (j*4)=.slice A.a0 (rl R j).s.length A.c0/\K (j*4+1)=.slice A.a1 (rl R j).hs.length A.c1/\K (j*4+2)=.slice A.a2 (rl R j).i.length A.c2/\K (j*4+3)=.slice A.a3 (rl R j).t.length A.c3/\aU w A (rl R j))/\∀ m u,((List.range (R.length*4)).map K)[m]?=some u->(∃ b o,a=some ⟨b,o,none⟩/\w.cell? ⟨b,o+m,none⟩=some u)/\u.oneCell' = true:=by
 have I:∀ j,∃ A:RA,j<R.length->∃ b o,a=some ⟨b,o,none⟩/\w.cell? ⟨b,o+j*4,none⟩=some (.slice A.a0 (rl R j).s.length A.c0)/\w.cell? ⟨b,o+j*4+1,none⟩=some (.slice A.a1 (rl R j).hs.length A.c1)/\w.cell? ⟨b,o+j*4+2,none⟩=some (.slice A.a2 (rl R j).i.length A.c2)/\w.cell? ⟨b,o+j*4+3,none⟩=some (.slice A.a3 (rl R j).t.length A.c3)/\aU w A (rl R j):=fun j=>by
  by_cases D:j<R.length
  ·obtain⟨b,o,A,r⟩:=h j D;exact⟨A,fun _=>⟨b,o,r⟩⟩
  ·exact⟨⟨none,none,none,none,0,0,0,0⟩,fun h=>absurd h D⟩
 obtain⟨F,T⟩:∃ F:Nat->RA,∀ j,j<R.length->∃ b o,a=some ⟨b,o,none⟩/\w.cell? ⟨b,o+j*4,none⟩=some (.slice (F j).a0 (rl R j).s.length (F j).c0)/\w.cell? ⟨b,o+j*4+1,none⟩=some (.slice (F j).a1 (rl R j).hs.length (F j).c1)/\w.cell? ⟨b,o+j*4+2,none⟩=some (.slice (F j).a2 (rl R j).i.length (F j).c2)/\w.cell? ⟨b,o+j*4+3,none⟩=some (.slice (F j).a3 (rl R j).t.length (F j).c3)/\aU w (F j) (rl R j):=⟨fun j=>Classical.choose (I j),fun j D=>Classical.choose_spec (I j) D⟩;clear I;refine⟨fun m=>if m % 4=0 then .slice (F (m / 4)).a0 (rl R (m / 4)).s.length (F (m / 4)).c0 else if m % 4=1 then .slice (F (m / 4)).a1 (rl R (m / 4)).hs.length (F (m / 4)).c1 else if m % 4=2 then .slice (F (m / 4)).a2 (rl R (m / 4)).i.length (F (m / 4)).c2 else .slice (F (m / 4)).a3 (rl R (m / 4)).t.length (F (m / 4)).c3,fun j D=>?_,fun m u E=>?_⟩
 ·obtain⟨_,_,_,_,_,_,_,U⟩:=T j D;have Z:j*4 / 4=j:=oaa
  have q1:(j*4+1) / 4=j:=oaa
  have q2:(j*4+2) / 4=j:=oaa
  have q3:(j*4+3) / 4=j:=oaa
  refine⟨F j,?_,?_,?_,?_,U⟩
  ·dsimp only;rw[Z,ye oaa]
  ·dsimp only;rw[q1,yd oaa,ye oaa]
  ·dsimp only;rw[q2,yd oaa,yd oaa,ye oaa]
  ·dsimp only;rw[q3,yd oaa,yd oaa,yd oaa]
 ·rw[List.getElem?_map] at E;by_cases hi:m<R.length*4
  ·rw[List.getElem?_range hi] at E;cases E;obtain⟨b,o,e,y0,y1,y2,y3,_⟩:=T (m / 4) oaa;dsimp only;by_cases J:m % 4=0
   ·rw[ye J];exact⟨⟨b,o,e,by rw[show o+m=o+m / 4*4 by omega];exact y0⟩,rfl⟩
   rw[yd J];by_cases M:m % 4=1
   ·rw[ye M];exact⟨⟨b,o,e,by rw[show o+m=o+m / 4*4+1 by omega];exact y1⟩,rfl⟩
   rw[yd M];by_cases O:m % 4=2
   ·rw[ye O];exact⟨⟨b,o,e,by rw[show o+m=o+m / 4*4+2 by omega];exact y2⟩,rfl⟩
   rw[yd O];exact⟨⟨b,o,e,by rw[show o+m=o+m / 4*4+3 by omega];exact y3⟩,rfl⟩
  ·rw[List.getElem?_eq_none (by simpa using hi)] at E;cases E
theorem Qb{V:Wd}(hn:R.length=n)(a6:n<=8)(hs:SlA a n c)(h:kR w a R)(hb:Bl w V) :
  yO 24 #[.slice a n c] V fun e w' => ∃ (ra:OA) (rc:Nat),e=.returned (.slice ra n rc)/\SlA ra n rc/\Below V.heap.size V w' /\ pM w w' ra n R:=by
 subst hn;obtain⟨K,T,F⟩:=h.row;have h0:a=none->R.length=0/\c=0:=fun e=>by have:=hs.1 e;have:=hs.2.1;omega
 refine(Ot a R.length c ((List.range (R.length*4)).map K) V oaa oac h0 (fun j u O=>?_) (fun u hu=>?_)).mono ?_
 ·obtain⟨⟨b,o,e,hc⟩,_⟩:=F j u O;exact⟨b,o,e,aA hc hb⟩
 ·obtain⟨i,hi⟩:=List.mem_iff_getElem?.1 hu;exact(F i u hi).2
 ·rintro e w' ⟨v2,rfl,I,M⟩;rcases M.2 with ⟨rfl,h0⟩ |⟨g,cap,E,rfl,hg,J,U,Z,a7,a5⟩
  ·exact⟨none,0,by rw[h0],by rw[h0];exact jE,I,fun j O=>oaa⟩
  ·refine⟨some ⟨g,0,none⟩,cap,rfl,⟨(fun e=>by cases e),U,by unfold maxLen at Z;omega⟩,I,fun j O=>?_⟩
   have D:∀ m,m<R.length*4->E[m]?=some (K m):=fun m hm=>by
    have h5:(E.toList.take (R.length*4))[m]?=some (K m):=(by rw[a5,List.getElem?_map,List.getElem?_range hm];rfl);rw[List.getElem?_take,ye hm] at h5;simpa using h5
   obtain⟨A,k0,k1,k2,k3,hr⟩:=T j O;exact⟨g,E,rfl,yJ hb.size hg,J,A,by rw[D _ oaa,k0],by rw[D _ oaa,k1],by rw[D _ oaa,k2],by rw[D _ oaa,k3],hr⟩
theorem Qc{V:Wd}{P:List (List Ac)}(hn:P.length=n)(a6:n<=8)(hs:SlA a n c)(h:lQ w a P)(hb:Bl w V) :
  yO 12 #[.slice a n c] V fun e w' => ∃ (ra:OA) (rc:Nat),e=.returned (.slice ra n rc)/\SlA ra n rc/\Below V.heap.size V w' /\ pO w w' ra n P:=by
 subst hn;obtain⟨K,E,T⟩:=h.row hs;have h0:a=none->P.length=0/\c=0:=fun e=>by have:=hs.1 e;have:=hs.2.1;omega
 refine(Oo a P.length c ((List.range P.length).map K) V oaa oac h0 (fun j u M=>?_) (fun u hu=>?_)).mono ?_
 ·obtain⟨b,o,e,hc⟩:=T j u M;exact⟨b,o,e,aA hc hb⟩
 ·obtain⟨i,hi,rfl⟩:=List.mem_map.1 hu;obtain⟨pa,pc,e,_⟩:=E i (List.mem_range.1 hi);rw[e];rfl
 ·rintro e w' ⟨v2,rfl,F,O⟩;rcases O.2 with ⟨rfl,h0⟩ |⟨g,cap,D,rfl,hg,I,U,Z,a7,a5⟩
  ·exact⟨none,0,by rw[h0],by rw[h0];exact jE,F,fun j M=>oaa⟩
  ·refine⟨some ⟨g,0,none⟩,cap,rfl,⟨(fun e=>by cases e),U,by unfold maxLen at Z;omega⟩,F,fun j M=>?_⟩
   have J:D[j]?=some (K j):=by
    have h5:(D.toList.take (P.length*1))[j]?=some (K j):=(by rw[a5,List.getElem?_map,List.getElem?_range M];rfl);rw[List.getElem?_take,ye oaa] at h5;simpa using h5
   obtain⟨qa,qc,k0,hr⟩:=E j M;exact⟨g,D,rfl,yJ hb.size hg,I,qa,qc,by rw[J,k0],hr⟩
theorem Qd(M:Nat->Prop){E:OA}(H:aI W)(hn:W.fs.length=n)(hb:Bl w wr)(h1:pM w wr E n W.rs)(J:pO w wr pa n W.ps):ExI w W M n E pa W wr:=by
 obtain⟨_,⟨_,F⟩,⟨_,I⟩,_,_⟩:=qQ H;exact⟨hb,rfl,rfl,rfl,H.lr.trans hn,H.lp.trans hn,h1,J,fun _ _ _=>⟨rfl,rfl⟩,fun _ _=>rfl,fun j D=>⟨F j (by rw[H.lr,hn];exact D),I j (by rw[H.lp,hn];exact D)⟩⟩
structure dO (X:Nat->Prop) (b n:Nat) (A:WA) (Y:Wl) (wr:Wd):Prop where
 box:wr.heap[b]?=some (.cells #[.slice A.a0 n A.c0,.slice A.a1 n A.c1,.slice A.a2 n A.c2,.slice A.a3 n A.c3,.slice A.a4 Y.pt.length A.c4] 28 (0,0))
 st:cO X wr A Y
 wc:WlC A Y
 rt:aI Y
 ln:Y.fs.length=n
theorem dO.off{D:Nat->Prop}{F:Wd}(h:dO X b n A Y wr)(E:aC D wr F)(hs:∀ c,D c->X c)(hb:¬ D b):dO X b n A Y F :=
 ⟨(E.block b (aR h.box) hb).trans h.box,h.st.off (E.mono hs),h.wc,h.rt,h.ln⟩
theorem dO.below{D:Wd}(h:dO X b n A Y wr)(hb:Bl wr D):dO X b n A Y D :=
 ⟨aH h.box hb,h.st.off (aC.of_below hb),h.wc,h.rt,h.ln⟩
theorem dO.step(hT:zC)(h:dO X b n ⟨a0,a1,a2,a3,a4,c0,c1,c2,c3,c4⟩ Y wr)(hX:∀ c,X c->c<wr.heap.size)(k:Int)(s:Bool){E:Int}(h1:bT Y k s=E)(h2:cB Y k s=Z){m4:Nat}(h4:Y.pt.length=m4){V:Wd}(U:Bl wr V) :
  yO 13 #[.agg #[.slice a0 n c0,.slice a1 n c1,.slice a2 n c2,.slice a3 n c3,.slice a4 m4 c4],.agg #[.int .i64 k,.bool s]] V fun e w' => ∃ (F I J M O:OA) (d0 d1 d2 d3 T:Nat),e=.returned (.tuple #[.agg #[.slice F Z.fs.length d0,.slice I Z.rs.length d1,.slice J Z.ps.length d2,.slice M Z.qs.length d3,.slice O Z.pt.length T],.int .i64 E])/\Below V.heap.size V w' /\ WlC ⟨F,I,J,M,O,d0,d1,d2,d3,T⟩ Z/\cO X w' ⟨F,I,J,M,O,d0,d1,d2,d3,T⟩ Z:=by
 have h:=Oi hT X (qQ h.rt) h1 h2 (fun c hc=>yC (hX c hc) U.size) h.wc (h.st.off (aC.of_below U));have D:dO X b n ⟨a0,a1,a2,a3,a4,c0,c1,c2,c3,c4⟩ Y wr:=by assumption
 rw[D.rt.lr,D.rt.lp,D.rt.lq,D.ln,h4] at h;exact h
theorem dO.set{w' D:Wd}(h:dO X b n A Y wr)(h1:bT Y k s=0)(E:cB Y k s=Z)(hc:WlC B Z)(hs:cO X w' B Z)(F:X b)(I:aC (fun c=>c=b) w' D)(hb:D.heap[b]?=some (.cells #[.slice B.a0 Z.fs.length B.c0,.slice B.a1 Z.rs.length B.c1,.slice B.a2 Z.ps.length B.c2,.slice B.a3 Z.qs.length B.c3,.slice B.a4 Z.pt.length B.c4] 28 (0,0))):dO X b n B (aT Y (k,s)) D:=by
 obtain⟨r1,r2⟩:=FD h.rt (k,s);have e:aT Y (k,s)=Z:=by unfold aT;rw[ye h1];exact E
 rw[e] at r1 r2 |-;refine⟨?_,hs.off (I.mono (fun c hc=>by rw[hc];exact F)),hc,r1,r2.trans h.ln⟩;rw[hb,r1.lr,r1.lp,r1.lq,r2,h.ln]
theorem dO.stay(h:dO X b n A Y wr)(h1:bT Y k s≠0):dO X b n A (aT Y (k,s)) wr:=by
 have e:aT Y (k,s)=Y:=by unfold aT;rw[yd h1]
 rw[e];exact h
abbrev Two(w:Wd)(D:Nat):Nat->Prop:=fun c=>c=w.heap.size\/c=D
structure ApI (w:Wd) (O:Int) (n bv:Nat) (A B:WA) (Y Z:Wl) (wr:Wd):Prop where
 bel:Bl w wr
 hb:w.heap.size+1<bv
 ko:wr.heap[w.heap.size+1]?=some (.cells #[.int .i64 O] 3 (0,0))
 w1:dO (Two w bv) w.heap.size n A Y wr
 w2:dO (Two w bv) bv n B Z wr
 base:Base O Y Z
theorem ApI.lt(h:ApI w O n D A B Y Z wr):∀ c,Two w D c->c<wr.heap.size:=fun c hc=>by
 rcases hc with rfl|rfl
 ·exact aR h.w1.box
 ·exact aR h.w2.box
theorem WO{W:Wd}{z0 Z F E D:Value}(u0 u1 u2 u3 u4:Value)(h:W.heap[b]?=some (.cells #[z0,Z,F,E,D] t (0,0))):aC (fun x=>x=b) W (((((W.setCell ⟨b,0,none⟩ u0).setCell ⟨b,1,none⟩ u1).setCell ⟨b,2,none⟩ u2).setCell ⟨b,3,none⟩ u3).setCell ⟨b,4,none⟩ u4)/\(((((W.setCell ⟨b,0,none⟩ u0).setCell ⟨b,1,none⟩ u1).setCell ⟨b,2,none⟩ u2).setCell ⟨b,3,none⟩ u3).setCell ⟨b,4,none⟩ u4).heap[b]?=some (.cells #[u0,u1,u2,u3,u4] t (0,0)):=by
 refine⟨((((aC.set (X:=fun x=>x=b) _ _ rfl).trans (aC.set (X:=fun x=>x=b) _ _ rfl)).trans (aC.set (X:=fun x=>x=b) _ _ rfl)).trans (aC.set (X:=fun x=>x=b) _ _ rfl)).trans (aC.set (X:=fun x=>x=b) _ _ rfl),?_⟩;have M:(W.setCell ⟨b,0,none⟩ u0).heap[b]?=some (.cells #[u0,Z,F,E,D] t (0,0)):=bR (i:=0) h;generalize W.setCell ⟨b,0,none⟩ u0=W0 at M |-;have O:(W0.setCell ⟨b,1,none⟩ u1).heap[b]?=some (.cells #[u0,u1,F,E,D] t (0,0)):=bR (i:=1) M;generalize W0.setCell ⟨b,1,none⟩ u1=I at O |-;have T:(I.setCell ⟨b,2,none⟩ u2).heap[b]?=some (.cells #[u0,u1,u2,E,D] t (0,0)):=bR (i:=2) O;generalize I.setCell ⟨b,2,none⟩ u2=J at T |-;have U:(J.setCell ⟨b,3,none⟩ u3).heap[b]?=some (.cells #[u0,u1,u2,u3,D] t (0,0)):=bR (i:=3) T;generalize J.setCell ⟨b,3,none⟩ u3=W3 at U |-;exact bR (i:=4) U
theorem WP{N:Nat}{W:Wd}(h:Below N w W)(hb:N<=b)(u0 u1 u2 u3 u4:Value):Below N w (((((W.setCell ⟨b,0,none⟩ u0).setCell ⟨b,1,none⟩ u1).setCell ⟨b,2,none⟩ u2).setCell ⟨b,3,none⟩ u3).setCell ⟨b,4,none⟩ u4) :=
 ((((h.setCell hb _).setCell hb _).setCell hb _).setCell hb _).setCell hb _
theorem Qe{o:Int}(h:fP Y.fs O o=true):fD Y O o.toNat:=(of_decide_eq_true h).2.2
theorem Qf(ln:Y.fs.length=n)(E:Y.fs=Z.fs)(hl:Y.pt.length=Z.pt.length)(D:∀ i,i<Y.pt.length->lS (fP Y.fs O (pt Y.pt i).o) (pt Y.pt i) (pt Z.pt i))(I:∀ k,k<n->(que Z k).length=(que Y k).length/\(¬ fD Y O k->que Z k=que Y k)):Seen O Y Z:=by
 refine⟨E.symm,hl.symm,fun i hi=>?_,fun i hi J=>?_,fun j F=>(I j (by rw[<- ln];exact F)).1,fun j F=>(I j (by rw[<- ln];exact F)).2⟩
 ·have h:=D i hi;unfold lS at h
  split at h
  ·rename_i hc;generalize pt Y.pt i=x at *;generalize pt Z.pt i=y at *;obtain⟨M,T,U,x4,x5⟩:=x;obtain⟨y1,y2,y3,y4,y5⟩:=y;simp only[Pt.mk.injEq] at h;dsimp only at hc |-;exact⟨h.1.symm,h.2.1.symm,h.2.2.1.symm,h.2.2.2.2.symm,hc.2.symm⟩
  ·rw[h];exact⟨rfl,rfl,rfl,rfl,rfl⟩
 ·have h:=D i hi;unfold lS at h;rw[yd (fun hc=>J (Qe hc.1))] at h;rw[h]
theorem MS{D V:Wd}{E:Bool}(h:dO X w.heap.size n A Y D)(ko:D.heap[w.heap.size+1]?=some (.cells #[.int .i64 O] 3 (0,0)))(hn:n<=1000)(hb:Bl D V)(F:fP Y.fs O k=E):yO 25 #[.int .i64 k,.pointer (some ⟨w.heap.size,0,none⟩),.pointer (some ⟨w.heap.size+1,0,none⟩)] V fun e w' => e=.returned (.bool E)/\∃ m,w' = V.drewN m:=by
 have h:=MP k O w.heap.size (w.heap.size+1) n A.a0 A.c0 Y.fs V h.ln hn (aA (dS h.box).1 hb) (aA (show D.cell? ⟨w.heap.size+1,0,none⟩=some (.int .i64 O) by simp[World.cell?,ko]) hb) (h.st.at.fs.below hb);rw[F] at h;exact h
theorem MU{D V:Wd}{E:Bool}(h:dO X w.heap.size n A Y D)(ko:D.heap[w.heap.size+1]?=some (.cells #[.int .i64 O] 3 (0,0)))(hn:n<=1000)(hb:Bl D V)(F:fP Y.fs O k=E):yO 25 #[.int .i64 k,.pointer (some ⟨w.heap.size,0,none⟩),.pointer (some ⟨w.heap.size+1,0,none⟩)] V fun e w' => e=.returned (.bool E)/\Below V.heap.size V w' :=
 (MS h ko hn hb F).mono fun e w' ⟨I,m,J⟩=>⟨I,by rw[J];exact dL (yv _ _) _⟩
theorem Qg(H:aI Y):Y.pt.length<=1000/\iH Y.pt/\∀ i,i<Y.pt.length->(pt Y.pt i).cm.length<=1000 :=
 ⟨by have:=H.pt.few;omega,(VM H.pt).big,fun i hi=>by
  obtain⟨_,_,_,_,h5,_⟩:=kH.1 (H.pt.ok i hi)
  omega⟩
structure ExB (w:Wd) (W:Wl) (O:Int) (n n4 bv:Nat) (ra pa:OA) (rc pc:Nat) (a0 a1 a2 a3 a4:OA) (c0 c1 c2 c3 c4:Nat) (V:Wl) (wr:Wd):Prop where
 ex:ExI w W (fD W O) n ra pa V wr
 hb:w.heap.size+1<bv
 kw:wr.heap[w.heap.size]?=some (.cells #[.slice a0 n c0,.slice a1 n c1,.slice a2 n c2,.slice a3 n c3,.slice a4 n4 c4] 28 (0,0))
 ko:wr.heap[w.heap.size+1]?=some (.cells #[.int .i64 O] 3 (0,0))
 kv:wr.heap[bv]?=some (.cells #[.slice a0 n c0,.slice ra n rc,.slice pa n pc,.slice a3 n c3,.slice a4 n4 c4] 28 (0,0))
theorem ExB.drewN(h:ExB w W O n E D F pa I pc a0 a1 a2 a3 a4 c0 c1 c2 c3 c4 V wr)(m:Nat):ExB w W O n E D F pa I pc a0 a1 a2 a3 a4 c0 c1 c2 c3 c4 V (wr.drewN m) :=
 ⟨h.ex.keep (iW.below (dL (yv _ _) m)) (dL h.ex.bel m),h.hb,aH h.kw (dL (yv _ _) m),aH h.ko (dL (yv _ _) m),aH h.kv (dL (yv _ _) m)⟩
theorem ExB.below{J:Wd}(h:ExB w W O n E D F pa I pc a0 a1 a2 a3 a4 c0 c1 c2 c3 c4 V wr)(hb:Bl wr J):ExB w W O n E D F pa I pc a0 a1 a2 a3 a4 c0 c1 c2 c3 c4 V J :=
 ⟨h.ex.keep (iW.below hb) (h.ex.bel.trans (hb.mono h.ex.bel.size)),h.hb,aH h.kw hb,aH h.ko hb,aH h.kv hb⟩
theorem ExB.first{w3 T E:Wd}(H:aI W)(hn:W.fs.length=n)(M:w.heap.size+1<D)(hP:Bl w E)(BP:Bl T E)(RR:pM w T F n W.rs)(RP:pO w E pa n W.ps)(K:E.heap[w.heap.size]?=some (.cells #[.slice a0 n c0,.slice a1 n c1,.slice a2 n c2,.slice a3 n c3,.slice a4 J c4] 28 (0,0)))(KO:E.heap[w.heap.size+1]?=some (.cells #[.int .i64 O] 3 (0,0)))(Z:E.heap[D]?=some (.cells #[.slice a0 n c0,.slice a1 n c1,.slice a2 n c2,.slice a3 n c3,.slice a4 J c4] 28 (0,0))) :
  ExB w W O n J D F pa I pc a0 a1 a2 a3 a4 c0 c1 c2 c3 c4 W ((E.setCell ⟨D,1,none⟩ (.slice F n I)).setCell ⟨D,2,none⟩ (.slice pa n pc)):=by
 have k1:(E.setCell ⟨D,1,none⟩ (.slice F n I)).heap[D]?=some (.cells #[.slice a0 n c0,.slice F n I,.slice a2 n c2,.slice a3 n c3,.slice a4 J c4] 28 (0,0)):=bR (i:=1) Z;have U:iW E ((E.setCell ⟨D,1,none⟩ (.slice F n I)).setCell ⟨D,2,none⟩ (.slice pa n pc)):=(iW.set Z oae oae).trans (iW.set k1 oae oae);refine⟨Qd _ H hn ((hP.setCell (by show w.heap.size<=D;omega) _).setCell (by show w.heap.size<=D;omega) _) ((RR.keep (iW.below BP)).keep U) (RP.keep U),M,?_,?_,bR (i:=2) k1⟩
 ·exact((yx _ _ _ _ (by show w.heap.size≠D;omega)).trans (yx _ _ _ _ (by show w.heap.size≠D;omega))).trans K
 ·exact((yx _ _ _ _ (by show w.heap.size+1≠D;omega)).trans (yx _ _ _ _ (by show w.heap.size+1≠D;omega))).trans KO
theorem ExB.setR{F:Nat}{D:OA}(h:ExB w W O n F E D pa I pc a0 a1 a2 a3 a4 c0 c1 c2 c3 c4 V wr)(hi:i<n)(T:fD W O i){A:RA}{R:Rl}(U:aU w A R)(M:iG R)(hz:R.s.length=(rl W.rs i).s.length)(hg:D=some ⟨g,0,none⟩) :
  ExB w W O n F E D pa I pc a0 a1 a2 a3 a4 c0 c1 c2 c3 c4 { V with rs:=V.rs.set i R } (vR wr g (i*4) A R):=by
 obtain⟨g', J,e,Z,hh,_⟩:=h.ex.rr i hi;rw[hg] at e;cases e;refine⟨h.ex.setR hi T U M hz hg,h.hb,(FM A R (fun e=>?_)).trans h.kw,(FM A R (fun e=>?_)).trans h.ko,(FM A R (fun e=>?_)).trans h.kv⟩
 ·subst e;have:=h.kw;rw[hh] at this;cases this
 ·subst e;have:=h.ko;rw[hh] at this;cases this
 ·subst e;have:=h.kv;rw[hh] at this;cases this
theorem ExB.setP{F:Nat}{I:OA}(h:ExB w W O n F E I pa J pc a0 a1 a2 a3 a4 c0 c1 c2 c3 c4 V wr)(hi:i<n)(U:fD W O i)(hp:dY w qa p)(T:p.length<=9223372036854775807)(hg:pa=some ⟨g,0,none⟩) :
  ExB w W O n F E I pa J pc a0 a1 a2 a3 a4 c0 c1 c2 c3 c4 { V with ps:=V.ps.set i p } (wr.setCell ⟨g,i,none⟩ (.slice qa p.length qc)):=by
 obtain⟨g', M,e,Z,hh,_⟩:=h.ex.rp i hi;rw[hg] at e;cases e;refine⟨h.ex.setP hi U hp T hg,h.hb,(yx _ _ _ _ (fun e=>?_)).trans h.kw,(yx _ _ _ _ (fun e=>?_)).trans h.ko,(yx _ _ _ _ (fun e=>?_)).trans h.kv⟩
 ·have D:w.heap.size=g:=e;subst D;have:=h.kw;rw[hh] at this;cases this
 ·have D:w.heap.size+1=g:=e;subst D;have:=h.ko;rw[hh] at this;cases this
 ·have D:E=g:=e;subst D;have:=h.kv;rw[hh] at this;cases this
theorem pM.cell(h:pM w wr a n R)(hi:i<n):∃ g E v1 v2 F,a=some ⟨g,0,none⟩/\w.heap.size<=g/\g<wr.heap.size/\wr.cell? ⟨g,i*4,none⟩=some E/\wr.cell? ⟨g,i*4+1,none⟩=some v1/\wr.cell? ⟨g,i*4+2,none⟩=some v2/\wr.cell? ⟨g,i*4+3,none⟩=some F/\∀ o,wr.frozen? ⟨g,o,none⟩=false:=by
 obtain⟨g,D,e,hg,hh,A,I,J,M,O,_⟩:=h i hi;exact⟨g,_,_,_,_,e,hg,aR hh,by simp only[World.cell?,hh];exact I,by simp only[World.cell?,hh];exact J,by simp only[World.cell?,hh];exact M,by simp only[World.cell?,hh];exact O,fun o=>by simp[World.frozen?,hh]⟩
theorem pO.cell{P:List (List Ac)}(h:pO w wr a n P)(hi:i<n):∃ g E,a=some ⟨g,0,none⟩/\w.heap.size<=g/\g<wr.heap.size/\wr.cell? ⟨g,i,none⟩=some E/\∀ o,wr.frozen? ⟨g,o,none⟩=false:=by
 obtain⟨g,D,e,hg,hh,A,qc,F,_⟩:=h i hi;exact⟨g,_,e,hg,aR hh,by simp only[World.cell?,hh];exact F,fun o=>by simp[World.frozen?,hh]⟩
theorem FO(hn:W.fs.length=n)(hi:i<n):fP W.fs O i=true↔fD W O i:=by
 unfold fP fD;rw[decide_eq_true_iff,yk,hn];exact⟨fun h=>h.2.2,fun h=>⟨oaa,oaa,h⟩⟩
