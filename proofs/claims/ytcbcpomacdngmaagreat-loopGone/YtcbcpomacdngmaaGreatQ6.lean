/-
  x
-/
import Derived.Test.YtcbcpomacdngmaaGreatQ5
import Derived.Laws.AppendOwnNone
import Derived.Deep.RegionHeld3
namespace Go.Proofs.YtcbcpomacdngmaaGreat
set_option maxRecDepth 100000
set_option maxHeartbeats 4000000
set_option linter.unusedVariables false
open Go.RowKit
def ziC(x:Nd)(v:Value):List Value:=[.bool x.u,.int .i64 x.n,.int .i64 x.t,.int .i64 x.m,.int .i64 x.p,v,.int .i64 x.h,.bool x.c]
def zee(S:List Nd)(K:Nat->Value)(q:Nat):List Value:=(List.range q).flatMap fun i=>ziC (nd S i) (K i)
theorem zge{α β:Type}{l:List α}{f g:α->List β}(h:∀ x ∈ l,f x=g x):l.flatMap f=l.flatMap g:=by
 induction l with
 | nil=>rfl
 | cons y l E=>simp only[List.flatMap_cons];rw[h y (by simp),E (fun x D=>h x (by simp[D]))]
theorem zoO(S:List Nd)(K:Nat->Value)(q:Nat)(v:Value):zee S K q++ziC (nd S q) v=zee S (fun i=>if i=q then v else K i) (q+1):=by
 unfold zee;rw[List.range_succ,List.flatMap_append]
 congr 1
 ·refine zge (fun x D=>?_);have:x≠q:=by have:=List.mem_range.1 D;omega
  simp only[ya this]
 ·simp
def zqu(B:Nat)(S:List Nd)(q:Nat)(K:Nat->Value)(v:Value)(w:World):Prop :=
 w.ownsRow B 57 8 v q (zee S K q)/\∀ i,i<q->w.ownsRow B 3 1 (K i) (nd S i).ks.length ((nd S i).ks.map (Value.int .i64))
def zli(w:World)(b:Nat)(v:Value):Prop:=w.heap[b]?=some (.cells #[v] 43 (0,0))
theorem zli.cell{w:World}{b:Nat}{v:Value}(h:zli w b v):w.cell? ⟨b,0,none⟩=some v:=by
 unfold zli at h;simp[World.cell?,h]
theorem zli.frozen{w:World}{b:Nat}{v:Value}(h:zli w b v):w.frozen? ⟨b,0,none⟩=false:=by
 unfold zli at h;simp[World.frozen?,h]
theorem zli.set{w:World}{b:Nat}{v D:Value}(h:zli w b v):zli (w.setCell ⟨b,0,none⟩ D) b D:=by
 unfold zli at h |-;show (w.heap.modify b _)[b]?=_;rw[Array.getElem?_modify,yb rfl,h];rfl
theorem zli.new(w:World)(v:Value)(b:Nat)(D:b=w.heap.size):zli (w.alloc (.cells #[v] 43)) b v:=by
 subst D;unfold zli;exact heap_alloc_new w _
theorem zli.alloc{w:World}{b:Nat}{v:Value}(h:zli w b v)(o:Obj):zli (w.alloc o) b v:=by
 have D:=yd _ _ h.cell;exact(Below.heap_alloc _ _ _ D).trans h
def zAQ(w:World)(S:List Nd)(q:Nat)(K:Nat->Value)(v:Value)(wr:World):Prop :=
 Below w.heap.size w wr/\w.heap.size+3<=wr.heap.size/\zli wr (w.heap.size+1) (.slice none 0 0)/\zli wr (w.heap.size+2) v/\zqu (w.heap.size+3) S q K v wr
theorem zAQ.step{w wr O w3:World}{S:List Nd}{q:Nat}{K:Nat->Value}{v v1 v2:Value}{o1 o3:Obj}(I:zAQ w S q K v wr)
  (U:((wr.alloc o1).alloc (.cells #[] 3)).grownBy O (some (wr.heap.size+1))) (F:O.ownsRow (wr.heap.size+1) 3 1 v1 (nd S q).ks.length ((nd S q).ks.map (Value.int .i64)))
  (Z:((O.setCell ⟨wr.heap.size,5,none⟩ v1).alloc o3).grownBy w3 v.ownBlock) (J:w3.ownsRow (w.heap.size+3) 57 8 v2 (q+1) (zee S K q++ziC (nd S q) v1)) :
  zAQ w S (q+1) (fun i=>if i=q then v1 else K i) v2 (w3.setCell ⟨w.heap.size+2,0,none⟩ v2):=by
 obtain⟨hb,hs,hr,ho,hm,D⟩:=I;have s2:=U.size;have s3:=Z.size;simp[World.setCell] at s2 s3;have a5:∀ k,v.ownBlock=some k->w.heap.size+3<=k/\k<wr.heap.size:=fun k D=>hm.lt k D
 have e2:∀ k,k<wr.heap.size->O.heap[k]?=wr.heap[k]?:=fun k D =>
  (U.block k (by simp;omega) (by intro e;have:=Option.some.inj e;omega)).trans ((Below.heap_alloc _ _ _ (by simp;omega)).trans (Below.heap_alloc _ _ _ D))
 have e3:∀ k,k<O.heap.size->k≠wr.heap.size->v.ownBlock≠some k->w3.heap[k]?=O.heap[k]?:=fun k D a6 a7 =>
  (Z.block k (by simp[World.setCell];omega) (fun e=>a7 e.symm)).trans ((Below.heap_alloc _ _ _ (by simp[World.setCell];omega)).trans (ys _ _ _ _ a6))
 have T:∀ k,k≠w.heap.size+2->(w3.setCell ⟨w.heap.size+2,0,none⟩ v2).heap[k]?=w3.heap[k]?:=fun k D=>ys _ _ _ _ D;have E:∀ k,k<w.heap.size+3->w3.heap[k]?=wr.heap[k]?:=fun k D=>(e3 k (by omega) (by omega) (fun e=>by have:=(a5 k e).1;omega)).trans (e2 k (by omega));refine⟨⟨Z.os.trans (U.os.trans hb.os),Z.tape.trans (U.tape.trans hb.tape),Z.output.trans (U.output.trans hb.output),by simp[World.setCell];omega,fun k D=>?_⟩,by simp[World.setCell];omega,?_,?_,?_,fun i hi=>?_⟩
 ·exact(T k (by omega)).trans ((E k (by omega)).trans (hb.block k D))
 ·exact(T _ (by omega)).trans ((E _ (by omega)).trans hr)
 ·exact zli.set (v:=v) ((E _ (by omega)).trans ho)
 ·rw[<- zoO];exact zau J (fun k D=>T k (by have:=(J.lt k D).1;omega))
 ·by_cases e:i=q
  ·subst e;simp only[if_true];refine zau (zaP F (by omega)) (fun k D=>?_);have hl:=F.lt k D;exact(T k (by omega)).trans (e3 k (by omega) (by omega) (fun e=>by have:=(a5 k e).2;omega))
  ·simp only[ya e];have M:=D i (by omega);refine zau M (fun k D=>?_);have hl:=M.lt k D;exact(T k (by omega)).trans ((e3 k (by omega) (by omega) (zcG M hm (by decide) k D)).trans (e2 k (by omega)))
theorem zdi(S:List Nd)(K:Nat->Value)(q:Nat):(zee S K q).length=q*8:=by
 unfold zee
 induction q with
 | zero=>rfl
 | succ q D=>rw[List.range_succ,List.flatMap_append,List.length_append,D];simp[ziC];omega
theorem zhj(S:List Nd)(K:Nat->Value){q i j:Nat}(hi:i<q)(E:j<8):(zee S K q)[i*8+j]?=(ziC (nd S i) (K i))[j]?:=by
 induction q with
 | zero=>omega
 | succ q D =>
  have hs:zee S K (q+1)=zee S K q++ziC (nd S q) (K q):=by unfold zee;rw[List.range_succ,List.flatMap_append];simp
  rw[hs];by_cases e:i<q
  ·rw[List.getElem?_append_left (by rw[zdi];omega)];exact D e
  ·have:i=q:=by omega
   subst this;rw[List.getElem?_append_right (by rw[zdi];omega),zdi]
   congr 1
   omega
theorem zqu.nds{B:Nat}{S:List Nd}{K:Nat->Value}{v:Value}{w:World}(h:zqu B S S.length K v w):∃ a c,v=.slice a S.length c/\zah w a S:=by
 obtain⟨E,O⟩:=h;have D:=E;obtain⟨hl,h⟩:=E;rcases h with ⟨rfl,h0⟩ |⟨g,cap,F,rfl,hb,hg,h1,T,U,Z⟩
 ·exact⟨none,0,by rw[h0],fun i hi=>by omega⟩
 ·refine⟨some ⟨g,0,none⟩,cap,rfl,fun i hi=>⟨g,0,rfl,?_⟩⟩
  have hc:∀ j,j<8->w.cell? ⟨g,i*8+j,none⟩=(ziC (nd S i) (K i))[j]?:=fun j M=>by
   rw[<- zhj S K hi M];exact D.cellAt (i*8+j) (by omega)
  obtain⟨sa,sc,I,J⟩:=zeE (O i hi);rw[yz];refine⟨hc 0 (by omega),hc 1 (by omega),hc 2 (by omega),hc 3 (by omega),hc 4 (by omega),⟨sa,sc,?_,J⟩,hc 6 (by omega),hc 7 (by omega)⟩;rw[hc 5 (by omega),I];rfl
theorem zrn{S F:List Nd}{K E:Nat->Value}{q k j:Nat}{u:Value}(J:j<8)
  (hc:∀ i,i<q->∀ D,D<8->(ziC (nd F i) (E i))[D]?=if i=k/\D=j then some u else (ziC (nd S i) (K i))[D]?):(zee S K q).set (k*8+j) u=zee F E q:=by
 refine List.ext_getElem? (fun m=>?_);by_cases M:m<q*8
 ·have h1:m / 8<q:=by omega
  have I:m % 8<8:=by omega
  have e:m=m / 8*8+m % 8:=by omega
  rw[e,zhj F E h1 I,hc _ h1 _ I,List.getElem?_set];by_cases hh:m / 8=k/\m % 8=j
  ·rw[yb (by omega),yb (by rw[zdi];omega),yb hh]
  ·rw[ya (by omega),ya hh,zhj S K h1 I]
 ·rw[List.getElem?_eq_none (by rw[List.length_set,zdi];omega),List.getElem?_eq_none (by rw[zdi];omega)]
theorem zqu.put{B:Nat}{S E:List Nd}{q:Nat}{K I:Nat->Value}{g cap:Nat}{w:World}(h:zqu B S q K (.slice (some ⟨g,0,none⟩) q cap) w){k j:Nat}{u:Value}(O:j<8)
  (hc:∀ i,i<q->∀ F,F<8->(ziC (nd E i) (I i))[F]?=if i=k/\F=j then some u else (ziC (nd S i) (K i))[F]?)
  (D:∀ i,i<q->w.ownsRow B 3 1 (I i) (nd E i).ks.length ((nd E i).ks.map (Value.int .i64))):zqu B E q I (.slice (some ⟨g,0,none⟩) q cap) (w.setCell ⟨g,k*8+j,none⟩ u):=by
 refine⟨?_,fun i hi=>?_⟩
 ·have J:=(h.1.stored (k*8+j) u).1;rw[zrn O hc] at J;exact J
 ·exact zau (D i hi) (fun b M=>ys _ _ _ _ (fun e=>zcG (D i hi) h.1 (by decide) b M (by rw[show b=g from e];rfl)))
theorem zqu.other{B:Nat}{S:List Nd}{q:Nat}{K:Nat->Value}{v:Value}{w w' : World}(h:zqu B S q K v w)(E:∀ b,B<=b->b<w.heap.size->w'.heap[b]?=w.heap[b]?):zqu B S q K v w' :=
 ⟨zau h.1 (fun k D=>E k (h.1.lt k D).1 (h.1.lt k D).2),fun i hi=>zau (h.2 i hi) (fun k D=>E k ((h.2 i hi).lt k D).1 ((h.2 i hi).lt k D).2)⟩
theorem zqu.cellAt{B:Nat}{S:List Nd}{q:Nat}{K:Nat->Value}{g cap:Nat}{w:World}(h:zqu B S q K (.slice (some ⟨g,0,none⟩) q cap) w){i j:Nat}(hi:i<q)(D:j<8):w.cell? ⟨g,i*8+j,none⟩=(ziC (nd S i) (K i))[j]?:=by
 rw[<- zhj S K hi D];exact h.1.cellAt (i*8+j) (by omega)
theorem zqu.frozenAt{B:Nat}{S:List Nd}{q:Nat}{K:Nat->Value}{g cap:Nat}{w:World}(h:zqu B S q K (.slice (some ⟨g,0,none⟩) q cap) w)(j:Nat):w.frozen? ⟨g,j,none⟩=false:=h.1.frozenAt j
end Go.Proofs.YtcbcpomacdngmaaGreat
