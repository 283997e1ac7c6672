/-
  x
-/
import Derived.Test.YtojlkdekdbdpoaaGreatJSrWfXdZaTlTmTnZf
import Derived.Test.YtojlkdekdbdpoaaGreatJTjUaUb
import Derived.Deep.RegionHeld3
namespace Go.Proofs.YtojlkdekdbdpoaaGreat
open Go.RowKit
structure Tst where
 t:Int
 m:Int
 near:Bool
def testB(T M:Int)(x:Nd):Bool:=(decide (T = -1000001) || decide (T=x.t)) && (decide (M = -1000001) || decide (M=x.m))
def zbf(near:Bool):(Nat→Bool) × List Int→Int→((Nat→Bool) × List Int) × Bool:=fun st x =>
 if st.1 x.toNat then (st,false) else ((fun j=>if j=x.toNat then true else st.1 j,st.2++[x]),!near)
theorem zcH{near:Bool}{st:(Nat→Bool) × List Int}{y:Nat}(h:st.1 y=true):zbf near st (y:Int)=(st,false):=by
 unfold zbf
 rw[Int.toNat_natCast,if_pos h]
theorem zdg{near:Bool}{st:(Nat→Bool) × List Int}{y:Nat}(h:st.1 y=false):zbf near st (y:Int)=((fun j=>if j=y then true else st.1 j,st.2++[(y:Int)]),!near):=by
 unfold zbf
 rw[Int.toNat_natCast,if_neg (by rw[h];exact Bool.false_ne_true)]
def zew(S:List Nd)(near:Bool)(st:(Nat→Bool) × List Int)(place:Int):(Nat→Bool) × List Int :=
 if isPl S.length place then zbi S Nd.p (zbf near) S.length (nd S place.toNat).p st else st
def zcG(S:List Nd)(near:Bool)(places:List Int):(Nat→Bool) × List Int:=places.foldl (zew S near) (fun _=>false,[])
def zcj(S:List Nd)(near:Bool)(places:List Int):List Int:=(zcG S near places).2
theorem zif(S:List Nd)(near:Bool)(places:List Int)(k:Nat)(h:k<places.length):zcG S near (places.take (k+1))=zew S near (zcG S near (places.take k)) (places.getD k 0):=by
 unfold zcG
 rw[List.take_add_one,List.foldl_append,List.getElem?_eq_getElem h,zad places 0 h]
 rfl
def siftF(S:List Nd)(te:Tst)(ps:List Int):List Int:=flt (fun x=>!testB te.t te.m (nd S x.toNat)) ps
def soGo(S:List Nd):List Tst→List Int→List Int
 | [],ps=>ps
 | [te],ps=>siftF S te ps
 | te :: te' :: r,ps=>soGo S (te' :: r) (zcj S te.near (siftF S te ps))
def isSoF(S:List Nd)(place:Int)(q:List Tst):Bool:=decide (0<(soGo S q.reverse [place]).length)
def PUp(S:List Nd):Nat→Nat→Nat→Prop
 | 0,x,p=>x=p
 | j+1,x,p=>∃ y:Nat,y<S.length∧(nd S x).p=y∧PUp S j y p
theorem PUp.lt{S:List Nd}:∀ {j x y:Nat},x<S.length→PUp S j x y→y<S.length
 | 0,_,_,hx,h=>by cases h;exact hx
 | _+1,_,_,_,⟨_,h1,_,h3⟩=>PUp.lt h1 h3
theorem PUp.up{S:List Nd}(h:WF S):∀ {j x y:Nat},x<S.length→PUp S j x y→Up S j x y
 | 0,_,_,_,hu=>hu
 | j+1,x,y,hx,⟨z,h1,h2,h3⟩=>by
  refine⟨z,h1,?_,PUp.up h h1 h3⟩
  unfold zae
  rw[if_pos (h.host_of_parent hx (by omega)).1]
  exact h2
structure Con (S:List Nd) (st:(Nat→Bool) × List Int):Prop where
 mem:∀ x ∈ st.2,∃ k:Nat,x=k∧k<S.length∧st.1 k=true
 all:∀ k,st.1 k=true→k<S.length∧(k:Int) ∈ st.2
theorem Con.iff{S:List Nd}{st:(Nat→Bool) × List Int}(h:Con S st)(k:Nat):(k:Int) ∈ st.2↔st.1 k=true:=by
 constructor
 ·intro hm
  obtain⟨k', e,_,hs⟩:=h.mem _ hm
  have:k' = k:=by omega
  rw[← this];exact hs
 ·intro hs;exact(h.all k hs).2
theorem Con.add{S:List Nd}{st:(Nat→Bool) × List Int}(h:Con S st){k:Nat}(hk:k<S.length):Con S (fun j=>if j=k then true else st.1 j,st.2++[(k:Int)]):=by
 refine⟨fun x hx=>?_,fun j hj=>?_⟩
 ·rcases List.mem_append.1 hx with hx|hx
  ·obtain⟨i,e,h1,h2⟩:=h.mem x hx
   refine⟨i,e,h1,?_⟩
   dsimp only
   split
   ·rfl
   ·exact h2
  ·exact⟨k,by simpa using hx,hk,if_pos rfl⟩
 ·dsimp only at hj
  split at hj
  ·rename_i e
   subst e
   exact⟨hk,by simp⟩
  ·obtain⟨h1,h2⟩:=h.all j hj
   exact⟨h1,List.mem_append.2 (Or.inl h2)⟩
def ClU(S:List Nd)(st:(Nat→Bool) × List Int)(y:Int):Prop:=∀ a,st.1 a=true→∀ b:Nat,(nd S a).p=b→b<S.length→st.1 b=true∨(b:Int)=y
theorem ClU.up{S:List Nd}{st:(Nat→Bool) × List Int}(h:∀ a,st.1 a=true→∀ b:Nat,(nd S a).p=b→b<S.length→st.1 b=true):∀ {j x z:Nat},st.1 x=true→PUp S j x z→st.1 z=true
 | 0,_,_,hx,hu=>by cases hu;exact hx
 | _+1,_,_,hx,⟨y,h1,h2,h3⟩=>ClU.up h (h _ hx y h2 h1) h3
theorem zii{S:List Nd}:∀ (f:Nat) (y:Int) (st:(Nat→Bool) × List Int),Con S st→ClU S st y→(∀ y0:Nat,y=y0→y0<S.length→∀ j z,PUp S j y0 z→j<f) →
  Con S (zbi S Nd.p (zbf false) f y st)∧(∀ a,(zbi S Nd.p (zbf false) f y st).1 a=true→∀ b:Nat,(nd S a).p=b→b<S.length→(zbi S Nd.p (zbf false) f y st).1 b=true) ∧
  ∀ z,(zbi S Nd.p (zbf false) f y st).1 z=true↔st.1 z=true∨∃ (y0 j:Nat),y=y0∧y0<S.length∧PUp S j y0 z
 | 0,y,st,hc,hcl,hf=>by
  have hn:∀ y0:Nat,y=y0→¬ y0<S.length:=fun y0 e hy=>by have:=hf y0 e hy 0 y0 rfl;omega
  refine⟨hc,fun a ha b hb hbl=>?_,fun z=>⟨Or.inl,fun h=>?_⟩⟩
  ·rcases hcl a ha b hb hbl with h|h
   ·exact h
   ·exact absurd hbl (hn b h.symm)
  ·rcases h with h |⟨y0,j,e,hy,_⟩
   ·exact h
   ·exact absurd hy (hn y0 e)
 | f+1,y,st,hc,hcl,hf=>by
  simp only[zbi]
  by_cases hp:isPl S.length y=true
  ·have hq:0≤y∧y≤(S.length:Int)-1:=of_decide_eq_true hp
   obtain⟨y0,rfl⟩:∃ k:Nat,y=(k:Int):=⟨y.toNat,by omega⟩
   have hy0:y0<S.length:=by omega
   rw[if_pos hp]
   cases hs:st.1 y0 with
   | true =>
    rw[zcH hs]
    simp only[Bool.false_eq_true,if_false]
    have hcl' : ∀ a,st.1 a=true→∀ b:Nat,(nd S a).p=b→b<S.length→st.1 b=true:=fun a ha b hb hbl=>by
     rcases hcl a ha b hb hbl with h|h
     ·exact h
     ·have:b=y0:=by omega
      rw[this];exact hs
    refine⟨hc,hcl', fun z=>⟨Or.inl,fun h=>?_⟩⟩
    rcases h with h |⟨y1,j,e,_,hu⟩
    ·exact h
    ·have:y1=y0:=by omega
     subst this
     exact ClU.up hcl' hs hu
   | false =>
    rw[zdg hs]
    simp only[Bool.not_false,if_true,Int.toNat_natCast]
    obtain⟨g1,g2,g3⟩:=zii f (nd S y0).p (fun j=>if j=y0 then true else st.1 j,st.2++[(y0:Int)]) (hc.add hy0) (fun a ha b hb hbl=>by
     dsimp only at ha ⊢
     by_cases e:a=y0
     ·subst e
      exact Or.inr hb.symm
     ·rw[if_neg e] at ha
      rcases hcl a ha b hb hbl with h|h
      ·left
       split
       ·rfl
       ·exact h
      ·left
       rw[if_pos (by omega)]) (fun y1 e hy1 j z hu=>by
     have:=hf y0 rfl hy0 (j+1) z ⟨y1,hy1,e,hu⟩
     omega)
    refine⟨g1,g2,fun z=>?_⟩
    rw[g3 z]
    dsimp only
    constructor
    ·rintro(h |⟨y1,j,e,hy1,hu⟩)
     ·by_cases ez:z=y0
      ·exact Or.inr ⟨y0,0,rfl,hy0,ez.symm⟩
      ·rw[if_neg ez] at h
       exact Or.inl h
     ·exact Or.inr ⟨y0,j+1,rfl,hy0,⟨y1,hy1,e,hu⟩⟩
    ·rintro(h |⟨y1,j,e,_,hu⟩)
     ·left
      split
      ·rfl
      ·exact h
     ·have:y1=y0:=by omega
      subst this
      cases j with
      | zero=>left;rw[if_pos hu.symm]
      | succ j =>
       obtain⟨y2,h1,h2,h3⟩:=hu
       exact Or.inr ⟨y2,j,h2,h1,h3⟩
  ·rw[if_neg hp]
   have hn:∀ y0:Nat,y=y0→¬ y0<S.length:=fun y0 e hy=>hp (decide_eq_true ⟨by omega,by omega⟩)
   refine⟨hc,fun a ha b hb hbl=>?_,fun z=>⟨Or.inl,fun h=>?_⟩⟩
   ·rcases hcl a ha b hb hbl with h|h
    ·exact h
    ·exact absurd hbl (hn b h.symm)
   ·rcases h with h |⟨y0,j,e,hy,_⟩
    ·exact h
    ·exact absurd hy (hn y0 e)
theorem zkJ{S:List Nd}{f:Nat}(hf:0<f)(y:Int)(st:(Nat→Bool) × List Int)(hc:Con S st) :
  Con S (zbi S Nd.p (zbf true) f y st)∧∀ z,(zbi S Nd.p (zbf true) f y st).1 z=true↔st.1 z=true∨(y=z∧z<S.length):=by
 obtain⟨f,rfl⟩:∃ g,f=g+1:=⟨f-1,by omega⟩
 simp only[zbi]
 by_cases hp:isPl S.length y=true
 ·have hq:0≤y∧y≤(S.length:Int)-1:=of_decide_eq_true hp
  obtain⟨y0,rfl⟩:∃ k:Nat,y=(k:Int):=⟨y.toNat,by omega⟩
  have hy0:y0<S.length:=by omega
  rw[if_pos hp]
  cases hs:st.1 y0 with
  | true =>
   rw[zcH hs]
   simp only[Bool.false_eq_true,if_false]
   refine⟨hc,fun z=>⟨Or.inl,fun h=>?_⟩⟩
   rcases h with h |⟨e,_⟩
   ·exact h
   ·have:z=y0:=by omega
    rw[this];exact hs
  | false =>
   rw[zdg hs]
   simp only[Bool.not_true,Bool.false_eq_true,if_false]
   refine⟨hc.add hy0,fun z=>?_⟩
   constructor
   ·intro h
    by_cases ez:z=y0
    ·exact Or.inr ⟨by rw[ez],by omega⟩
    ·rw[if_neg ez] at h;exact Or.inl h
   ·rintro(h |⟨e,_⟩)
    ·split
     ·rfl
     ·exact h
    ·rw[if_pos (by omega)]
 ·rw[if_neg hp]
  refine⟨hc,fun z=>⟨Or.inl,fun h=>?_⟩⟩
  rcases h with h |⟨e,hz⟩
  ·exact h
  ·exact absurd (decide_eq_true ⟨by omega,by omega⟩) hp
def Abv(S:List Nd)(near:Bool)(k x:Nat):Prop:=if near then (nd S k).p=x∧x<S.length else ∃ (y0 j:Nat),(nd S k).p=y0∧y0<S.length∧PUp S j y0 x
theorem Abv.far{S:List Nd}{near:Bool}{k x:Nat}(h:Abv S near k x):Abv S false k x:=by
 cases near with
 | false=>exact h
 | true =>
  obtain⟨h1,h2⟩:(nd S k).p=x∧x<S.length:=h
  exact(show ∃ (y0 j:Nat),_ from ⟨x,0,h1,h2,rfl⟩)
theorem zeg{S:List Nd}(h:WF S)(near:Bool):∀ (ps:List Int) (st:(Nat→Bool) × List Int),(∀ x ∈ ps,∃ k:Nat,x=k∧k<S.length)→Con S st→(near=false→∀ a,st.1 a=true→∀ b:Nat,(nd S a).p=b→b<S.length→st.1 b=true) →
  Con S (ps.foldl (zew S near) st)∧∀ z,(ps.foldl (zew S near) st).1 z=true↔st.1 z=true∨∃ k:Nat,(k:Int) ∈ ps∧Abv S near k z
 | [],st,_,hc,_=>⟨hc,fun z=>⟨Or.inl,fun h=>by
   rcases h with h |⟨k,hk,_⟩
   ·exact h
   ·cases hk⟩⟩
 | x :: ps,st,hps,hc,hcl=>by
  obtain⟨k,rfl,hk⟩:=hps x (by simp)
  have hpl:isPl S.length (k:Int)=true:=decide_eq_true ⟨by omega,by omega⟩
  simp only[List.foldl_cons]
  have e:zew S near st (k:Int)=zbi S Nd.p (zbf near) S.length (nd S k).p st:=by
   unfold zew
   rw[if_pos hpl,Int.toNat_natCast]
  rw[e]
  cases near with
  | true =>
   obtain⟨g1,g2⟩:=zkJ (f:=S.length) (by omega) (nd S k).p st hc
   obtain⟨i1,i2⟩:=zeg h true ps _ (fun x hx=>hps x (by simp[hx])) g1 (fun e=>by cases e)
   refine⟨i1,fun z=>?_⟩
   rw[i2 z,g2 z]
   constructor
   ·rintro((h|h) |⟨k', hk', h⟩)
    ·exact Or.inl h
    ·exact Or.inr ⟨k,by simp,h⟩
    ·exact Or.inr ⟨k', by simp[hk'],h⟩
   ·rintro(h |⟨k', hk', h⟩)
    ·exact Or.inl (Or.inl h)
    ·rcases List.mem_cons.1 hk' with e|hk'
     ·have:k' = k:=by omega
      subst this
      exact Or.inl (Or.inr h)
     ·exact Or.inr ⟨k', hk', h⟩
  | false =>
   obtain⟨g1,g2,g3⟩:=zii S.length (nd S k).p st hc (fun a ha b hb hbl=>Or.inl (hcl rfl a ha b hb hbl)) (fun y0 e hy0 j z hu=>by
    have:=h.up_short hy0 (hu.up h hy0)
    omega)
   obtain⟨i1,i2⟩:=zeg h false ps _ (fun x hx=>hps x (by simp[hx])) g1 (fun _=>g2)
   refine⟨i1,fun z=>?_⟩
   rw[i2 z,g3 z]
   constructor
   ·rintro((h |⟨y0,j,e,hy,hu⟩) |⟨k', hk', h⟩)
    ·exact Or.inl h
    ·exact Or.inr ⟨k,by simp,(show ∃ (y0 j:Nat),_ from ⟨y0,j,e,hy,hu⟩)⟩
    ·exact Or.inr ⟨k', by simp[hk'],h⟩
   ·rintro(h |⟨k', hk', h⟩)
    ·exact Or.inl (Or.inl h)
    ·rcases List.mem_cons.1 hk' with e|hk'
     ·have:k' = k:=by omega
      subst this
      obtain⟨y0,j,e,hy,hu⟩:∃ (y0 j:Nat),(nd S k').p=y0∧y0<S.length∧PUp S j y0 z:=h
      exact Or.inl (Or.inr ⟨y0,j,e,hy,hu⟩)
     ·exact Or.inr ⟨k', hk', h⟩
def zbJ(S:List Nd)(ps:List Int):Prop:=∀ x ∈ ps,∃ k:Nat,x=k∧k<S.length
theorem zht{S:List Nd}(h:WF S)(near:Bool){ps:List Int}(hps:zbJ S ps):zbJ S (zcj S near ps)∧∀ z:Nat,(z:Int) ∈ zcj S near ps↔∃ k:Nat,(k:Int) ∈ ps∧Abv S near k z:=by
 obtain⟨h1,h2⟩:=zeg h near ps (fun _=>false,[]) hps ⟨fun x hx=>(by cases hx),fun k hk=>(by cases hk)⟩ (fun _ a ha=>by cases ha)
 refine⟨fun x hx=>?_,fun z=>?_⟩
 ·obtain⟨k,e,hk,_⟩:=h1.mem x hx
  exact⟨k,e,hk⟩
 ·rw[show zcj S near ps=(ps.foldl (zew S near) (fun _=>false,[])).2 from rfl,h1.iff z,h2 z]
  constructor
  ·rintro(h|h)
   ·cases h
   ·exact h
  ·exact Or.inr
theorem zeB{S:List Nd}{te:Tst}{ps:List Int}{x:Int}:x ∈ siftF S te ps↔x ∈ ps∧testB te.t te.m (nd S x.toNat)=true:=by
 unfold siftF
 rw[zgF]
 simp
theorem zbJ.sift{S:List Nd}{te:Tst}{ps:List Int}(h:zbJ S ps):zbJ S (siftF S te ps):=fun x hx=>h x (zeB.1 hx).1
end Go.Proofs.YtojlkdekdbdpoaaGreat

namespace Go.Proofs.YtojlkdekdbdpoaaGreat
set_option maxRecDepth 100000
set_option maxHeartbeats 4000000
open Go.RowKit
theorem zhI(T M:Int)(near:Bool)(x:Nd)(k:Value)(w:World) :
  Calls Tryz.prog 133 #[.agg #[.int .i64 T,.int .i64 M,.bool near],.agg #[.bool x.u,.int .i64 x.n,.int .i64 x.t,.int .i64 x.m,.int .i64 x.p,k,.int .i64 x.h,.bool x.c]] w fun e w' => e=.returned (.bool (testB T M x))∧Below w.heap.size w w' := by
 obtain⟨xu,xn,xt,xm,xp,xks,xh,xc⟩:=x
 unfold testB
 dsimp only
 by_cases h1:T = -1000001
 ·subst h1
  simp only[decide_true,Bool.true_or,Bool.true_and]
  by_cases h3:M = -1000001
  ·subst h3
   simp only[decide_true,Bool.true_or]
   go_enter Tryz.func133,Tryz.ntmps133
   go_wp2
   go_ret
   exact⟨rfl,((Below.refl _ _).alloc (Nat.le_refl _) _).alloc (by simp) _⟩
  ·have e3:(M == -1000001)=false:=beq_eq_false_iff_ne.2 h3
   rw[decide_eq_false h3,Bool.false_or]
   by_cases h4:M=xm
   ·subst h4
    simp only[decide_true]
    go_enter Tryz.func133,Tryz.ntmps133
    go_wp2
    go_ret
    exact⟨by simp,((Below.refl _ _).alloc (Nat.le_refl _) _).alloc (by simp) _⟩
   ·have e4:(M == xm)=false:=beq_eq_false_iff_ne.2 h4
    rw[decide_eq_false h4]
    go_enter Tryz.func133,Tryz.ntmps133
    go_wp2
    go_ret
    refine⟨?_,((Below.refl _ _).alloc (Nat.le_refl _) _).alloc (by simp) _⟩
    first
     | rfl
     | simp[e4]
 ·have e1:(T == -1000001)=false:=beq_eq_false_iff_ne.2 h1
  rw[decide_eq_false h1,Bool.false_or]
  by_cases h2:T=xt
  ·subst h2
   simp only[decide_true,Bool.true_and]
   by_cases h3:M = -1000001
   ·subst h3
    simp only[decide_true,Bool.true_or]
    go_enter Tryz.func133,Tryz.ntmps133
    go_wp2
    go_ret
    exact⟨rfl,((Below.refl _ _).alloc (Nat.le_refl _) _).alloc (by simp) _⟩
   ·have e3:(M == -1000001)=false:=beq_eq_false_iff_ne.2 h3
    rw[decide_eq_false h3,Bool.false_or]
    by_cases h4:M=xm
    ·subst h4
     simp only[decide_true]
     go_enter Tryz.func133,Tryz.ntmps133
     go_wp2
     go_ret
     exact⟨by simp,((Below.refl _ _).alloc (Nat.le_refl _) _).alloc (by simp) _⟩
    ·have e4:(M == xm)=false:=beq_eq_false_iff_ne.2 h4
     rw[decide_eq_false h4]
     go_enter Tryz.func133,Tryz.ntmps133
     go_wp2
     go_ret
     refine⟨?_,((Below.refl _ _).alloc (Nat.le_refl _) _).alloc (by simp) _⟩
     first
      | rfl
      | simp[e4]
  ·have e2:(T == xt)=false:=beq_eq_false_iff_ne.2 h2
   rw[decide_eq_false h2,Bool.false_and]
   go_enter Tryz.func133,Tryz.ntmps133
   go_wp2
   go_ret
   exact⟨rfl,((Below.refl _ _).alloc (Nat.le_refl _) _).alloc (by simp) _⟩
theorem znW(a:Option Addr)(c:Nat)(S:List Nd)(T M:Int)(near:Bool)(bt bs:Nat)(k:Nat)(w:World)(hk:k<S.length)(hS:NdsAt w a S)(ht0:w.cell? ⟨bt,0,none⟩=some (.int .i64 T))(ht1:w.cell? ⟨bt,1,none⟩=some (.int .i64 M))(ht2:w.cell? ⟨bt,2,none⟩=some (.bool near))(hs:w.cell? ⟨bs,0,none⟩=some (.slice a S.length c)) :
  Calls Tryz.prog 132 #[.int .i64 (k:Int),.pointer (some ⟨bt,0,none⟩),.pointer (some ⟨bs,0,none⟩)] w fun e w' => e=.returned (.bool (!testB T M (nd S k)))∧Below w.heap.size w w' := by
 have hk2:(k:Int)<(S.length:Int):=by omega
 obtain⟨b,o,rfl,c0,c1,c2,c3,c4,⟨ka,kc,c5,_⟩,c6,c7⟩:=hS k hk
 have d1:=fun v W=>zhI T M near (nd S k) v W
 clear hS
 generalize testB T M (nd S k)=r at *
 generalize nd S k=x at *
 generalize S.length=n at *
 go_enter Tryz.func132,Tryz.ntmps132
 go_wp2_with fail
 go_region_held3 (fun w'' => w''.cell? ⟨bt,0,none⟩=some (.int .i64 T)∧w''.cell? ⟨bt,1,none⟩=some (.int .i64 M)∧w''.cell? ⟨bt,2,none⟩=some (.bool near)∧w''.cell? ⟨bs,0,none⟩=some (.slice (some ⟨b,o,none⟩) n c)∧w''.cell? ⟨b,o+k*8,none⟩=some (.bool x.u)∧w''.cell? ⟨b,o+k*8+1,none⟩=some (.int .i64 x.n)∧w''.cell? ⟨b,o+k*8+2,none⟩=some (.int .i64 x.t)∧w''.cell? ⟨b,o+k*8+3,none⟩=some (.int .i64 x.m)∧w''.cell? ⟨b,o+k*8+4,none⟩=some (.int .i64 x.p)∧w''.cell? ⟨b,o+k*8+5,none⟩=some (.slice ka x.ks.length kc)∧w''.cell? ⟨b,o+k*8+6,none⟩=some (.int .i64 x.h)∧w''.cell? ⟨b,o+k*8+7,none⟩=some (.bool x.c)) (go_keep) (first|(go_at_call 133;refine(d1 _ _).mono ?_;rintro e w2 ⟨rfl,hb2⟩;have hb22:Below w.heap.size w w2:=((Below.refl _ _).drew).trans hb2;have m0:=(hb22.cell (World.block_lt_of_cell? _ _ ht0)).trans ht0;have m1:=(hb22.cell (World.block_lt_of_cell? _ _ ht1)).trans ht1;have m2:=(hb22.cell (World.block_lt_of_cell? _ _ ht2)).trans ht2;have m3:=(hb22.cell (World.block_lt_of_cell? _ _ hs)).trans hs;have n0:=(hb22.cell (World.block_lt_of_cell? _ _ c0)).trans c0;have n1:=(hb22.cell (World.block_lt_of_cell? _ _ c1)).trans c1;have n2:=(hb22.cell (World.block_lt_of_cell? _ _ c2)).trans c2;have n3:=(hb22.cell (World.block_lt_of_cell? _ _ c3)).trans c3;have n4:=(hb22.cell (World.block_lt_of_cell? _ _ c4)).trans c4;have n5:=(hb22.cell (World.block_lt_of_cell? _ _ c5)).trans c5;have n6:=(hb22.cell (World.block_lt_of_cell? _ _ c6)).trans c6;have n7:=(hb22.cell (World.block_lt_of_cell? _ _ c7)).trans c7;clear hb2))
 all_goals go_wp2
 all_goals go_ret
 all_goals exact⟨rfl,hb22⟩
end Go.Proofs.YtojlkdekdbdpoaaGreat

namespace Go.Proofs.YtojlkdekdbdpoaaGreat
set_option maxRecDepth 100000
set_option maxHeartbeats 4000000
open Go.RowKit
theorem zeX(K:Nat)(caps:Array Value)(p:Int→Bool)(a:Option Addr)(c:Nat)(ks:List Int)(w:World)(hbig:ks.length≤9223372036854775807)(hks:zah w a ks)
  (eg:∀ args w,(callFunc K args).run Tryz.prog w=.ok (.enter K args) w) (hf:∀ x ∈ ks,∀ w1,Below w.heap.size w w1→Calls Tryz.prog K (#[.int .i64 x] ++ caps) w1 fun e w2=>e=.returned (.bool (p x))∧Below w1.heap.size w1 w2) :
  Calls Tryz.prog 127 #[.slice a ks.length c,.func (.func K) #[] caps] w fun e w' => ∃ r:Int,e=.returned (.int .i64 r)∧Below w.heap.size w w' ∧
   ((r = -1∧∀ i,i<ks.length→p (ks.getD i 0)=false)∨(∃ k:Nat,k<ks.length∧r=k∧p (ks.getD k 0)=true∧∀ i,i<k→p (ks.getD i 0)=false)):=by
 generalize hn:ks.length=n at *
 go_enter Tryz.func127,Tryz.ntmps127
 go_wp2
 go_loopg [8] n (fun g s8 wr=>∃ k:Nat,k≤n∧n-k≤g∧s8=.int .i64 k∧Below w.heap.size w wr∧Hid (∀ i,i<k→p (ks.getD i 0)=false))
 case atStart=>exact⟨0,by omega,by omega,rfl,Below.refl _ _,fun i hi=>by omega⟩
 case round =>
  obtain⟨k,hk,hg,rfl,hb,A⟩:=hrel
  by_cases hlt:k<n
  ·obtain⟨b,o,rfl,hc⟩:=(hks.below hb) k (by omega)
   have hcall:=hf (ks.getD k 0) (by rw[zad ks 0 (by omega)];exact List.getElem_mem _) wr hb
   have KS:Hid (zah w (some ⟨b,o,none⟩) ks):=hks
   clear hks hf
   generalize hy:ks.getD k 0=y at hc hcall
   have Y:Hid (ks.getD k 0=y):=hy
   clear hy
   cases hq:p y with
   | true =>
    rw[hq] at hcall
    go_wp2_with (go_at_fn K;refine hcall.mono ?_;rintro e w' ⟨rfl,hb2⟩)
    go_ret
    exact⟨k,rfl,hb.trans (hb2.mono hb.size),Or.inr ⟨k,hlt,rfl,by rw[Y.out];exact hq,A.out⟩⟩
   | false =>
    rw[hq] at hcall
    go_wp2_with (go_at_fn K;refine hcall.mono ?_;rintro e w' ⟨rfl,hb2⟩)
    go_roundg (n-(k+1))
    case measure=>omega
    case rel =>
     refine⟨k+1,by omega,by omega,by go_num,hb.trans (hb2.mono hb.size),(show Hid _ from fun i hi=>?_)⟩
     by_cases e:i=k
     ·subst e
      rw[Y.out];exact hq
     ·exact A.out i (by omega)
  ·have:k=n:=by omega
   subst this
   clear hks hf
   go_wp2
   go_ret
   exact⟨-1,rfl,hb,Or.inl ⟨rfl,A.out⟩⟩
theorem zgV(K:Nat)(caps:Array Value)(p:Int→Bool)(kb L cap:Nat)(ks:List Int)(G:Nat→Value)(w:World)(hL:ks.length=L)(hc:L≤cap)(hsm:cap≤9223372036854775807)(hG:w.rowIs kb 3 cap G)(hGk:∀ j,j<L→G j=.int .i64 (ks.getD j 0))
  (eg:∀ args w,(callFunc K args).run Tryz.prog w=.ok (.enter K args) w) (hT:∀ x ∈ ks,∀ w1,Off (fun b=>b=kb) w w1→Calls Tryz.prog K (#[.int .i64 x] ++ caps) w1 fun e w2=>e=.returned (.bool (p x))∧Below w1.heap.size w1 w2) :
  Calls Tryz.prog 113 #[.slice (some ⟨kb,0,none⟩) L cap,.func (.func K) #[] caps] w (ziV w kb cap (flt p ks)):=by
 have di:=zeX K caps p (some ⟨kb,0,none⟩) cap ks w (by omega) (zbI hG (by omega) (by rw[hL];exact hGk)) eg (fun x hx w1 hb=>hT x hx w1 (Off.of_below hb))
 rw[hL] at di
 have HG:Hid (w.rowIs kb 3 cap G):=hG
 have HGk:Hid _:=hGk
 have HT:Hid _:=hT
 have HL:Hid _:=hL
 have hkb:=hG.lt
 clear hG hGk hT hL
 go_enter Tryz.func113,Tryz.ntmps113
 go_wp2_with fail
 refine di.mono ?_
 rintro e w1 ⟨r,rfl,hb1,hr⟩
 clear di
 rcases hr with ⟨rfl,hall⟩ |⟨k,hk,rfl,hp,hf⟩
 ·have hfl:=zgE p ks (by rw[HL.out];exact hall)
  have E:Hid _:=hfl
  clear hall hfl
  go_wp2
  go_ret
  refine⟨by rw[E.out,HL.out];rfl,Off.of_below hb1,G,HG.out.of_block (hb1.block kb hkb),fun j hj=>?_⟩
  rw[E.out] at hj ⊢
  exact HGk.out j (by rw[← HL.out];exact hj)
 ·have hk1:((k:Int) == -1)=false:=beq_eq_false_iff_ne.2 (by omega)
  have F0:Hid (flt p (ks.take (k+1))=ks.take k):=by
   show _=_
   rw[zcB p ks k (by rw[HL.out];exact hk),hp,if_pos rfl,List.append_nil]
   refine zgE p _ (fun i hi=>?_)
   rw[List.length_take] at hi
   have hks:=HL.out
   have h1:=hf i (by omega)
   rw[zad ks 0 (by omega)] at h1
   rw[zad (ks.take k) 0 (by rw[List.length_take];omega),List.getElem_take]
   exact h1
  have HR0:Hid (w1.rowIs kb 3 cap G):=HG.out.of_block (hb1.block kb hkb)
  have FI:Hid (∀ t,t<k→G t=.int .i64 ((flt p (ks.take (k+1))).getD t 0)):=fun t ht=>by
   have hks:=HL.out
   rw[F0.out,HGk.out t (by omega),zad ks 0 (by omega),zad (ks.take k) 0 (by rw[List.length_take];omega),List.getElem_take]
  have FL:Hid ((flt p (ks.take (k+1))).length=k):=by
   have hks:=HL.out
   show _=_
   rw[F0.out,List.length_take];omega
  have O1:Hid (Off (fun b=>b=kb) w w1):=Off.of_below hb1
  clear hp hf hb1
  go_wp2
  go_loopg [5,6] L (fun g1 s5 s6 wr=>∃ (i j:Nat) (G2:Nat→Value),i<j∧j≤L∧L-j≤g1∧s5=.int .i64 i∧s6=.int .i64 j∧Hid (Off (fun b=>b=kb) w wr)∧Hid (wr.rowIs kb 3 cap G2)∧Hid ((flt p (ks.take j)).length=i)∧Hid (∀ t,t<i→G2 t=.int .i64 ((flt p (ks.take j)).getD t 0))∧Hid (∀ t,j≤t→t<L→G2 t=.int .i64 (ks.getD t 0)))
  case atStart=>exact⟨k,k+1,G,by omega,by omega,by omega,rfl,by go_num,O1,HR0,FL,FI,(show Hid _ from fun t _ ht=>HGk.out t ht)⟩
  case round =>
   clear HR0 FI FL O1
   obtain⟨i,j,G2,hij,hjL,hg1,rfl,rfl,O2,R2,L2,I2,J2⟩:=hrel
   have hkw:kb<wr.heap.size:=R2.out.lt
   have hfz:=R2.out.frozen
   by_cases hlt:j<L
   ·have hlt2:(j:Int)<(L:Int):=by omega
    have cj:=R2.out.cell (i:=j) (by omega)
    rw[J2.out j (Nat.le_refl _) hlt] at cj
    have ci:=R2.out.cell (i:=i) (by omega)
    have hcall:=HT.out (ks.getD j 0) (by rw[zad ks 0 (by rw[HL.out];exact hlt)];exact List.getElem_mem _) wr O2.out
    have FS:=zcB p ks j (by rw[HL.out];exact hlt)
    generalize hy:ks.getD j 0=y at *
    have HY:Hid _:=hy
    clear hy
    cases hq:p y with
    | true =>
     rw[hq] at hcall FS
     rw[if_pos rfl,List.append_nil] at FS
     have HFS:Hid _:=FS
     clear FS
     go_wp2_with (go_at_fn K;refine hcall.mono ?_;rintro e w2 ⟨rfl,hb2⟩)
     go_roundg (L-(j+1))
     case measure=>omega
     case rel=>exact⟨i,j+1,G2,by omega,by omega,by omega,rfl,by go_num,O2.out.trans (Off.of_below hb2),R2.out.of_block (hb2.block kb hkw),(show _=_ by rw[HFS.out];exact L2.out),(show Hid _ from fun t ht=>by rw[HFS.out];exact I2.out t ht),(show Hid _ from fun t h1 h2=>J2.out t (by omega) h2)⟩
    | false =>
     rw[hq] at hcall FS
     rw[if_neg (by simp)] at FS
     have HFS:Hid _:=FS
     clear FS
     go_wp2_with (go_at_fn K;refine hcall.mono ?_;rintro e w2 ⟨rfl,hb2⟩;have ci2:=(hb2.cell (by exact hkw)).trans ci;have hfz2:=fun o=>(hb2.frozen (by exact hkw)).trans (hfz o))
     go_roundg (L-(j+1))
     case measure=>omega
     case rel =>
      refine⟨i+1,j+1,_,by omega,by omega,by omega,by go_num,by go_num,(O2.out.trans (Off.of_below hb2)).trans (zaE (X:=fun b=>b=kb) _ rfl _),(R2.out.of_block (hb2.block kb hkw)).set i (.int .i64 y),(show _=_ by rw[HFS.out,List.length_append,L2.out];rfl),(show Hid _ from fun t ht=>?_),(show Hid _ from fun t h1 h2=>?_)⟩
      ·rw[HFS.out]
       by_cases e:t=i
       ·subst e
        rw[if_pos rfl]
        simp[List.getD,L2.out]
       ·rw[if_neg e,I2.out t (by omega)]
        simp[List.getD,List.getElem?_append,L2.out,show t<i by omega]
      ·rw[if_neg (by omega)]
       exact J2.out t (by omega) h2
   ·have hjL2:j=L:=by omega
    subst hjL2
    have hic:(i:Int)≤(cap:Int):=by omega
    have hiL:(i:Int)≤(j:Int):=by omega
    have EF:Hid (flt p (ks.take j)=flt p ks):=by
     show _=_
     rw[← HL.out,List.take_length]
    have hcl:∀ ty,(Builtin.clear_ #[29] ty #[.slice (some ⟨kb,i,none⟩) (j-i) (cap-i)]).run Tryz.prog wr=.ok (.tuple #[]) (wr.setCells kb i (List.replicate (j-i) (.int .i64 0))):=fun ty=>Lib.run_clear_slice wr 29 3 ty (.int .i64 0) Tryz.underlying29 Tryz.zeroValue3 rfl rfl kb i (j-i) (cap-i) (by omega) (fun t ht=>by rw[R2.out.cell (by omega)];rfl) (fun t ht=>hfz _)
    go_wp2
    go_ret
    refine⟨?_,O2.out.trans (zbv (X:=fun b=>b=kb) rfl _ _ _),_,zbu _ _ _ _ R2.out,fun t ht=>?_⟩
    ·rw[← EF.out,L2.out];rfl
    ·rw[← EF.out,L2.out] at ht
     rw[if_neg (by omega),I2.out t ht,EF.out]
theorem zfR(K:Nat)(caps:Array Value)(w:World)(eg:∀ args w,(callFunc K args).run Tryz.prog w=.ok (.enter K args) w) :
  Calls Tryz.prog 113 #[.slice none 0 0,.func (.func K) #[] caps] w fun e w' => e=.returned (.slice none 0 0)∧Below w.heap.size w w' := by
 have di:=zeX K caps (fun _=>true) none 0 [] w (by simp) (fun i hi=>absurd hi (Nat.not_lt_zero _)) eg (fun x hx=>by cases hx)
 go_enter Tryz.func113,Tryz.ntmps113
 go_wp2_with fail
 refine di.mono ?_
 rintro e w1 ⟨r,rfl,hb1,hr⟩
 have hr1:r = -1:=by
  rcases hr with ⟨h,_⟩ |⟨k,hk,_⟩
  ·exact h
  ·exact absurd hk (Nat.not_lt_zero _)
 subst hr1
 clear hr di
 go_wp2
 go_ret
 exact⟨rfl,hb1⟩
end Go.Proofs.YtojlkdekdbdpoaaGreat
