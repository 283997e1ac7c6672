/-
  x
-/
import Derived.Test.YtojlkdekdbdpoaaGreatJWbTkSnWd
import Derived.Test.YtojlkdekdbdpoaaGreatJTjUaUb
namespace Go.Proofs.YtojlkdekdbdpoaaGreat
set_option maxRecDepth 100000
set_option maxHeartbeats 4000000
open Go.RowKit
def zlL(K:Nat)(caps:Array Value)(p:Nd→Bool)(w:World):Prop :=
 ∀ (x:Nd) (k:Value) (w1:World),Below w.heap.size w w1→Calls Tryz.prog K (#[.agg #[.bool x.u,.int .i64 x.n,.int .i64 x.t,.int .i64 x.m,.int .i64 x.p,k,.int .i64 x.h,.bool x.c]] ++ caps) w1 fun e w2=>e=.returned (.bool (p x))∧Below w1.heap.size w1 w2
theorem zfH(K:Nat)(caps:Array Value)(p:Nd→Bool)(a:Option Addr)(c:Nat)(S:List Nd)(w:World)(hbig:S.length≤9223372036854775807)(hS:NdsAt w a S)
  (eg:∀ args w,(callFunc K args).run Tryz.prog w=.ok (.enter K args) w) (hf:zlL K caps p w) :
  Calls Tryz.prog 109 #[.slice a S.length c,.func (.func K) #[] caps] w fun e w' => ∃ r:Int,e=.returned (.int .i64 r)∧Below w.heap.size w w' ∧
   ((r = -1∧∀ i,i<S.length→p (nd S i)=false)∨(∃ k:Nat,k<S.length∧r=k∧p (nd S k)=true∧∀ i,i<k→p (nd S i)=false)):=by
 have HS:Hid (NdsAt w a S):=hS
 have HF:Hid (zlL K caps p w):=hf
 clear hS hf
 generalize hn:S.length=n at *
 have HN:Hid _:=hn
 clear hn
 go_enter Tryz.func109,Tryz.ntmps109
 go_wp2
 go_loopg [8] n (fun g s8 wr=>∃ k:Nat,k≤n∧n-k≤g∧s8=.int .i64 k∧Below w.heap.size w wr∧Hid (∀ i,i<k→p (nd S i)=false))
 case atStart=>exact⟨0,by omega,by omega,rfl,Below.refl _ _,fun i hi=>by omega⟩
 case round =>
  obtain⟨k,hk,hg,rfl,hb,A⟩:=hrel
  by_cases hlt:k<n
  ·have hlt2:(k:Int)<(n:Int):=by omega
   obtain⟨b,o,rfl,c0,c1,c2,c3,c4,⟨ka,kc,c5,_⟩,c6,c7⟩:=(HS.out.below hb) k (by rw[HN.out];exact hlt)
   have hcall:=fun v=>HF.out (nd S k) v wr hb
   cases hq:p (nd S k) with
   | true =>
    have HQ:Hid (p (nd S k)=true):=hq
    rw[hq] at hcall
    clear hq
    generalize hx:nd S k=x at hcall c0 c1 c2 c3 c4 c5 c6 c7
    clear hx
    go_wp2_with (go_at_fn K;refine(hcall _).mono ?_;rintro e w' ⟨rfl,hb2⟩)
    go_ret
    exact⟨k,rfl,hb.trans (hb2.mono hb.size),Or.inr ⟨k,hlt,rfl,HQ.out,A.out⟩⟩
   | false =>
    have HQ:Hid (p (nd S k)=false):=hq
    rw[hq] at hcall
    clear hq
    generalize hx:nd S k=x at hcall c0 c1 c2 c3 c4 c5 c6 c7
    clear hx
    go_wp2_with (go_at_fn K;refine(hcall _).mono ?_;rintro e w' ⟨rfl,hb2⟩)
    go_roundg (n-(k+1))
    case measure=>omega
    case rel =>
     refine⟨k+1,by omega,by omega,by go_num,hb.trans (hb2.mono hb.size),(show Hid _ from fun i hi=>?_)⟩
     by_cases e:i=k
     ·subst e
      exact HQ.out
     ·exact A.out i (by omega)
  ·have:k=n:=by omega
   subst this
   go_wp2
   go_ret
   exact⟨-1,rfl,hb,Or.inl ⟨rfl,A.out⟩⟩
def hostB(S:List Nd)(x:Int):Bool:=S.any fun n=>decide (n.h=x)
theorem zbP{S:List Nd}{x:Int}:hostB S x=false↔∀ i,i<S.length→(nd S i).h≠x:=by
 unfold hostB
 rw[List.any_eq_false]
 constructor
 ·intro H i hi e
  have:=H (nd S i) (by rw[zaF hi];exact List.getElem_mem hi)
  simp[e] at this
 ·intro H y hy
  obtain⟨i,hi,rfl⟩:=List.getElem_of_mem hy
  have:=H i hi
  rw[zaF hi] at this
  simpa using this
theorem ziv(x:Nd)(k:Value)(q:Nat)(y:Int)(w:World)(hq:w.cell? ⟨q,0,none⟩=some (.int .i64 y)) :
  Calls Tryz.prog 129 #[.agg #[.bool x.u,.int .i64 x.n,.int .i64 x.t,.int .i64 x.m,.int .i64 x.p,k,.int .i64 x.h,.bool x.c],.pointer (some ⟨q,0,none⟩)] w fun e w' => e=.returned (.bool (decide (x.h=y)))∧Below w.heap.size w w' := by
 obtain⟨u,n,t,m,p,ks,h,c⟩:=x
 dsimp only
 have hql:=World.block_lt_of_cell? _ _ hq
 by_cases e:h=y
 ·subst e
  rw[decide_eq_true rfl]
  go_enter Tryz.func129,Tryz.ntmps129
  go_wp2
  go_ret
  exact⟨rfl,(Below.refl _ _).alloc (Nat.le_refl _) _⟩
 ·rw[decide_eq_false e]
  have e2:(h == y)=false:=by simpa using e
  go_enter Tryz.func129,Tryz.ntmps129
  go_wp2
  go_ret
  exact⟨rfl,(Below.refl _ _).alloc (Nat.le_refl _) _⟩
def rootE(S:List Nd)(x:Int):Int:=if x = -1 then -1 else (match S.findIdx? fun n=>decide (n.h=x) with|some k=>(k:Int)|none=>-1)
theorem zgA{S:List Nd}{x:Int}{k:Nat}(hx:x≠-1)(hk:k<S.length)(h:(nd S k).h=x)(hf:∀ i,i<k→(nd S i).h≠x):rootE S x=k:=by
 unfold rootE
 rw[if_neg hx,show S.findIdx? (fun n=>decide (n.h=x))=some k from List.findIdx?_eq_some_iff_getElem.2 ⟨hk,by rw[← zaF hk];exact decide_eq_true h,fun j hj=>by
  have:=hf j hj
  rw[zaF (by omega)] at this
  simpa using this⟩]
theorem zeP{S:List Nd}{x:Int}(h:∀ i,i<S.length→(nd S i).h≠x):rootE S x = -1:=by
 unfold rootE
 by_cases hx:x = -1
 ·rw[if_pos hx]
 rw[if_neg hx,show S.findIdx? (fun n=>decide (n.h=x))=none from List.findIdx?_eq_none_iff.2 (fun y hy=>by
  obtain⟨i,hi,rfl⟩:=List.getElem_of_mem hy
  have:=h i hi
  rw[zaF hi] at this
  simpa using this)]
theorem zkV{S:List Nd}{x:Int}(hx:x≠-1):decide (rootE S x = -1) = !hostB S x:=by
 cases hb:hostB S x with
 | false=>rw[zeP (zbP.1 hb)];rfl
 | true =>
  have hne:rootE S x≠-1:=by
   intro h
   unfold rootE at h
   rw[if_neg hx] at h
   split at h
   ·omega
   ·next hn =>
    have:=List.findIdx?_eq_none_iff.1 hn
    unfold hostB at hb
    obtain⟨y,hy,hp⟩:=List.any_eq_true.1 hb
    rw[this y hy] at hp
    cases hp
  rw[decide_eq_false hne];rfl
theorem zcn(a:Option Addr)(c:Nat)(S:List Nd)(x:Int)(w:World)(hN:S.length≤9223372036854775807)(hS:NdsAt w a S) :
  Calls Tryz.prog 112 #[.agg #[.slice a S.length c],.int .i64 x] w fun e w' => e=.returned (.int .i64 (rootE S x))∧Below w.heap.size w w' := by
 have HS:Hid (NdsAt w a S):=hS
 by_cases hx:x = -1
 ·have hr:rootE S x = -1:=by unfold rootE;rw[if_pos hx]
  rw[hr]
  subst hx
  clear hS hr
  generalize S.length=n at *
  go_enter Tryz.func112,Tryz.ntmps112
  go_wp2
  go_ret
  exact⟨rfl,((Below.refl _ _).alloc (Nat.le_refl _) _).alloc (by simp) _⟩
 ·have hT:∀ w1:World,w1.cell? ⟨w.heap.size+1,0,none⟩=some (.int .i64 x)→zlL 129 #[.pointer (some ⟨w.heap.size+1,0,none⟩)] (fun n=>decide (n.h=x)) w1:=fun w1 h1 y k w2 hb2 =>
   ziv y k (w.heap.size+1) x w2 ((hb2.cell (World.block_lt_of_cell? w1 _ h1)).trans h1)
  have D:Hid (∀ (W:World),NdsAt W a S→W.cell? ⟨w.heap.size+1,0,none⟩=some (.int .i64 x)→Calls _ _ _ _ _):=fun W h1 h2=>zfH 129 #[.pointer (some ⟨w.heap.size+1,0,none⟩)] (fun n=>decide (n.h=x)) a c S W hN h1 (enters_of Tryz.func129 (by kernel_rfl) rfl) (hT W h2)
  have H1:Hid (∀ k,k<S.length→decide ((nd S k).h=x)=true→(∀ i,i<k→decide ((nd S i).h=x)=false)→rootE S x=k):=fun k hk h hf=>zgA hx hk (of_decide_eq_true h) (fun i hi=>of_decide_eq_false (hf i hi))
  have H2:Hid ((∀ i,i<S.length→decide ((nd S i).h=x)=false)→rootE S x = -1):=fun h=>zeP (fun i hi=>of_decide_eq_false (h i hi))
  have hx2:(x == -1)=false:=by simpa using hx
  clear hS hT
  go_enter Tryz.func112,Tryz.ntmps112
  go_wp2_with (first
   |(go_at_call 109;refine(D.out _ (HS.out.below (((Below.refl _ _).alloc (Nat.le_refl _) _).alloc (by simp) _)) (by go_simp)).mono ?_;rintro e w1 ⟨r,rfl,hb1,hr⟩)
   | go_in)
  go_ret
  refine⟨?_,(((Below.refl _ _).alloc (Nat.le_refl _) _).alloc (by simp) _).trans (hb1.mono (by simp;omega))⟩
  rcases hr with ⟨rfl,hall⟩ |⟨k,hk,rfl,hp,hf⟩
  ·rw[H2.out hall];rfl
  ·rw[H1.out k hk hp hf];rfl
theorem zcV(a:Option Addr)(c:Nat)(S:List Nd)(x:Int)(w:World)(hN:S.length≤9223372036854775807)(hS:NdsAt w a S)(hx:x≠-1) :
  Calls Tryz.prog 89 #[.agg #[.slice a S.length c],.int .i64 x] w fun e w' => e=.returned (.bool (hostB S x))∧Below w.heap.size w w' := by
 have D:Hid (∀ (W:World),NdsAt W a S→Calls _ _ _ _ _):=fun W hW=>zcn a c S x W hN hW
 have HS:Hid (NdsAt w a S):=hS
 have hr:=zkV (S:=S) hx
 clear hS hx
 generalize S.length=n at *
 generalize rootE S x=r at *
 cases hb:hostB S x with
 | true =>
  rw[hb] at hr
  have hr2:(r == -1)=false:=by simpa using hr
  clear hr hb
  go_enter Tryz.func89,Tryz.ntmps89
  go_wp2_with (go_at_call 112;refine(D.out _ (HS.out.below ((Below.refl _ _).alloc (Nat.le_refl _) _))).mono ?_;rintro e w1 ⟨rfl,hb1⟩)
  go_ret
  refine⟨?_,((Below.refl _ _).alloc (Nat.le_refl _) _).trans (hb1.mono (by simp))⟩
  show Ending.returned (.bool (r != -1))=_
  simp[bne,hr2]
 | false =>
  rw[hb] at hr
  have hr2:r = -1:=by simpa using hr
  subst hr2
  clear hr hb
  go_enter Tryz.func89,Tryz.ntmps89
  go_wp2_with (go_at_call 112;refine(D.out _ (HS.out.below ((Below.refl _ _).alloc (Nat.le_refl _) _))).mono ?_;rintro e w1 ⟨rfl,hb1⟩)
  go_ret
  exact⟨rfl,((Below.refl _ _).alloc (Nat.le_refl _) _).trans (hb1.mono (by simp))⟩
theorem zfU(a:Option Addr)(c:Nat)(S:List Nd)(w:World)(hn:S.length≤9223372036854775807)(hS:NdsAt w a S)(hall:S.any freeB=false) :
  Calls Tryz.prog 109 #[.slice a S.length c,.func (.func 110) #[] #[]] w fun e w' => e=.returned (.int .i64 (-1))∧Below w.heap.size w w' :=
 (zfH 110 #[] freeB a c S w hn hS (enters_of Tryz.func110 (by kernel_rfl) rfl) (fun x k w1 _=>zgw x k w1)).mono (fun e w' ⟨r,e1,hb,hr⟩=>by
  rcases hr with ⟨rfl,_⟩ |⟨k,hk,_,hp,_⟩
  ·exact⟨e1,hb⟩
  ·have:=List.any_eq_false.1 hall (nd S k) (by rw[zaF hk];exact List.getElem_mem hk)
   exact absurd hp this)
def makeE(S:List Nd)(t:Int):Int:=if zaA S=0 then (if 0≤t∧t≤99 then (if S.any freeB then 0 else 1) else 2) else zaA S
theorem zkf{S:List Nd}(h:S.any freeB=true):∃ k,k<S.length∧freeB (nd S k)=true∧∀ i,i<k→freeB (nd S i)=false:=by
 obtain⟨x,hx,hf⟩:=List.any_eq_true.1 h
 obtain⟨i,hi,rfl⟩:=List.getElem_of_mem hx
 rw[← zaF hi] at hf
 clear hx h
 induction i using Nat.strongRecOn with
 | ind i ih =>
  by_cases hex:∃ j,j<i∧freeB (nd S j)=true
  ·obtain⟨j,hj,hf2⟩:=hex
   exact ih j hj (by omega) hf2
  ·refine⟨i,hi,hf,fun j hj=>?_⟩
   cases hq:freeB (nd S j) with
   | false=>rfl
   | true=>exact absurd ⟨j,hj,hq⟩ hex
theorem zjK(a:Option Addr)(c:Nat)(S:List Nd)(t E:Int)(w:World)(hN:S.length≤9223372036854775807)(hB:Big S)(hS:NdsAt w a S)(hE:makeE S t=E)(hE0:E≠0) :
  Calls Tryz.prog 85 #[.agg #[.slice a S.length c],.int .i64 t] w fun e w' => e=.returned (.tuple #[.agg #[.slice none 0 0],.agg #[.int .i64 0,.int .i64 0],.int .i64 E])∧Below w.heap.size w w' := by
 have d0:=fun W hW=>zcO a c S W hN hB hW
 have HS:Hid (NdsAt w a S):=hS
 unfold makeE at hE
 by_cases hc:zaA S=0
 ·rw[if_pos hc] at hE
  rw[hc] at d0
  have D0:Hid _:=d0
  by_cases ht:0≤t∧t≤99
  ·rw[if_pos ht] at hE
   cases hf:S.any freeB with
   | true=>rw[hf] at hE;exact absurd hE.symm hE0
   | false =>
    rw[hf,if_neg (by simp)] at hE
    have DF:Hid (∀ W,NdsAt W a S→Calls _ _ _ _ _):=fun W hW=>zfU a c S W hN hW hf
    obtain⟨ht0,ht1⟩:=ht
    subst hE
    clear hS d0 hB hc hf hE0
    generalize S.length=n at *
    go_enter Tryz.func85,Tryz.ntmps85
    go_wp2_with (go_at_call 19;refine(D0.out _ (HS.out.below (zaj _ _ _ _))).mono ?_;rintro e w0 ⟨rfl,hb0⟩;simp only[World.size_alloc] at hb0;obtain⟨l0,l1,l2,l3,z1,z2,z3⟩:=zbD hb0;have hB0:Below w.heap.size w w0:=(zaj _ _ _ _).trans (hb0.mono (by omega)))
    go_wp2_with (go_at_call 39;refine(zcT _ _ _ _ (by omega) (by omega)).mono ?_;rintro e w' ⟨rfl,rfl⟩)
    refine(DF.out _ (HS.out.below hB0)).mono ?_
    rintro e w1 ⟨rfl,hb1'⟩
    have hs0:=hb0.size
    simp only[World.size_alloc] at hs0
    have hb1:=hb0.trans (hb1'.mono hs0)
    have hB1:Below w.heap.size w w1:=(zaj _ _ _ _).trans (hb1.mono (by omega))
    clear l0 l1 l2 l3 z1 z2 z3 hb0 hb1' hB0
    obtain⟨l0,l1,l2,l3,z1,z2,z3⟩:=zbD hb1
    go_wp2
    refine bodyPost_ret (v:=.tuple #[.agg #[.slice none 0 0],.agg #[.int .i64 0,.int .i64 0],.int .i64 1]) (by simp[results,Tryz.results85,go_sem,l1,l2,l3]) rfl ⟨rfl,?_⟩
    first|exact((hB1.setCell (by simp) _).setCell (by simp;omega) _).setCell (by simp;omega) _|exact(((hB1.setCell (by simp) _).setCell (by simp;omega) _).setCell (by simp;omega) _).drew
  ·rw[if_neg ht] at hE
   have ht' : t<0∨99<t:=by omega
   subst hE
   clear hS d0 hB hc ht hE0
   generalize S.length=n at *
   go_enter Tryz.func85,Tryz.ntmps85
   go_wp2_with (go_at_call 19;refine(D0.out _ (HS.out.below (zaj _ _ _ _))).mono ?_;rintro e w0 ⟨rfl,hb0⟩;simp only[World.size_alloc] at hb0;obtain⟨l0,l1,l2,l3,z1,z2,z3⟩:=zbD hb0;have hB0:Below w.heap.size w w0:=(zaj _ _ _ _).trans (hb0.mono (by omega)))
   go_wp2_with (go_at_call 39;refine(zeu _ _ _ _ ht').mono ?_;rintro e w' ⟨rfl,rfl⟩)
   refine bodyPost_ret (v:=.tuple #[.agg #[.slice none 0 0],.agg #[.int .i64 0,.int .i64 0],.int .i64 2]) (by simp[results,Tryz.results85,go_sem,l1,l2,l3]) rfl ⟨rfl,?_⟩
   first|exact((hB0.setCell (by simp) _).setCell (by simp;omega) _).setCell (by simp;omega) _|exact(((hB0.setCell (by simp) _).setCell (by simp;omega) _).setCell (by simp;omega) _).drew
 ·rw[if_neg hc] at hE
  rw[hE] at d0
  have D0:Hid _:=d0
  have hz:(E == 0)=false:=by simp[hE0]
  clear hS d0 hE hB hc
  generalize S.length=n at *
  go_enter Tryz.func85,Tryz.ntmps85
  go_wp2_with (go_at_call 19;refine(D0.out _ (HS.out.below (zaj _ _ _ _))).mono ?_;rintro e w0 ⟨rfl,hb0⟩;simp only[World.size_alloc] at hb0;obtain⟨l0,l1,l2,l3,z1,z2,z3⟩:=zbD hb0;have hB0:Below w.heap.size w w0:=(zaj _ _ _ _).trans (hb0.mono (by omega)))
  refine bodyPost_ret (v:=.tuple #[.agg #[.slice none 0 0],.agg #[.int .i64 0,.int .i64 0],.int .i64 E]) (by simp[results,Tryz.results85,go_sem,l1,l2,l3]) rfl ⟨rfl,?_⟩
  first|exact((hB0.setCell (by simp) _).setCell (by simp;omega) _).setCell (by simp;omega) _|exact(((hB0.setCell (by simp) _).setCell (by simp;omega) _).setCell (by simp;omega) _).drew
end Go.Proofs.YtojlkdekdbdpoaaGreat

namespace Go.Proofs.YtojlkdekdbdpoaaGreat
open Go.RowKit
theorem WF.kid_deep{S:List Nd}(h:WF S){f p:Nat}(hp:p<S.length)(hD:Deep S (f+1) p){x:Int}(hx:x ∈ (nd S p).ks) :
  ∃ k:Nat,x=k∧k<S.length∧(nd S k).u=true∧(nd S k).p=p∧zae (nd S k)=p∧Deep S f k:=by
 obtain⟨k,rfl,h1,h2,h3,h4⟩:=h.kid hp hx
 have:=(hD (k:Int) hx).2
 rw[Int.toNat_natCast] at this
 exact⟨k,rfl,h1,h2,h3,h4,this⟩
theorem zbL{S:List Nd}(h:WF S):∀ {f p:Nat},p<S.length→Deep S f p→∀ x ∈ zat S f p,∃ q:Nat,x=q∧q<S.length∧(q=p∨(nd S q).u=true)∧∃ j,j≤f∧Up S j q p
 | 0,p,hp,_,x,hx=>by
  have:x=(p:Int):=by simpa [zat] using hx
  exact⟨p,this,hp,Or.inl rfl,0,Nat.le_refl _,rfl⟩
 | f+1,p,hp,hD,x,hx=>by
  simp only[zat,List.mem_cons,List.mem_flatMap] at hx
  rcases hx with rfl |⟨k,hk,hx⟩
  ·exact⟨p,rfl,hp,Or.inl rfl,0,by omega,rfl⟩
  ·obtain⟨k,rfl,h1,h2,h3,h4,h5⟩:=h.kid_deep hp hD hk
   rw[Int.toNat_natCast] at hx
   obtain⟨q,e,hq,hu,j,hj,hup⟩:=zbL h h1 h5 x hx
   refine⟨q,e,hq,Or.inr ?_,j+1,by omega,hup.trans (WF.up_one hp h4)⟩
   rcases hu with rfl|hu
   ·exact h2
   ·exact hu
theorem zeQ{α β:Type}(g:α→List β):∀ (ks:List α),ks.Nodup→(∀ k ∈ ks,(g k).Nodup)→(∀ k ∈ ks,∀ k' ∈ ks,k≠k' → ∀ x ∈ g k,x ∉ g k')→(ks.flatMap g).Nodup
 | [],_,_,_=>by simp
 | k :: ks,hn,hg,hd=>by
  rw[List.flatMap_cons,List.nodup_append]
  obtain⟨h1,h2⟩:=List.nodup_cons.1 hn
  refine⟨hg k (by simp),zeQ g ks h2 (fun k' hk' => hg k' (by simp[hk'])) (fun a ha b hb=>hd a (by simp[ha]) b (by simp[hb])),fun x hx y hy e=>?_⟩
  obtain⟨k', hk', hy⟩:=List.mem_flatMap.1 hy
  exact hd k (by simp) k' (by simp[hk']) (fun e=>h1 (by rw[e];exact hk')) x hx (by rw[e];exact hy)
theorem zhl(S:List Nd)(j:Nat):∀ {k k' : Nat},k≤k' → k' ≤ S.length→cntU S k j≤cntU S k' j:=by
 intro k k' hk
 induction hk with
 | refl=>intro _;exact Nat.le_refl _
 | step _ ih =>
  intro h
  rw[zcr S _ j (by omega)]
  have:=ih (by omega)
  omega
theorem WF.kids_nodup{S:List Nd}(h:WF S){i:Nat}(hi:i<S.length):(nd S i).ks.Nodup:=by
 rw[List.nodup_iff_count]
 intro x
 by_cases hx:x ∈ (nd S i).ks
 ·obtain⟨k,rfl,hk,_⟩:=h.kid hi hx
  have h1:=(h.kids.2 k hk).1
  have h2:=zcr S i k hi
  have h3:=zhl S k (k:=i+1) (k' := S.length) (by omega) (Nat.le_refl _)
  omega
 ·rw[List.count_eq_zero.2 hx];omega
theorem WF.in_kids{S:List Nd}(h:WF S){k:Nat}(hk:k<S.length){y:Nat}(hp:(nd S k).p=y):y<S.length∧(k:Int) ∈ (nd S y).ks:=by
 have hc:=(h.kids.2 k hk).2 (by omega)
 unfold cntU at hc
 rw[List.take_length] at hc
 have hm:(k:Int) ∈ S.flatMap Nd.ks:=by
  by_cases hm:(k:Int) ∈ S.flatMap Nd.ks
  ·exact hm
  ·exact absurd (List.count_eq_zero.2 hm) hc
 obtain⟨x,hx,hkx⟩:=List.mem_flatMap.1 hm
 obtain⟨i,hi,rfl⟩:=List.getElem_of_mem hx
 rw[← zaF hi] at hkx
 obtain⟨k', e,_,_,h3,_⟩:=h.kid hi hkx
 have:k' = k:=by omega
 subst this
 have:y=i:=by omega
 subst this
 exact⟨hi,hkx⟩
theorem zdh{S:List Nd}(h:WF S):∀ {f p:Nat},p<S.length→f≤S.length→Deep S f p→(zat S f p).Nodup
 | 0,p,_,_,_=>by simp[zat]
 | f+1,p,hp,hf,hD=>by
  simp only[zat]
  rw[List.nodup_cons]
  refine⟨fun hm=>?_,zeQ _ _ (h.kids_nodup hp) (fun x hx=>?_) (fun x hx y hy hne z hz hz' => ?_)⟩
  ·obtain⟨x,hx,hm⟩:=List.mem_flatMap.1 hm
   obtain⟨k,rfl,h1,h2,h3,h4,h5⟩:=h.kid_deep hp hD hx
   rw[Int.toNat_natCast] at hm
   obtain⟨q,e,hq,_,j,hj,hup⟩:=zbL h h1 h5 _ hm
   have:q=p:=by omega
   subst this
   exact h.no_ring hp (j:=j+1) (by omega) (by omega) (hup.trans (WF.up_one hp h4))
  ·obtain⟨k,rfl,h1,h2,h3,h4,h5⟩:=h.kid_deep hp hD hx
   rw[Int.toNat_natCast]
   exact zdh h h1 (by omega) h5
  ·obtain⟨k,rfl,h1,h2,h3,h4,h5⟩:=h.kid_deep hp hD hx
   obtain⟨k', rfl,h1', h2', h3', h4', h5'⟩:=h.kid_deep hp hD hy
   rw[Int.toNat_natCast] at hz hz'
   obtain⟨q,e,hq,_,j,hj,hup⟩:=zbL h h1 h5 _ hz
   obtain⟨q', e', hq', _,j', hj', hup'⟩:=zbL h h1' h5' _ hz'
   have:q=q' := by omega
   subst this
   have u1:=hup.trans (WF.up_one hp h4)
   have u2:=hup'.trans (WF.up_one hp h4')
   have hjj:j=j' := by
    rcases Nat.lt_trichotomy j j' with hlt|e|hlt
    ·obtain⟨y,v1,v2⟩:=Up.split (i:=j+1) (j:=j' - j) (by rw[show j+1+(j' - j)=j' + 1 by omega];exact u2)
     have:=Up.det v1 u1
     subst this
     exact absurd v2 (h.no_ring hp (by omega) (by omega))
    ·exact e
    ·obtain⟨y,v1,v2⟩:=Up.split (i:=j' + 1) (j:=j-j') (by rw[show j' + 1+(j-j')=j+1 by omega];exact u1)
     have:=Up.det v1 u2
     subst this
     exact absurd v2 (h.no_ring hp (by omega) (by omega))
   subst hjj
   exact hne (by rw[Up.det hup hup'])
theorem zcA{S:List Nd}(h:WF S){p:Nat}(hp:p<S.length):(zat S S.length p).length≤S.length:=by
 have h1:=zdh h hp (Nat.le_refl _) (h.deep_all hp)
 have:=h1.length_le_of_subset (l₂:=(List.range S.length).map (fun i:Nat=>(i:Int))) (fun x hx=>by
  obtain⟨q,rfl,hq,_⟩:=zbL h hp (h.deep_all hp) x hx
  exact List.mem_map.2 ⟨q,List.mem_range.2 hq,rfl⟩)
 simpa using this
def Par(S:List Nd):List Int→List Int→Prop
 | _,[]=>True
 | seen,x :: r=>(nd S x.toNat).p ∈ seen∧Par S (seen++[x]) r
theorem Par.append{S:List Nd}:∀ {a b seen:List Int},Par S seen a→Par S (seen++a) b→Par S seen (a++b)
 | [],b,seen,_,hb=>by simpa using hb
 | x :: a,b,seen,⟨h1,h2⟩,hb=>⟨h1,Par.append h2 (by simpa using hb)⟩
theorem Par.flat{S:List Nd}{p:Int}(g:Int→List Int):∀ (ks seen:List Int),p ∈ seen→(∀ k ∈ ks,∀ seen', p ∈ seen' → Par S seen' (g k))→Par S seen (ks.flatMap g)
 | [],_,_,_=>trivial
 | k :: ks,seen,hp,hg=>by
  rw[List.flatMap_cons]
  exact Par.append (hg k (by simp) seen hp) (Par.flat g ks _ (by simp[hp]) (fun k' hk' => hg k' (by simp[hk'])))
theorem zhJ{S:List Nd}(h:WF S):∀ {f p:Nat} {seen:List Int},p<S.length→Deep S f p→(nd S p).p ∈ seen→Par S seen (zat S f p)
 | 0,p,seen,_,_,hm=>⟨by simpa using hm,trivial⟩
 | f+1,p,seen,hp,hD,hm=>by
  refine⟨by simpa using hm,Par.flat (p:=(p:Int)) _ _ _ (by simp) (fun x hx seen' hs=>?_)⟩
  obtain⟨k,rfl,h1,h2,h3,h4,h5⟩:=h.kid_deep hp hD hx
  rw[Int.toNat_natCast]
  exact zhJ h h1 h5 (by rw[h3];exact hs)
theorem zou{S:List Nd}(h:WF S){f p:Nat}(hp:p<S.length)(hD:Deep S f p):∃ r,zat S f p=(p:Int) :: r∧Par S [(p:Int)] r:=by
 cases f with
 | zero=>exact⟨[],rfl,trivial⟩
 | succ f =>
  refine⟨_,rfl,Par.flat (p:=(p:Int)) _ _ _ (by simp) (fun x hx seen' hs=>?_)⟩
  obtain⟨k,rfl,h1,h2,h3,h4,h5⟩:=h.kid_deep hp hD hx
  rw[Int.toNat_natCast]
  exact zhJ h h1 h5 (by rw[h3];exact hs)
theorem Par.get{S:List Nd}:∀ {r seen:List Int} {i:Nat},Par S seen r→i<r.length→(nd S (r.getD i 0).toNat).p ∈ seen++r.take i
 | x :: r,seen,0,⟨h1,_⟩,_=>by simpa using h1
 | x :: r,seen,i+1,⟨_,h2⟩,hi=>by
  have:=Par.get h2 (i:=i) (by simpa using hi)
  simpa using this
theorem zoL{S:List Nd}(h:WF S):∀ {f p:Nat},p<S.length→Deep S f p→∀ y ∈ zat S f p,∀ k ∈ (nd S y.toNat).ks,k ∈ zat S f p
 | 0,p,_,hD,y,hy,k,hk=>by
  have:y=(p:Int):=by simpa [zat] using hy
  subst this
  rw[Int.toNat_natCast,show (nd S p).ks=[] from hD] at hk
  cases hk
 | f+1,p,hp,hD,y,hy,k,hk=>by
  simp only[zat,List.mem_cons,List.mem_flatMap] at hy ⊢
  right
  rcases hy with rfl |⟨x,hx,hy⟩
  ·rw[Int.toNat_natCast] at hk
   obtain⟨k', rfl,h1,h2,h3,h4,h5⟩:=h.kid_deep hp hD hk
   refine⟨_,hk,?_⟩
   rw[Int.toNat_natCast]
   cases f <;> simp[zat]
  ·obtain⟨k', rfl,h1,h2,h3,h4,h5⟩:=h.kid_deep hp hD hx
   rw[Int.toNat_natCast] at hy
   refine⟨_,hx,?_⟩
   rw[Int.toNat_natCast]
   exact zoL h h1 h5 y hy k hk
def zal(S:List Nd)(p:Nat):List Int:=zat S S.length p
end Go.Proofs.YtojlkdekdbdpoaaGreat

namespace Go.Proofs.YtojlkdekdbdpoaaGreat
open Go.RowKit
theorem zjY{S:List Nd}{j:Nat}(h:S.length≤j):nd S j=zcC:=by
 unfold nd
 rw[List.getD_eq_getElem?_getD,List.getElem?_eq_none h]
 rfl
theorem zdA{N:Int}{x:Nd}(h1:zbF x=true)(h2:zbk N x=true)(h3:formB x=true):nodeE N x=0:=by
 unfold nodeE
 rw[if_pos h1,if_pos h2,if_pos h3]
theorem zdt{S:List Nd}(hA:∀ i,i<S.length→(nd S i).ks.Nodup)(hB:∀ i,i<S.length→∀ x ∈ (nd S i).ks,∃ j:Nat,x=j∧j<S.length∧(nd S j).u=true∧(nd S j).p=i)
  (hC:∀ j,j<S.length→(nd S j).p≠-1→∃ i:Nat,i<S.length∧(j:Int) ∈ (nd S i).ks):zcQ S:=by
 refine⟨fun i hi x hx=>?_,fun j hj=>⟨?_,fun hp=>?_⟩⟩
 ·obtain⟨j,rfl,h1,h2,h3⟩:=hB i hi x hx
  exact⟨by omega,by rw[Int.toNat_natCast];exact h2,by rw[Int.toNat_natCast];exact h3⟩
 ·have:∀ k,k≤S.length→cntU S k j≤1∧(∀ i:Nat,(nd S j).p=i→k≤i→cntU S k j=0):=by
   intro k
   induction k with
   | zero=>intro _;rw[zeD];exact⟨by omega,fun _ _ _=>rfl⟩
   | succ k ih =>
    intro hk
    obtain⟨h1,h2⟩:=ih (by omega)
    rw[zcr S k j (by omega)]
    by_cases hm:(j:Int) ∈ (nd S k).ks
    ·obtain⟨j', e,_,_,hp⟩:=hB k (by omega) _ hm
     have:j' = j:=by omega
     subst this
     have h3:=h2 k hp (Nat.le_refl _)
     have h4:=List.nodup_iff_count.1 (hA k (by omega)) (j' : Int)
     exact⟨by omega,fun i hi hle=>by omega⟩
    ·rw[List.count_eq_zero.2 hm]
     exact⟨by omega,fun i hi hle=>by have:=h2 i hi (by omega);omega⟩
  exact(this S.length (Nat.le_refl _)).1
 ·obtain⟨i,hi,hm⟩:=hC j hj hp
  have h1:=zcr S i j hi
  have h2:=List.count_pos_iff.2 hm
  have h3:=zhl S j (k:=i+1) (k' := S.length) (by omega) (Nat.le_refl _)
  omega
theorem zgn{S:List Nd}(above:Nat):∀ (f:Nat) (y:Int),zbi S zae (zch above) f y false=true→∃ (y' : Nat) (j:Nat),y=y' ∧ y' < S.length∧j+1≤f∧Up S j y' above
 | 0,_,h=>by simp[zbi] at h
 | f+1,y,h=>by
  simp only[zbi] at h
  by_cases hp:isPl S.length y=true
  ·have hq:0≤y∧y≤(S.length:Int)-1:=of_decide_eq_true hp
   obtain⟨y', rfl⟩:∃ k:Nat,y=(k:Int):=⟨y.toNat,by omega⟩
   rw[if_pos hp] at h
   simp only[zch,Int.toNat_natCast] at h
   by_cases e:(y' : Int)=(above:Int)
   ·exact⟨y', 0,rfl,by omega,by omega,by show y' = above;omega⟩
   ·simp only[decide_eq_false e,Bool.not_false,if_true] at h
    obtain⟨z,j,hz,hz2,hj,hu⟩:=zgn above f _ h
    exact⟨y', j+1,rfl,by omega,by omega,⟨z,hz2,hz,hu⟩⟩
  ·rw[if_neg hp] at h
   cases h
theorem zdf{S:List Nd}{x above:Nat}(hx:x<S.length)(h:zbd S x above=true):∃ j,1≤j∧j≤S.length∧Up S j x above:=by
 unfold zbd at h
 rw[if_pos (show isPl S.length (x:Int)=true from decide_eq_true ⟨by omega,by omega⟩),Int.toNat_natCast] at h
 obtain⟨y,j,e,hy,hj,hu⟩:=zgn above _ _ h
 exact⟨j+1,by omega,by omega,⟨y,hy,e,hu⟩⟩
theorem zgY{S:List Nd}{x above j:Nat}(hx:x<S.length)(h1:1≤j)(h2:j≤S.length)(h:Up S j x above):zbd S x above=true:=by
 obtain⟨j,rfl⟩:∃ i,j=i+1:=⟨j-1,by omega⟩
 unfold zbd
 rw[if_pos (show isPl S.length (x:Int)=true from decide_eq_true ⟨by omega,by omega⟩),Int.toNat_natCast,zhi false h h2]
theorem Up.lt{S:List Nd}:∀ {j x y:Nat},x<S.length→Up S j x y→y<S.length
 | 0,_,_,hx,h=>by cases h;exact hx
 | _+1,_,_,_,⟨_,h1,_,h3⟩=>Up.lt h1 h3
theorem WF.up_short'{S:List Nd}(h:WF S):∀ (j x z:Nat) (r:List Nat),x<S.length→(x :: r).Nodup→(∀ y ∈ r,y<S.length∧∃ i,1≤i∧i≤r.length∧Up S i y x)→Up S j x z→j+r.length+1≤S.length
 | 0,x,z,r,hx,hn,hr,_=>by
  have:=zfj hn (fun y hy=>by
   rcases List.mem_cons.1 hy with rfl|hy
   ·exact hx
   ·exact(hr y hy).1)
  simp at this
  omega
 | j+1,x,z,r,hx,hn,hr,⟨y,h1,h2,h3⟩=>by
  have hall:∀ y ∈ x :: r,y<S.length:=fun y hy=>by
   rcases List.mem_cons.1 hy with rfl|hy
   ·exact hx
   ·exact(hr y hy).1
  have hlen:=zfj hn hall
  simp at hlen
  have hup:∀ q ∈ x :: r,∃ i,1≤i∧i≤(x :: r).length∧Up S i q y:=fun q hq=>by
   rcases List.mem_cons.1 hq with rfl|hq
   ·exact⟨1,by omega,by simp,WF.up_one h1 h2⟩
   ·obtain⟨_,i,i1,i2,i3⟩:=hr q hq
    exact⟨i+1,by omega,by simp;omega,i3.trans (WF.up_one h1 h2)⟩
  have:=h.up_short' j y z (x :: r) h1 (List.nodup_cons.2 ⟨fun hm=>by
   obtain⟨i,i1,i2,i3⟩:=hup y hm
   simp at i2
   exact h.no_ring h1 i1 (by omega) i3,hn⟩) (fun q hq=>⟨hall q hq,hup q hq⟩) h3
  simp at this
  omega
theorem WF.up_short{S:List Nd}(h:WF S){j x z:Nat}(hx:x<S.length)(hu:Up S j x z):j+1≤S.length:=by
 have:=h.up_short' j x z [] hx (by simp) (fun y hy=>by cases hy) hu
 simpa using this
theorem zeE{S A:List Nd}{ch:Nat}(hl:A.length=S.length)(hr:∀ y,y<S.length→y≠ch→zae (nd A y)=zae (nd S y)):∀ {j x y:Nat},x<S.length→Up A j x y→Up S j x y∨∃ i m,i+m=j∧Up S i x ch∧Up A m ch y
 | 0,_,_,_,h=>Or.inl h
 | j+1,x,y,hx,⟨z,h1,h2,h3⟩=>by
  by_cases e:x=ch
  ·subst e
   exact Or.inr ⟨0,j+1,by omega,rfl,⟨z,h1,h2,h3⟩⟩
  ·rw[hr x hx e] at h2
   rw[hl] at h1
   rcases zeE hl hr h1 h3 with h |⟨i,m,hi,h,h'⟩
   ·exact Or.inl ⟨z,h1,h2,h⟩
   ·exact Or.inr ⟨i+1,m,by omega,⟨z,h1,h2,h⟩,h'⟩
theorem zgG{S A:List Nd}(hl:A.length=S.length)(hr:∀ y,y<S.length→∀ z:Nat,zae (nd A y)=z→zae (nd S y)=z):∀ {j x y:Nat},x<S.length→Up A j x y→Up S j x y
 | 0,_,_,_,h=>h
 | _+1,x,_,hx,⟨z,h1,h2,h3⟩=>⟨z,by omega,hr x hx z h2,zgG hl hr (by omega) h3⟩
theorem WF.used_of_kid{S:List Nd}(h:WF S){i:Nat}(hi:i<S.length){x:Int}(hx:x ∈ (nd S i).ks):(nd S i).u=true:=by
 have hf:=(zaV (h.node i hi)).2.2
 cases hu:(nd S i).u with
 | true=>rfl
 | false =>
  unfold formB at hf
  rw[hu] at hf
  have:=(of_decide_eq_true hf).2.2.2.1
  rw[this] at hx
  cases hx
theorem WF.host_of_parent{S:List Nd}(h:WF S){ch:Nat}(hch:ch<S.length)(hp:(nd S ch).p≠-1):(nd S ch).h = -1∧(nd S ch).u=true:=by
 have hf:=(zaV (h.node ch hch)).2.2
 unfold formB at hf
 split at hf
 ·rename_i hu
  split at hf
  ·cases hf
  ·split at hf
   ·rename_i hh
    exact⟨hh,hu⟩
   ·exact absurd (of_decide_eq_true hf) hp
 ·exact absurd (of_decide_eq_true hf).2.2.1 hp
theorem WF.parent_place{S:List Nd}(h:WF S){ch:Nat}(hch:ch<S.length)(hp:(nd S ch).p≠-1):∃ pa:Nat,(nd S ch).p=pa∧pa<S.length∧pa≠ch∧(ch:Int) ∈ (nd S pa).ks∧(nd S pa).u=true:=by
 have h1:=(zdO (zdZ (h.node ch hch))).2.2
 obtain⟨pa,e⟩:∃ k:Nat,(nd S ch).p=(k:Int):=⟨(nd S ch).p.toNat,by omega⟩
 obtain⟨h2,h3⟩:=h.in_kids hch e
 refine⟨pa,e,h2,fun e2=>?_,h3,h.used_of_kid h2 h3⟩
 subst e2
 have hr:zae (nd S pa)=pa:=by
  unfold zae
  rw[if_pos (h.host_of_parent hch hp).1]
  exact e
 exact h.no_ring hch (Nat.le_refl 1) (by omega) (WF.up_one hch hr)
theorem zee(S:List Nd)(pa ch j:Nat):(nd (zbl S pa ch) j).u=(nd S j).u∧(nd (zbl S pa ch) j).n=(nd S j).n∧(nd (zbl S pa ch) j).h=(nd S j).h∧(nd (zbl S pa ch) j).t=(nd S j).t∧(nd (zbl S pa ch) j).m=(nd S j).m∧(nd (zbl S pa ch) j).c=(nd S j).c:=by
 by_cases hj:j<S.length
 ·rw[zcv S pa ch j hj]
  unfold zda
  split
  ·rename_i e;subst e;exact⟨rfl,rfl,rfl,rfl,rfl,rfl⟩
  ·split
   ·rename_i e;subst e;exact⟨rfl,rfl,rfl,rfl,rfl,rfl⟩
   ·exact⟨rfl,rfl,rfl,rfl,rfl,rfl⟩
 ·rw[zjY (S:=zbl S pa ch) (by rw[zaO];omega),zjY (by omega)]
  exact⟨rfl,rfl,rfl,rfl,rfl,rfl⟩
theorem zeS(S:List Nd){pa ch j:Nat}(hj:j<S.length):(nd (zbl S pa ch) j).p=if j=ch then -1 else (nd S j).p:=by
 rw[zcv S pa ch j hj]
 unfold zda
 split
 ·rfl
 ·split
  ·rename_i e;subst e;rfl
  ·rfl
theorem zfl(S:List Nd){pa ch j:Nat}(hne:pa≠ch)(hj:j<S.length):(nd (zbl S pa ch) j).ks=if j=pa then flt (fun x=>decide (x=(ch:Int))) (nd S pa).ks else (nd S j).ks:=by
 rw[zcv S pa ch j hj]
 unfold zda
 split
 ·rename_i e
  subst e
  rw[if_neg (fun e=>hne e.symm)]
 ·split
  ·rfl
  ·rfl
theorem zfs{x y:Nd}(h1:x.n=y.n)(h2:x.t=y.t)(h3:x.m=y.m)(h:zbF y=true):zbF x=true:=by
 unfold zbF at *
 rw[h1,h2,h3]
 exact h
theorem zbO{N:Int}{x:Nd}(h:zbk N x=true):okPl N x.p=true∧okPl N x.h=true∧∀ k ∈ x.ks,okPl N k=true:=by
 unfold zbk at h
 simp only[Bool.and_eq_true,Bool.not_eq_true', List.any_eq_false] at h
 refine⟨h.1,h.2.1,fun k hk=>?_⟩
 have:=h.2.2 k hk
 simpa using this
theorem zcE{N:Int}{x:Nd}(h1:okPl N x.p=true)(h2:okPl N x.h=true)(h3:∀ k ∈ x.ks,okPl N k=true):zbk N x=true:=by
 unfold zbk
 simp only[Bool.and_eq_true,Bool.not_eq_true', List.any_eq_false]
 refine⟨h1,h2,fun k hk=>?_⟩
 rw[h3 k hk]
 simp
theorem zeJ{x y:Nd}(hu:y.u=true)(h1:x.u=y.u)(h2:x.n=y.n)(h3:x.h=y.h)(h4:x.c=y.c)(h5:y.h≠-1→x.p=y.p)(h:formB y=true):formB x=true:=by
 unfold formB at *
 rw[h1,hu,h2,h3,h4]
 rw[hu] at h
 simp only[if_true] at *
 split at h
 ·cases h
 ·rename_i hn
  rw[if_neg hn]
  split at h
  ·rename_i hh
   rw[if_pos hh]
   exact h
  ·rename_i hh
   rw[if_neg hh,h5 hh]
   exact h
theorem zgF{p:Int→Bool}{ks:List Int}{x:Int}:x ∈ flt p ks↔x ∈ ks∧p x=false:=by
 unfold flt
 rw[List.mem_filter]
 cases p x <;> simp
theorem WF.leave{S:List Nd}(h:WF S){pa ch:Nat}(hch:ch<S.length)(hp:(nd S ch).p=pa):WF (zbl S pa ch):=by
 obtain⟨pa', e,hpa,hne,hin,hpu⟩:=h.parent_place hch (by omega)
 have:pa' = pa:=by omega
 subst this
 obtain⟨hch1,hcu⟩:=h.host_of_parent hch (by omega)
 have hl:=zaO S pa' ch
 have hsub:∀ i,i<S.length→∀ x ∈ (nd (zbl S pa' ch) i).ks,x ∈ (nd S i).ks∧x≠(ch:Int):=fun i hi x hx=>by
  rw[zfl S hne hi] at hx
  split at hx
  ·rename_i e1
   subst e1
   obtain⟨h1,h2⟩:=zgF.1 hx
   exact⟨h1,of_decide_eq_false h2⟩
  ·rename_i e1
   refine⟨hx,fun e2=>?_⟩
   obtain⟨k,e3,_,_,hk,_⟩:=h.kid hi hx
   have:k=ch:=by omega
   subst this
   omega
 refine⟨by rw[hl];exact h.small,fun i hi=>?_,zdt (fun i hi=>?_) (fun i hi x hx=>?_) (fun j hj hjp=>?_),fun i hi=>?_,fun i hi=>?_⟩
 ·rw[hl] at hi ⊢
  obtain⟨r1,r2,r3⟩:=zaV (h.node i hi)
  obtain⟨n1,n2,n3⟩:=zbO r2
  obtain⟨u1,u2,u3,u4,u5,u6⟩:=zee S pa' ch i
  refine zdA (zfs u2 u4 u5 r1) (zcE ?_ (by rw[u3];exact n2) (fun k hk=>n3 k (hsub i hi k hk).1)) ?_
  ·rw[zeS S hi]
   split
   ·exact decide_eq_true ⟨by omega,by omega⟩
   ·exact n1
  ·by_cases e1:i=ch
   ·subst e1
    exact zeJ hcu u1 u2 u3 u6 (fun hh=>absurd hch1 hh) r3
   ·by_cases e2:i=pa'
    ·subst e2
     exact zeJ hpu u1 u2 u3 u6 (fun _=>by rw[zeS S hi,if_neg e1]) r3
    ·rw[zcv S pa' ch i hi]
     unfold zda
     rw[if_neg e1,if_neg e2]
     exact r3
 ·rw[hl] at hi
  rw[zfl S hne hi]
  split
  ·exact(h.kids_nodup hpa).filter _
  ·exact h.kids_nodup hi
 ·rw[hl] at hi ⊢
  obtain⟨h1,h2⟩:=hsub i hi x hx
  obtain⟨k,rfl,k1,k2,k3,_⟩:=h.kid hi h1
  refine⟨k,rfl,k1,by rw[(zee S pa' ch k).1];exact k2,?_⟩
  rw[zeS S k1,if_neg (by omega)]
  exact k3
 ·rw[hl] at hj ⊢
  rw[zeS S hj] at hjp
  split at hjp
  ·exact absurd rfl hjp
  ·rename_i e1
   obtain⟨i,i1,i2,_,i3,_⟩:=h.parent_place hj hjp
   refine⟨i,i2,?_⟩
   rw[zfl S hne i2]
   split
   ·rename_i e2
    subst e2
    exact zgF.2 ⟨i3,decide_eq_false (by omega)⟩
   ·exact i3
 ·rw[hl] at hi
  intro hh
  rw[(zee S pa' ch i).2.2.1] at hh ⊢
  obtain⟨g1,g2⟩:=h.hosts i hi hh
  refine⟨by rw[(zee S pa' ch _).1];exact g1,fun i' hi' => by rw[(zee S pa' ch i').2.2.1];exact g2 i' hi'⟩
 ·rw[hl] at hi
  cases hb:zbd (zbl S pa' ch) i i with
  | false=>rfl
  | true =>
   obtain⟨j,j1,j2,j3⟩:=zdf (by rw[hl];exact hi) hb
   rw[hl] at j2
   refine absurd (zgG hl (fun y hy z hz=>?_) hi j3) (h.no_ring hi j1 j2)
   unfold zae at *
   rw[(zee S pa' ch y).2.2.1,zeS S hy] at hz
   by_cases e1:y=ch
   ·subst e1
    rw[if_pos hch1,if_pos rfl] at hz
    omega
   ·rw[if_neg e1] at hz
    exact hz
theorem zdd(S:List Nd)(pa ch at' j:Nat):(nd (zaJ S pa ch at') j).u=(nd S j).u∧(nd (zaJ S pa ch at') j).n=(nd S j).n∧(nd (zaJ S pa ch at') j).h=(nd S j).h∧(nd (zaJ S pa ch at') j).t=(nd S j).t∧(nd (zaJ S pa ch at') j).m=(nd S j).m∧(nd (zaJ S pa ch at') j).c=(nd S j).c:=by
 by_cases hj:j<S.length
 ·rw[zcL S pa ch at' j hj]
  unfold zdF
  split
  ·rename_i e;subst e;exact⟨rfl,rfl,rfl,rfl,rfl,rfl⟩
  ·split
   ·rename_i e;subst e;exact⟨rfl,rfl,rfl,rfl,rfl,rfl⟩
   ·exact⟨rfl,rfl,rfl,rfl,rfl,rfl⟩
 ·rw[zjY (S:=zaJ S pa ch at') (by rw[zaB];omega),zjY (by omega)]
  exact⟨rfl,rfl,rfl,rfl,rfl,rfl⟩
theorem zei(S:List Nd){pa ch at' j:Nat}(hj:j<S.length):(nd (zaJ S pa ch at') j).p=if j=ch then (pa:Int) else (nd S j).p:=by
 rw[zcL S pa ch at' j hj]
 unfold zdF
 split
 ·rfl
 ·split
  ·rename_i e;subst e;rfl
  ·rfl
theorem zcZ(S:List Nd){pa ch at' j:Nat}(hne:pa≠ch)(hj:j<S.length):(nd (zaJ S pa ch at') j).ks=if j=pa then ins (nd S pa).ks at' ch else (nd S j).ks:=by
 rw[zcL S pa ch at' j hj]
 unfold zdF
 split
 ·rename_i e
  subst e
  rw[if_neg (fun e=>hne e.symm)]
 ·split
  ·rfl
  ·rfl
theorem zgU{ks:List Int}{i:Nat}{c x:Int}:x ∈ ins ks i c↔x=c∨x ∈ ks:=by
 unfold ins
 have h2:x ∈ ks↔x ∈ ks.take i∨x ∈ ks.drop i:=by
  rw[← List.mem_append,List.take_append_drop]
 rw[List.mem_append,List.mem_cons,h2]
 constructor
 ·rintro(h|h|h)
  ·exact Or.inr (Or.inl h)
  ·exact Or.inl h
  ·exact Or.inr (Or.inr h)
 ·rintro(h|h|h)
  ·exact Or.inr (Or.inl h)
  ·exact Or.inl h
  ·exact Or.inr (Or.inr h)
theorem zlX{ks:List Int}{i:Nat}{c:Int}(h:ks.Nodup)(hc:c ∉ ks):(ins ks i c).Nodup:=by
 unfold ins
 have h2:(ks.take i++ks.drop i).Nodup:=by rw[List.take_append_drop];exact h
 rw[List.nodup_append] at h2 ⊢
 obtain⟨h3,h4,h5⟩:=h2
 refine⟨h3,List.nodup_cons.2 ⟨fun hm=>hc (List.mem_of_mem_drop hm),h4⟩,fun a ha b hb e=>?_⟩
 rcases List.mem_cons.1 hb with rfl|hb
 ·rw[e] at ha
  exact hc (List.mem_of_mem_take ha)
 ·exact h5 a ha b hb e
theorem WF.not_kid{S:List Nd}(h:WF S){ch:Nat}(hp:(nd S ch).p = -1){i:Nat}(hi:i<S.length):(ch:Int) ∉ (nd S i).ks:=fun hm=>by
 obtain⟨k,e,_,_,hk,_⟩:=h.kid hi hm
 have:k=ch:=by omega
 subst this
 omega
theorem WF.enter{S:List Nd}(h:WF S){pa ch at' : Nat}(hpa:pa<S.length)(hch:ch<S.length)(hpu:(nd S pa).u=true)(hcu:(nd S ch).u=true)(hcp:(nd S ch).p = -1)(hcH:(nd S ch).h = -1)(hne:pa≠ch)(hun:zbd S pa ch=false):WF (zaJ S pa ch at'):=by
 have hl:=zaB S pa ch at'
 have hnk:∀ i,i<S.length→(ch:Int) ∉ (nd S i).ks:=fun i hi=>h.not_kid hcp hi
 refine⟨by rw[hl];exact h.small,fun i hi=>?_,zdt (fun i hi=>?_) (fun i hi x hx=>?_) (fun j hj hjp=>?_),fun i hi=>?_,fun i hi=>?_⟩
 ·rw[hl] at hi ⊢
  obtain⟨r1,r2,r3⟩:=zaV (h.node i hi)
  obtain⟨n1,n2,n3⟩:=zbO r2
  obtain⟨u1,u2,u3,u4,u5,u6⟩:=zdd S pa ch at' i
  refine zdA (zfs u2 u4 u5 r1) (zcE ?_ (by rw[u3];exact n2) (fun k hk=>?_)) ?_
  ·rw[zei S hi]
   split
   ·exact decide_eq_true ⟨by omega,by omega⟩
   ·exact n1
  ·rw[zcZ S hne hi] at hk
   split at hk
   ·rename_i e1
    subst e1
    rcases zgU.1 hk with rfl|hk
    ·exact decide_eq_true ⟨by omega,by omega⟩
    ·exact n3 k hk
   ·exact n3 k hk
  ·by_cases e1:i=ch
   ·subst e1
    exact zeJ hcu u1 u2 u3 u6 (fun hh=>absurd hcH hh) r3
   ·by_cases e2:i=pa
    ·subst e2
     exact zeJ hpu u1 u2 u3 u6 (fun _=>by rw[zei S hi,if_neg e1]) r3
    ·rw[zcL S pa ch at' i hi]
     unfold zdF
     rw[if_neg e1,if_neg e2]
     exact r3
 ·rw[hl] at hi
  rw[zcZ S hne hi]
  split
  ·exact zlX (h.kids_nodup hpa) (hnk pa hpa)
  ·exact h.kids_nodup hi
 ·rw[hl] at hi ⊢
  have hold:x ∈ (nd S i).ks→∃ j:Nat,x=j∧j<S.length∧(nd (zaJ S pa ch at') j).u=true∧(nd (zaJ S pa ch at') j).p=i:=fun hm=>by
   obtain⟨k,rfl,k1,k2,k3,_⟩:=h.kid hi hm
   refine⟨k,rfl,k1,by rw[(zdd S pa ch at' k).1];exact k2,?_⟩
   rw[zei S k1,if_neg (fun e=>hnk i hi (by rw[← e];exact hm))]
   exact k3
  rw[zcZ S hne hi] at hx
  split at hx
  ·rename_i e1
   subst e1
   rcases zgU.1 hx with rfl|hx
   ·exact⟨ch,rfl,hch,by rw[(zdd S i ch at' ch).1];exact hcu,by rw[zei S hch,if_pos rfl]⟩
   ·exact hold hx
  ·exact hold hx
 ·rw[hl] at hj ⊢
  rw[zei S hj] at hjp
  split at hjp
  ·rename_i e1
   subst e1
   exact⟨pa,hpa,by rw[zcZ S hne hpa,if_pos rfl];exact zgU.2 (Or.inl rfl)⟩
  ·obtain⟨i,i1,i2,_,i3,_⟩:=h.parent_place hj hjp
   refine⟨i,i2,?_⟩
   rw[zcZ S hne i2]
   split
   ·rename_i e2
    subst e2
    exact zgU.2 (Or.inr i3)
   ·exact i3
 ·rw[hl] at hi
  intro hh
  rw[(zdd S pa ch at' i).2.2.1] at hh ⊢
  obtain⟨g1,g2⟩:=h.hosts i hi hh
  refine⟨by rw[(zdd S pa ch at' _).1];exact g1,fun i' hi' => by rw[(zdd S pa ch at' i').2.2.1];exact g2 i' hi'⟩
 ·rw[hl] at hi
  have hr:∀ y,y<S.length→y≠ch→zae (nd (zaJ S pa ch at') y)=zae (nd S y):=fun y hy e=>by
   unfold zae
   rw[(zdd S pa ch at' y).2.2.1,zei S hy,if_neg e]
  have hrc:zae (nd (zaJ S pa ch at') ch)=pa:=by
   unfold zae
   rw[(zdd S pa ch at' ch).2.2.1,if_pos hcH,zei S hch,if_pos rfl]
  have hno:∀ q,¬ Up S q pa ch:=fun q hq=>by
   cases q with
   | zero=>exact hne hq
   | succ q =>
    have:=zgY hpa (by omega) (by have:=h.up_short hpa hq;omega) hq
    rw[hun] at this
    cases this
  cases hb:zbd (zaJ S pa ch at') i i with
  | false=>rfl
  | true =>
   obtain⟨j,j1,j2,j3⟩:=zdf (by rw[hl];exact hi) hb
   rw[hl] at j2
   rcases zeE hl hr hi j3 with g |⟨k,m,e,g1,g2⟩
   ·exact absurd g (h.no_ring hi j1 j2)
   ·cases m with
    | zero =>
     have e2:ch=i:=g2
     have e3:k=j:=by omega
     rw[e2,e3] at g1
     exact absurd g1 (h.no_ring hi j1 j2)
    | succ m =>
     obtain⟨z,z1,z2,z3⟩:=g2
     have:z=pa:=by omega
     subst this
     rcases zeE hl hr hpa z3 with g |⟨k', m', _,g3,_⟩
     ·exact absurd (g.trans g1) (hno _)
     ·exact absurd g3 (hno _)
end Go.Proofs.YtojlkdekdbdpoaaGreat
