/-
  x
-/
import Derived.Test.YtojlkdekdbdpoaaGreatJCbDa
namespace Go.Proofs.YtojlkdekdbdpoaaGreat
open Go.RowKit
set_option linter.unusedVariables false
def Dead(S:List Nd)(h:Int × Int):Prop:=∃ k:Nat,h.1=k∧k<S.length∧(h.2<(nd S k).n∨((nd S k).n=h.2∧(nd S k).u=false))
def MarkI(S:List Nd)(h:Int × Int)(m:Int):Prop:=(∃ k:Nat,h.1=k∧k<S.length∧(nd S k).u=true∧(nd S k).n=h.2∧(nd S k).m=m)∨Dead S h
theorem Dead.step{R Q:Rl}{x:Ac}{o:Int}(K:Kept R x Q o){h:Int × Int}(I:Dead R.s h):Dead Q.s h:=by
 obtain⟨k,e,hk,hd⟩:=I
 refine⟨k,e,by rw[K.len];exact hk,?_⟩
 obtain⟨q,hq⟩:=K.node
 rcases hq k hk with ⟨s1,s2,_,_⟩ |⟨_,⟨b1,b2,b3,_⟩ |⟨d1,d2,d3⟩ |⟨m1,m2,_⟩⟩
 ·rw[s1,s2];exact hd
 ·left
  rw[b3]
  rcases hd with hd |⟨hd,_⟩ <;> omega
 ·rcases hd with hd |⟨hd,hu⟩
  ·left;rw[d3];exact hd
  ·rw[d1] at hu;cases hu
 ·rw[m1,m2];exact hd
theorem MarkI.step{R Q:Rl}{x:Ac}{o:Int}(K:Kept R x Q o){h:Int × Int}{m:Int}(I:MarkI R.s h m)(hno:¬ (hd R x.a=h∧(x.k=5∨x.k=11))):MarkI Q.s h m:=by
 rcases I with ⟨k,e,hk,hu,hn,hm⟩|I
 ·by_cases hkk:x.k=5∨x.k=11
  ·obtain⟨k', e', hk', hu', hn', _,hs,_⟩:=K.mark hkk
   have hne:k≠k' := fun e2=>hno ⟨by
    subst e2
    refine Prod.ext ?_ ?_
    ·rw[e', e]
    ·rw[← hn', ← hn],hkk⟩
   left
   refine⟨k,e,by rw[K.len];exact hk,?_⟩
   rw[hs,zav _ _ _ _ hk', if_neg hne]
   exact⟨hu,hn,hm⟩
  ·obtain⟨hl,q,hq⟩:=K.mild (fun h=>hkk (Or.inl h)) (fun h=>hkk (Or.inr h))
   rcases hq k hk with ⟨s1,s2,_,s4⟩ |⟨_,⟨b1,b2,b3,_⟩ |⟨d1,d2,d3⟩⟩
   ·left
    exact⟨k,e,by rw[K.len];exact hk,by rw[s1];exact hu,by rw[s2];exact hn,by rw[s4];exact hm⟩
   ·rw[hu] at b1;cases b1
   ·right
    exact⟨k,e,by rw[K.len];exact hk,Or.inr ⟨by rw[d3];exact hn,d2⟩⟩
 ·exact Or.inr (I.step K)
theorem MarkI.new{R Q:Rl}{x:Ac}{o:Int}(K:Kept R x Q o){h:Int × Int}(hh:hd R x.a=h)(hk:x.k=5∨x.k=11):MarkI Q.s h (if x.k=11 then (cl R.i x.n.toNat).n else x.n):=by
 obtain⟨k', e', hk', hu', hn', _,hs,_⟩:=K.mark hk
 left
 refine⟨k', by rw[← hh];exact e', by rw[K.len];exact hk', ?_⟩
 rw[hs,zav _ _ _ _ hk', if_pos rfl]
 exact⟨hu', by rw[← hh];exact hn', rfl⟩
def handN(A B:List (Int × Int)):Nat→Nat
 | 0=>0
 | j+1=>handN A B j+if B.getD j (0,0)=A.getD j (0,0) then 0 else 1
theorem Kept.hands{R Q:Rl}{x:Ac}{o:Int}(K:Kept R x Q o):∀ j,handN R.hs Q.hs j≤1:=by
 obtain⟨q,hq⟩:=K.hand
 have key:∀ j,handN R.hs Q.hs j≤if q<j then 1 else 0:=by
  intro j
  induction j with
  | zero=>simp[handN]
  | succ j ih =>
   unfold handN
   by_cases e:j=q
   ·subst e
    rw[if_neg (by omega)] at ih
    rw[show (if j<j+1 then (1:Nat) else 0)=1 from if_pos (by omega)]
    split <;> omega
   ·rw[if_pos (hq j e)]
    split at ih
    ·rw[if_pos (by omega)];omega
    ·rw[if_neg (by omega)];omega
 intro j
 have:=key j
 split at this <;> omega
theorem Kept.uses{R Q:Rl}{x:Ac}{o:Int}(K:Kept R x Q o){i:Nat}(hi:i<R.s.length):(nd R.s i).n≤(nd Q.s i).n∧(nd Q.s i).n≤(nd R.s i).n+1∧((nd Q.s i).u=true→(nd R.s i).u=true→(nd Q.s i).t=(nd R.s i).t∧(nd Q.s i).n=(nd R.s i).n):=by
 obtain⟨q,hq⟩:=K.node
 rcases hq i hi with ⟨s1,s2,s3,_⟩ |⟨_,⟨b1,b2,b3,_⟩ |⟨d1,d2,d3⟩ |⟨m1,m2,m3⟩⟩
 ·exact⟨by omega,by omega,fun _ _=>⟨s3,s2⟩⟩
 ·exact⟨by omega,by omega,fun _ h=>by rw[b1] at h;cases h⟩
 ·exact⟨by omega,by omega,fun h _=>by rw[d2] at h;cases h⟩
 ·exact⟨by omega,by omega,fun _ _=>⟨m3,m2⟩⟩
end Go.Proofs.YtojlkdekdbdpoaaGreat

namespace Go.Proofs.YtojlkdekdbdpoaaGreat
open Go.RowKit
set_option linter.unusedVariables false
theorem zit{B:Nat}{w w' : World}(h:Below B w w')(n:Nat):Below B w (w'.drewN n):=⟨h.os,h.tape,h.output,h.size,h.block⟩
structure RA where
 a0:Option Addr
 a1:Option Addr
 a2:Option Addr
 a3:Option Addr
 c0:Nat
 c1:Nat
 c2:Nat
 c3:Nat
def RlAt(w:World)(A:RA)(R:Rl):Prop:=NdsAt w A.a0 R.s∧zak w A.a1 R.hs∧ClsAt w A.a2 R.i∧zah w A.a3 R.t
abbrev rlV(A:RA)(R:Rl):Value:=.agg #[.slice A.a0 R.s.length A.c0,.slice A.a1 R.hs.length A.c1,.slice A.a2 R.i.length A.c2,.slice A.a3 R.t.length A.c3]
abbrev acV(x:Ac):Value:=.agg #[.int .i64 x.k,.int .i64 x.a,.int .i64 x.b,.int .i64 x.c,.int .i64 x.n]
abbrev bxR(A:RA)(R:Rl):Obj:=.cells #[.slice A.a0 R.s.length A.c0,.slice A.a1 R.hs.length A.c1,.slice A.a2 R.i.length A.c2,.slice A.a3 R.t.length A.c3] 31 (0,0)
def BigR(R:Rl):Prop:=R.s.length≤9223372036854775807∧Big R.s∧R.hs.length≤9223372036854775807∧R.i.length≤9223372036854775807∧BigC R.i∧R.t.length≤9223372036854775807
theorem RlAt.below{w w' : World}{A:RA}{R:Rl}(h:RlAt w A R)(hb:Below w.heap.size w w'):RlAt w' A R:=⟨h.1.below hb,h.2.1.below hb,h.2.2.1.below hb,h.2.2.2.below hb⟩
theorem zaI(w:World)(A:RA):RlAt w A zaR:=⟨fun _ h=>absurd h (Nat.not_lt_zero _),fun _ h=>absurd h (Nat.not_lt_zero _),fun _ h=>absurd h (Nat.not_lt_zero _),fun _ h=>absurd h (Nat.not_lt_zero _)⟩
theorem zjV:BigR zaR:=⟨by decide,fun _ h=>absurd h (Nat.not_lt_zero _),by decide,by decide,fun _ h=>absurd h (Nat.not_lt_zero _),by decide⟩
theorem zcX{m:Nat}:∀ {G:List Cl},cellsE m G=0→∀ i,i<G.length→cellE m (cl G i)=0
 | [],_,i,hi=>absurd hi (Nat.not_lt_zero _)
 | x :: r,h,i,hi=>by
  unfold cellsE at h
  by_cases h1:cellE m x=0
  ·rw[if_pos h1] at h
   match i,hi with
   | 0,_=>exact h1
   | i+1,hi=>exact zcX (G:=r) h i (by simpa using hi)
  ·rw[if_neg h1] at h
   exact absurd h h1
theorem zdG{G:List Cl}(h:zbB G=0):G.length≤24∧BigC G:=by
 unfold zbB at h
 by_cases h1:24<G.length
 ·rw[if_pos h1] at h;omega
 ·rw[if_neg h1] at h
  refine⟨by omega,fun i hi=>?_⟩
  have:=zcX h i hi
  unfold cellE at this
  split at this
  ·omega
  ·split at this
   ·omega
   ·omega
theorem zdB{R:Rl}(h:zay R=0):BigR R:=by
 obtain⟨h1,h2,h3,h4⟩:=zau h
 have:=zdG h3
 exact⟨by have:=h1.small;omega,h1.big,by omega,by omega,this.2,by omega⟩
theorem zjt(R:Rl)(x:Ac):BigR (doF R x).r:=by
 by_cases h:(doF R x).e=0
 ·exact zdB (zpF h).2.2
 ·rw[(do_no R x h).1]
  exact zjV
def newE(p:Int):Int:=if 0≤p∧p≤24 then 0 else 2
def newR(p:Int):Rl:=if 0≤p∧p≤24 then ⟨List.replicate p.toNat zaM,List.replicate 16 (0,0),[],[]⟩ else zaR
def DoAns:Prop:=∀ (A:RA) (R:Rl) (x:Ac) (w:World),BigR R→RlAt w A R →
 Calls Tryz.prog 5 #[rlV A R,acV x] w fun e w' => ∃ B:RA,e=.returned (.tuple #[rlV B (doF R x).r,.int .i64 (doF R x).o,.int .i64 (doF R x).e])∧Below w.heap.size w w' ∧ RlAt w' B (doF R x).r
def zjX:Prop:=∀ (p:Int) (w:World),
 Calls Tryz.prog 4 #[.int .i64 p] w fun e w' => ∃ B:RA,e=.returned (.tuple #[rlV B (newR p),.int .i64 (newE p)])∧Below w.heap.size w w' ∧ RlAt w' B (newR p)
def zhF:Prop:=∀ (A:RA) (R:Rl) (w:World),BigR R→RlAt w A R →
 Calls Tryz.prog 8 #[rlV A R] w fun e w' => e=.returned (.int .i64 (zay R))∧Below w.heap.size w w'
def X1:Ac:=⟨1,2,0,0,4⟩
def X2:Ac:=⟨5,2,0,0,7⟩
def X3:Ac:=⟨6,2,0,0,0⟩
def X4:Ac:=⟨6,1,0,0,0⟩
def H0:Rl:=newR 3
def H1:Rl:=(doF H0 X1).r
def H2:Rl:=(doF H1 X2).r
theorem h_0:zay H0=0:=by decide +kernel
theorem h_1:(doF H0 X1).e=0:=by decide +kernel
theorem h_2:(doF H1 X2).e=0:=by decide +kernel
theorem h_3:(doF H2 X3).e=0:=by decide +kernel
theorem h_4:(doF H2 X4).e=4:=by decide +kernel
theorem h_5:(doF H2 X3).o=7:=by decide +kernel
theorem h_6:H2.hs.length=16:=by decide +kernel
theorem h_7:newE 3=0:=by decide +kernel
def zjm:Prop:=∀ w:World,Calls Tryz.prog 7 #[] w fun e w' => e=.returned (.bool true)∧Below w.heap.size w w'
end Go.Proofs.YtojlkdekdbdpoaaGreat

namespace Go.Proofs.YtojlkdekdbdpoaaGreat
open Go.RowKit Go.ChangeShapes Go.WideShapes
set_option linter.unusedVariables false
theorem zet:(Tryz.prog.info? 60).map (fun i=>(i.zero,i.size,i.bytes))=some (some (.agg #[.int .i64 0,.int .i64 0]),2,16):=by kernel_rfl
theorem zej(w:World):(Instr.makeSlice 25 (.int .i64 16) (.int .i64 16)).run Tryz.prog w=.ok (.slice (some ⟨w.heap.size,0,none⟩) 16 16) (w.alloc (.cells (madeCells #[.int .i64 0,.int .i64 0] 32) 60)):=by
 obtain⟨i,hi,hz0,hz1,hz2⟩:=info_parts zet
 have h:=run_make (P:=Tryz.prog) w 25 60 i _ Tryz.underlying25 hi hz0 .i64 .i64 16 16 (by omega) (by omega) (by rw[hz2];omega) (by omega)
 rw[hz1] at h
 exact h
theorem zjA(n i:Nat)(h:i<n):(List.replicate n ((0:Int),(0:Int))).getD i (0,0)=(0,0):=by
 rw[zad _ _ (by rw[List.length_replicate];exact h),List.getElem_replicate]
theorem zid(n j:Nat)(h:j<n):(madeCells #[.int .i64 0,.int .i64 0] n)[j]?=some (.int .i64 0):=by
 have h2:j % 2=0∨j % 2=1:=by omega
 rcases h2 with h2|h2 <;> simp[madeCells,h,h2]
theorem zdM(W:World):zak (W.alloc (.cells (madeCells #[.int .i64 0,.int .i64 0] 32) 60)) (some ⟨W.heap.size,0,none⟩) (List.replicate 16 (0,0)):=fun i hi=>by
 rw[List.length_replicate] at hi
 refine⟨W.heap.size,0,rfl,?_,?_⟩
 ·rw[zjA 16 i hi]
  exact zac W _ _ _ (zid _ _ (by omega))
 ·rw[zjA 16 i hi]
  exact zac W _ _ _ (zid _ _ (by omega))
end Go.Proofs.YtojlkdekdbdpoaaGreat

namespace Go.Proofs.YtojlkdekdbdpoaaGreat
set_option maxRecDepth 100000
set_option maxHeartbeats 4000000
open Go.RowKit
set_option linter.unusedVariables false
def SlB(W:World)(b:Nat):Prop:=∀ j v,W.cell? ⟨b,j,none⟩=some v→∃ a n c,v=.slice a n c
def OffB(b:Nat)(W W' : World):Prop:=W.heap.size≤W'.heap.size∧∀ k,k<W.heap.size→k≠b→W'.heap[k]?=W.heap[k]?
theorem OffB.cell{b k o:Nat}{W W' : World}{v:Value}(h:OffB b W W')(hk:k≠b)(hc:W.cell? ⟨k,o,none⟩=some v):W'.cell? ⟨k,o,none⟩=some v:=by
 have:=h.2 k (World.block_lt_of_cell? _ _ hc) hk
 unfold World.cell? at hc ⊢
 dsimp only at hc ⊢
 rw[this]
 exact hc
theorem SlB.ne{W:World}{b k o:Nat}{v:Value}(h:SlB W b)(hc:W.cell? ⟨k,o,none⟩=some v)(hv:∀ a n c,v≠.slice a n c):k≠b:=fun e=>by
 subst e
 obtain⟨a,n,c,e2⟩:=h _ _ hc
 exact hv a n c e2
theorem zah.offB{W W' : World}{b:Nat}{a:Option Addr}{l:List Int}(h:zah W a l)(hs:SlB W b)(ho:OffB b W W'):zah W' a l:=fun i hi=>by
 obtain⟨k,o,e,hc⟩:=h i hi
 exact⟨k,o,e,ho.cell (hs.ne hc (fun _ _ _ h=>by cases h)) hc⟩
theorem zak.offB{W W' : World}{b:Nat}{a:Option Addr}{l:List (Int × Int)}(h:zak W a l)(hs:SlB W b)(ho:OffB b W W'):zak W' a l:=fun i hi=>by
 obtain⟨k,o,e,h1,h2⟩:=h i hi
 have hk:=hs.ne h1 (fun _ _ _ h=>by cases h)
 exact⟨k,o,e,ho.cell hk h1,ho.cell hk h2⟩
theorem NdsAt.offB{W W' : World}{b:Nat}{a:Option Addr}{S:List Nd}(h:NdsAt W a S)(hs:SlB W b)(ho:OffB b W W'):NdsAt W' a S:=fun i hi=>by
 obtain⟨k,o,e,c0,c1,c2,c3,c4,⟨ka,kc,c5,hks⟩,c6,c7⟩:=h i hi
 have hk:=hs.ne c0 (fun _ _ _ h=>by cases h)
 exact⟨k,o,e,ho.cell hk c0,ho.cell hk c1,ho.cell hk c2,ho.cell hk c3,ho.cell hk c4,⟨ka,kc,ho.cell hk c5,hks.offB hs ho⟩,ho.cell hk c6,ho.cell hk c7⟩
theorem ClsAt.offB{W W' : World}{b:Nat}{a:Option Addr}{G:List Cl}(h:ClsAt W a G)(hs:SlB W b)(ho:OffB b W W'):ClsAt W' a G:=fun i hi=>by
 obtain⟨k,o,e,c0,ka,kc,c1,hks⟩:=h i hi
 have hk:=hs.ne c0 (fun _ _ _ h=>by cases h)
 exact⟨k,o,e,ho.cell hk c0,ka,kc,ho.cell hk c1,hks.offB hs ho⟩
theorem RlAt.offB{W W' : World}{b:Nat}{A:RA}{R:Rl}(h:RlAt W A R)(hs:SlB W b)(ho:OffB b W W'):RlAt W' A R:=⟨h.1.offB hs ho,h.2.1.offB hs ho,h.2.2.1.offB hs ho,h.2.2.2.offB hs ho⟩
theorem OffB.set{W W' : World}{b o:Nat}{v:Value}(h:OffB b W W'):OffB b W (W'.setCell ⟨b,o,none⟩ v):=⟨by simpa using h.1,fun k hk hn=>(Below.heap_setCell _ _ _ _ hn).trans (h.2 k hk hn)⟩
theorem OffB.refl(b:Nat)(W:World):OffB b W W:=⟨Nat.le_refl _,fun _ _ _=>rfl⟩
theorem keepB{W W' : World}{b:Nat}{o:Obj}(h:W.heap[b]?=some o)(hb:Below W.heap.size W W'):W'.heap[b]?=some o:=(hb.block b (zaz h)).trans h
theorem keepO{W W' : World}{b k:Nat}{o:Obj}(h:W.heap[k]?=some o)(ho:OffB b W W')(hne:k≠b):W'.heap[k]?=some o:=(ho.2 k (zaz h) hne).trans h
theorem do_at(hD:DoAns){R Q:Rl}{x:Ac}{E o:Int}(hB:BigR R)(h:doF R x=⟨E,Q,o⟩)(a0 a1 a2 a3:Option Addr)(c0 c1 c2 c3:Nat)(W:World)(hW:RlAt W ⟨a0,a1,a2,a3,c0,c1,c2,c3⟩ R) :
  Calls Tryz.prog 5 #[.agg #[.slice a0 R.s.length c0,.slice a1 R.hs.length c1,.slice a2 R.i.length c2,.slice a3 R.t.length c3],.agg #[.int .i64 x.k,.int .i64 x.a,.int .i64 x.b,.int .i64 x.c,.int .i64 x.n]] W fun e w' => ∃ (b0 b1 b2 b3:Option Addr) (d0 d1 d2 d3:Nat),e=.returned (.tuple #[.agg #[.slice b0 Q.s.length d0,.slice b1 Q.hs.length d1,.slice b2 Q.i.length d2,.slice b3 Q.t.length d3],.int .i64 o,.int .i64 E])∧Below W.heap.size W w' ∧ RlAt w' ⟨b0,b1,b2,b3,d0,d1,d2,d3⟩ Q:=by
 refine(hD ⟨a0,a1,a2,a3,c0,c1,c2,c3⟩ R x W hB hW).mono ?_
 rintro e w' ⟨⟨b0,b1,b2,b3,d0,d1,d2,d3⟩,e1,hb,hr⟩
 rw[h] at e1 hr
 exact⟨b0,b1,b2,b3,d0,d1,d2,d3,e1,hb,hr⟩
theorem do_eq{R:Rl}{x:Ac}{E:Int}(h:(doF R x).e=E):doF R x=⟨E,(doF R x).r,(doF R x).o⟩:=by
 rw[← h]
theorem zoQ(hN:zjX){R:Rl}{p E:Int}(h1:newR p=R)(h2:newE p=E)(W:World) :
  Calls Tryz.prog 4 #[.int .i64 p] W fun e w' => ∃ (b0 b1 b2 b3:Option Addr) (d0 d1 d2 d3:Nat),e=.returned (.tuple #[.agg #[.slice b0 R.s.length d0,.slice b1 R.hs.length d1,.slice b2 R.i.length d2,.slice b3 R.t.length d3],.int .i64 E])∧Below W.heap.size W w' ∧ RlAt w' ⟨b0,b1,b2,b3,d0,d1,d2,d3⟩ R:=by
 refine(hN p W).mono ?_
 rintro e w' ⟨⟨b0,b1,b2,b3,d0,d1,d2,d3⟩,e1,hb,hr⟩
 rw[h1] at e1 hr
 rw[h2] at e1
 exact⟨b0,b1,b2,b3,d0,d1,d2,d3,e1,hb,hr⟩
theorem zgl{W:World}{b t:Nat}{v0 v1 v2 v3:Value}{f}(h:W.heap[b]?=some (.cells #[v0,v1,v2,v3] t f))(h0:∃ a n c,v0=.slice a n c)(h1:∃ a n c,v1=.slice a n c)(h2:∃ a n c,v2=.slice a n c)(h3:∃ a n c,v3=.slice a n c):SlB W b:=fun j v hv=>by
 unfold World.cell? at hv
 dsimp only at hv
 rw[h] at hv
 match j with
 | 0=>simp at hv;rw[← hv];exact h0
 | 1=>simp at hv;rw[← hv];exact h1
 | 2=>simp at hv;rw[← hv];exact h2
 | 3=>simp at hv;rw[← hv];exact h3
 | j+4=>simp at hv
theorem zbn{W:World}{b t i:Nat}{X:Array Value}{v:Value}{f:Nat × Nat}(h:W.heap[b]?=some (.cells X t f)):(W.setCell ⟨b,i,none⟩ v).heap[b]?=some (.cells (X.setIfInBounds i v) t f):=by
 show (W.heap.modify b _)[b]?=_
 rw[Array.getElem?_modify,if_pos rfl,h]
 rfl
theorem zbc{W:World}{b t:Nat}{v0 v1 v2 v3 u0 u1 u2 u3:Value}(h:W.heap[b]?=some (.cells #[v0,v1,v2,v3] t (0,0))):((((W.setCell ⟨b,0,none⟩ u0).setCell ⟨b,1,none⟩ u1).setCell ⟨b,2,none⟩ u2).setCell ⟨b,3,none⟩ u3).heap[b]?=some (.cells #[u0,u1,u2,u3] t (0,0)):=by
 have k0:=zbn (i:=0) (v:=u0) h
 have k1:=zbn (i:=1) (v:=u1) k0
 have k2:=zbn (i:=2) (v:=u2) k1
 exact zbn (i:=3) (v:=u3) k2
theorem zbE(W:World)(t:Nat)(v0 v1 v2 v3:Value):(W.alloc (.cells #[v0,v1,v2,v3] t)).heap[W.heap.size]?=some (.cells #[v0,v1,v2,v3] t (0,0)):=heap_alloc_new W _
theorem zaa{W:World}{b t:Nat}{v0 v1 v2 v3:Value}(h:W.heap[b]?=some (.cells #[v0,v1,v2,v3] t (0,0))):W.cell? ⟨b,0,none⟩=some v0∧W.cell? ⟨b,1,none⟩=some v1∧W.cell? ⟨b,2,none⟩=some v2∧W.cell? ⟨b,3,none⟩=some v3∧(∀ o,W.frozen? ⟨b,o,none⟩=false)∧b<W.heap.size :=
 ⟨by simp[World.cell?,h],by simp[World.cell?,h],by simp[World.cell?,h],by simp[World.cell?,h],fun o=>by simp[World.frozen?,h],zaz h⟩
def H0o:Int:=(doF H0 X1).o
def H1o:Int:=(doF H1 X2).o
theorem zly(hN:zjX)(hD:DoAns):zjm:=by
 intro w
 have D1:Hid (∀ W,Calls _ _ _ _ _):=fun W=>zoQ hN (R:=H0) rfl h_7 W
 have D2:Hid _:=do_at hD (zdB h_0) (show doF H0 X1=⟨0,H1,H0o⟩ from do_eq h_1)
 have D3:Hid _:=do_at hD (R:=H1) (zjt _ _) (show doF H1 X2=⟨0,H2,H1o⟩ from do_eq h_2)
 have D4:Hid _:=do_at hD (R:=H2) (zjt _ _) (show doF H2 X3=⟨0,(doF H2 X3).r,7⟩ from by rw[← h_5];exact do_eq h_3)
 have D5:Hid _:=do_at hD (R:=H2) (zjt _ _) (show doF H2 X4=⟨4,(doF H2 X4).r,(doF H2 X4).o⟩ from do_eq h_4)
 have LEN:Hid (H2.hs.length=16):=h_6
 clear hN hD
 generalize (doF H2 X3).r=Q3 at *
 generalize (doF H2 X4).r=Q4 at *
 generalize (doF H2 X4).o=o4 at *
 generalize H0=R0 at *
 generalize H1=R1 at *
 generalize H2=R2 at *
 generalize H0o=o1 at *
 generalize H1o=o2 at *
 go_enter Tryz.func7,Tryz.ntmps7
 go_wp2_with fail
 refine Calls.mono (D1.out _) ?_
 rintro e w1 ⟨a0,a1,a2,a3,c0,c1,c2,c3,rfl,hb,hR⟩
 have HB1:Hid (Below w.heap.size w w1):=hb
 have HR1:Hid (RlAt w1 ⟨a0,a1,a2,a3,c0,c1,c2,c3⟩ R0):=hR
 clear hb hR D1
 go_wp2_with fail
 refine Calls.mono (D2.out a0 a1 a2 a3 c0 c1 c2 c3 _ (HR1.out.below (zab _ _))) ?_
 rintro e w2 ⟨b0,b1,b2,b3,d0,d1,d2,d3,rfl,hb,hR⟩
 have HB2:Hid (Below w.heap.size w w2):=HB1.out.trans (((zab w1 _).trans (hb.mono (by simp))).mono HB1.out.size)
 have hX:w2.heap[w1.heap.size]?=some (.cells #[.slice a0 R0.s.length c0,.slice a1 R0.hs.length c1,.slice a2 R0.i.length c2,.slice a3 R0.t.length c3] 31 (0,0)):=(hb.block _ (by simp)).trans (zbE _ _ _ _ _ _)
 have HX2:Hid (w2.heap[w1.heap.size]?=some (.cells #[.slice a0 R0.s.length c0,.slice a1 R0.hs.length c1,.slice a2 R0.i.length c2,.slice a3 R0.t.length c3] 31 (0,0))):=hX
 have HR2:Hid (RlAt w2 ⟨b0,b1,b2,b3,d0,d1,d2,d3⟩ R1):=hR
 obtain⟨l0,l1,l2,l3,fz,lt⟩:=zaa hX
 clear hb hR D2 hX HR1
 go_wp2_with fail
 have SL2:Hid (SlB w2 w1.heap.size):=zgl HX2.out ⟨_,_,_,rfl⟩ ⟨_,_,_,rfl⟩ ⟨_,_,_,rfl⟩ ⟨_,_,_,rfl⟩
 refine Calls.mono (D3.out b0 b1 b2 b3 d0 d1 d2 d3 _ (HR2.out.offB SL2.out (OffB.refl _ _).set.set.set.set)) ?_
 rintro e w3 ⟨e0,e1,e2,e3,f0,f1,f2,f3,rfl,hb,hR⟩
 have HB3:Hid (Below w.heap.size w w3):=((((HB2.out.setCell HB1.out.size _).setCell HB1.out.size _).setCell HB1.out.size _).setCell HB1.out.size _).trans (hb.mono (by simpa using HB2.out.size))
 have hX:w3.heap[w1.heap.size]?=some (.cells #[.slice b0 R1.s.length d0,.slice b1 R1.hs.length d1,.slice b2 R1.i.length d2,.slice b3 R1.t.length d3] 31 (0,0)):=(hb.block _ (by simpa using lt)).trans (zbc HX2.out)
 have HX3:Hid (w3.heap[w1.heap.size]?=some (.cells #[.slice b0 R1.s.length d0,.slice b1 R1.hs.length d1,.slice b2 R1.i.length d2,.slice b3 R1.t.length d3] 31 (0,0))):=hX
 have HR3:Hid (RlAt w3 ⟨e0,e1,e2,e3,f0,f1,f2,f3⟩ R2):=hR
 clear l0 l1 l2 l3 fz lt
 obtain⟨l0,l1,l2,l3,fz,lt⟩:=zaa hX
 clear hb hR D3 hX HR2 HX2 SL2
 go_wp2_with fail
 have SL3:Hid (SlB w3 w1.heap.size):=zgl HX3.out ⟨_,_,_,rfl⟩ ⟨_,_,_,rfl⟩ ⟨_,_,_,rfl⟩ ⟨_,_,_,rfl⟩
 have HR3' : Hid (RlAt ((((w3.setCell ⟨w1.heap.size,0,none⟩ (.slice e0 R2.s.length f0)).setCell ⟨w1.heap.size,1,none⟩ (.slice e1 R2.hs.length f1)).setCell ⟨w1.heap.size,2,none⟩ (.slice e2 R2.i.length f2)).setCell ⟨w1.heap.size,3,none⟩ (.slice e3 R2.t.length f3)) ⟨e0,e1,e2,e3,f0,f1,f2,f3⟩ R2):=HR3.out.offB SL3.out (OffB.refl _ _).set.set.set.set
 have HX3' : Hid _:=zbc (u0:=.slice e0 R2.s.length f0) (u1:=.slice e1 R2.hs.length f1) (u2:=.slice e2 R2.i.length f2) (u3:=.slice e3 R2.t.length f3) HX3.out
 have HB3' : Hid (Below w.heap.size w ((((w3.setCell ⟨w1.heap.size,0,none⟩ (.slice e0 R2.s.length f0)).setCell ⟨w1.heap.size,1,none⟩ (.slice e1 R2.hs.length f1)).setCell ⟨w1.heap.size,2,none⟩ (.slice e2 R2.i.length f2)).setCell ⟨w1.heap.size,3,none⟩ (.slice e3 R2.t.length f3))):=(((HB3.out.setCell HB1.out.size _).setCell HB1.out.size _).setCell HB1.out.size _).setCell HB1.out.size _
 refine Calls.mono (D4.out e0 e1 e2 e3 f0 f1 f2 f3 _ HR3'.out) ?_
 rintro e w4 ⟨g0,g1,g2,g3,h0,h1,h2,h3,rfl,hb,hR⟩
 have HB4:Hid (Below w.heap.size w w4):=HB3'.out.trans (hb.mono HB3'.out.size)
 have hX:w4.heap[w1.heap.size]?=some (.cells #[.slice e0 R2.s.length f0,.slice e1 R2.hs.length f1,.slice e2 R2.i.length f2,.slice e3 R2.t.length f3] 31 (0,0)):=(hb.block _ (by simpa using lt)).trans HX3'.out
 have HX4:Hid (w4.heap[w1.heap.size]?=some (.cells #[.slice e0 R2.s.length f0,.slice e1 R2.hs.length f1,.slice e2 R2.i.length f2,.slice e3 R2.t.length f3] 31 (0,0))):=hX
 have HR4:Hid (RlAt w4 ⟨e0,e1,e2,e3,f0,f1,f2,f3⟩ R2):=HR3'.out.below hb
 clear l0 l1 l2 l3 fz lt
 obtain⟨l0,l1,l2,l3,fz,lt⟩:=zaa hX
 clear hb hR D4 hX HR3 HR3' HX3 HX3' SL3 HB3'
 go_wp2_with fail
 refine Calls.mono (D5.out e0 e1 e2 e3 f0 f1 f2 f3 _ (HR4.out.below (zab _ _))) ?_
 rintro e w5 ⟨i0,i1,i2,i3,j0,j1,j2,j3,rfl,hb,hR⟩
 have HB5:Hid (Below w.heap.size w w5):=HB4.out.trans (((zab w4 _).trans (hb.mono (by simp))).mono HB4.out.size)
 have hX:w5.heap[w1.heap.size]?=some (.cells #[.slice e0 R2.s.length f0,.slice e1 R2.hs.length f1,.slice e2 R2.i.length f2,.slice e3 R2.t.length f3] 31 (0,0)):=(((zab w4 _).trans (hb.mono (by simp))).block _ lt).trans HX4.out
 clear l0 l1 l2 l3 fz lt
 obtain⟨l0,l1,l2,l3,fz,lt⟩:=zaa hX
 clear hb hR D5 hX HR4 HX4
 rw[LEN.out] at l1
 go_wp2_with fail
 go_ret
 exact⟨rfl,HB5.out.trans ((zab w5 _).mono HB5.out.size)⟩
end Go.Proofs.YtojlkdekdbdpoaaGreat
