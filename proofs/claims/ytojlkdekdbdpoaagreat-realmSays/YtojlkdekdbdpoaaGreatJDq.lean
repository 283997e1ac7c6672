/-
  x
-/
import Derived.Test.YtojlkdekdbdpoaaGreatJCmDsDtDu
import Derived.Test.YtojlkdekdbdpoaaGreatJLxLyDr
import Derived.Deep.RegionHeld3
namespace Go.Proofs.YtojlkdekdbdpoaaGreat
open Go.RowKit
set_option linter.unusedVariables false
theorem zaH{W:World}{b t:Nat}{v0 v1 v2 v3 v4:Value}(h:W.heap[b]?=some (.cells #[v0,v1,v2,v3,v4] t (0,0))):W.cell? ⟨b,0,none⟩=some v0∧W.cell? ⟨b,1,none⟩=some v1∧W.cell? ⟨b,2,none⟩=some v2∧W.cell? ⟨b,3,none⟩=some v3∧W.cell? ⟨b,4,none⟩=some v4∧b<W.heap.size :=
 ⟨by simp[World.cell?,h],by simp[World.cell?,h],by simp[World.cell?,h],by simp[World.cell?,h],by simp[World.cell?,h],zaz h⟩
theorem zaY{W:World}{b t:Nat}{v0 v1:Value}(h:W.heap[b]?=some (.cells #[v0,v1] t (0,0))):W.cell? ⟨b,0,none⟩=some v0∧W.cell? ⟨b,1,none⟩=some v1∧b<W.heap.size :=
 ⟨by simp[World.cell?,h],by simp[World.cell?,h],zaz h⟩
theorem znB(V:World)(t:Nat)(T M:Int):zaK (V.alloc (.cells #[.int .i64 T,.int .i64 M,.bool false] t)) (some ⟨V.heap.size,0,none⟩) [⟨T,M,false⟩]:=fun i hi=>by
 match i,hi with
 | 0,_=>exact⟨_,_,rfl,zac V _ t 0 rfl,zac V _ t 1 rfl,zac V _ t 2 rfl⟩
theorem zdP{S:List Nd}(wf:WF S)(p u:Int):zbV S p u=findE S p u:=by
 unfold findE
 rw[if_pos ((zcK S).2 wf)]
theorem zku(x:Nd)(n:Int):∀ v j', j' < 8→(ncell { x with m:=n } v)[j']?=if j' = 3 then some (.int .i64 n) else (ncell x v)[j']?:=fun v j' hj=>by
 have:j' = 0∨j' = 1∨j' = 2∨j' = 3∨j' = 4∨j' = 5∨j' = 6∨j' = 7:=by omega
 rcases this with rfl|rfl|rfl|rfl|rfl|rfl|rfl|rfl <;> rfl
theorem zfq(n:Int)(w:World)(b:Bool)(h:decide (-1000000≤n∧n≤1000000)=b):Calls Tryz.prog 29 #[.int .i64 n,.int .i64 (-1000000),.int .i64 1000000] w fun e w' => e=.returned (.bool b)∧w' = w:=by
 have:=zbC n (-1000000) 1000000 w
 rwa [h] at this
theorem zjn(n:Int)(m:Int)(w:World)(b:Bool)(h:decide (0≤n∧n≤m)=b):Calls Tryz.prog 29 #[.int .i64 n,.int .i64 0,.int .i64 m] w fun e w' => e=.returned (.bool b)∧w' = w:=by
 have:=zbC n 0 m w
 rwa [h] at this
theorem zjw{w:World}{B:Nat}{S:List Nd}{K:Nat→Value}{a:Option Addr}{c:Nat}(h:OwnK B S S.length K (.slice a S.length c) w)(h0:0<S.length):∃ sg,a=some ⟨sg,0,none⟩∧B≤sg∧sg<w.heap.size:=by
 have h1:=h.1
 rcases h1.2 with ⟨e,h2⟩ |⟨g,cap,cur,e,_⟩
 ·omega
 ·cases e
  exact⟨g,rfl,(h1.lt g rfl).1,(h1.lt g rfl).2⟩
theorem zlU{S:List Nd}(wf:WF S){k:Nat}(hk:k<S.length)(hp:(nd S k).p≠-1):0≤(nd S k).p∧(nd S k).p<(S.length:Int):=by
 obtain⟨q,e,hq,_⟩:=wf.parent_place hk hp
 omega
theorem zlc(L:List (Int × Int))(k:Nat)(h:Int × Int)(hk:k<L.length):hcells (L.set k h)=((hcells L).set (k*2) (.int .i64 h.1)).set (k*2+1) (.int .i64 h.2):=by
 unfold hcells
 induction L generalizing k with
 | nil=>exact absurd hk (Nat.not_lt_zero _)
 | cons x r ih =>
  match k,hk with
  | 0,_=>simp
  | k+1,hk =>
   have h1:=ih k (by simpa using hk)
   rw[List.set_cons_succ,List.flatMap_cons,List.flatMap_cons,h1]
   rw[show (k+1)*2=k*2+1+1 by omega]
   simp
theorem zhr{w:World}{B g cap:Nat}{L:List (Int × Int)}{k:Nat}{h:Int × Int}(hk:k<L.length)(H:w.ownsRow B 60 2 (.slice (some ⟨g,0,none⟩) 16 cap) 16 (hcells L)):((w.setCell ⟨g,k*2,none⟩ (.int .i64 h.1)).setCell ⟨g,k*2+1,none⟩ (.int .i64 h.2)).ownsRow B 60 2 (.slice (some ⟨g,0,none⟩) 16 cap) 16 (hcells (L.set k h)):=by
 have h1:=(H.stored (k*2) (.int .i64 h.1)).1
 have h2:=(h1.stored (k*2+1) (.int .i64 h.2)).1
 rw[zlc L k h hk]
 exact h2
theorem DoesI.put2{w:World}{ab:Nat}{R:Rl}{xk xq xr xs xn h1 h2:Int}{s0:Option Addr}{k0:Nat}{K:Nat→Value}{g k1:Nat}{a2:Option Addr}{c2:Nat}{t0:Option Addr}{k3:Nat}{V X:World}(I:DoesI w ab R xk xq xr xs xn h1 h2 s0 k0 K g k1 a2 c2 t0 k3 V)(gx:∀ b,b≠g→b≠w.heap.size→b<V.heap.size→X.heap[b]?=V.heap[b]?){L:List (Int × Int)}(hL:L.length=16)(hs:X.ownsRow (w.heap.size+5) 60 2 (.slice (some ⟨g,0,none⟩) 16 k1) 16 (hcells L))(bel:Below w.heap.size w X){a' : Option Addr}{c' : Nat}{T:List Nd}(hT:NdsAt X a' T)(hCI:ClsAt w a2 R.i):RlAt X ⟨a', some ⟨g,0,none⟩,a2,t0,c', k1,c2,k3⟩ ⟨T,L,R.i,R.t⟩:=by
 rw[← hL] at hs
 obtain⟨b,c,e,h⟩:=zdI hs
 cases e
 obtain⟨b,c,e,h2⟩:=zcb (zam (w' := X) I.ts (fun kk hk=>gx kk (fun e=>by subst e;exact zbr I.hs I.ts (by decide) kk rfl hk) (fun e=>by have:=(I.ts.lt kk hk).1;omega) (I.ts.lt kk hk).2))
 cases e
 exact⟨hT,h,hCI.below bel,h2⟩
theorem zck{w:World}{b t:Nat}{v0 v1 v2 v3 v:Value}(h:w.heap[b]?=some (.cells #[v0,v1,v2,v3] t (0,0))):(w.setCell ⟨b,0,none⟩ v).heap[b]?=some (.cells #[v,v1,v2,v3] t (0,0)):=by
 show (w.heap.modify b _)[b]?=_
 rw[Array.getElem?_modify,if_pos rfl,h]
 rfl
theorem zmQ(W:World)(b t:Nat)(x y:Int)(h:W.heap.size=b):∀ j u,([.int .i64 x,.int .i64 y]:List Value)[j]?=some u→(W.alloc (.cells #[.int .i64 x,.int .i64 y] t)).cell? ((⟨b,0,none⟩:Addr).add j)=some u:=fun j u hj=>by
 subst h
 rw[Addr.add_lit,Nat.zero_add]
 exact zac W #[.int .i64 x,.int .i64 y] t j (by simpa using hj)
theorem zoF(x y:Int):∀ u ∈ ([.int .i64 x,.int .i64 y]:List Value),u.oneCell' = true:=fun u hu=>by
 simp at hu
 rcases hu with rfl|rfl <;> rfl
theorem zlQ{w:World}{B:Nat}{v:Value}{x y:Int}(h:w.ownsRow B 60 2 v 1 [.int .i64 x,.int .i64 y]):∃ a c,v=.slice a 1 c∧zak w a [(x,y)]:=zdI (L:=[(x,y)]) h
theorem zhH{w w' : World}{o:Obj}(h:(w.alloc o).grownBy w' none):Below w.heap.size w w' :=(zab w o).grown h (by simp) (fun kk hk=>by cases hk)
theorem zhA{x:Int}(h:isH x):∃ p:Nat,x=p∧p<16:=⟨x.toNat,by have:=h.1;omega,by have:=h.1;have:=h.2;omega⟩
theorem hd_of{R:Rl}{p:Nat}{h:Int × Int}(e:R.hs.getD p (0,0)=h):hd R (p:Int)=h:=by
 unfold hd
 rw[Int.toNat_natCast]
 exact e
def DoesP(R:Rl)(x:Ac)(w:World)(e:Ending)(w' : World):Prop:=∃ B:RA,e=.returned (.tuple #[rlV B (doG R x).r,.int .i64 (doG R x).o,.int .i64 (doG R x).e])∧Below w.heap.size w w' ∧ RlAt w' B (doG R x).r
structure DoesR (w:World) (R:Rl) (x:Ac) (o E:Int) (V:World):Prop where
 bel:Below w.heap.size w V
 z:V.heap[w.heap.size+1+1]?=some (.cells #[.slice none 0 0,.slice none 0 0,.slice none 0 0,.slice none 0 0] 31 (0,0))
 bad:E≠0→doG R x=bad E
 ok:E=0→∃ (b0 b1 b2 b3:Option Addr) (d0 d1 d2 d3:Nat) (Q:Rl),doG R x=⟨0,Q,o⟩∧V.heap[w.heap.size]?=some (bxR ⟨b0,b1,b2,b3,d0,d1,d2,d3⟩ Q)∧RlAt V ⟨b0,b1,b2,b3,d0,d1,d2,d3⟩ Q
theorem zgC{E:Int}{R:Rl}{o:Int}(h:E=0):ans E R o=⟨0,R,o⟩:=if_pos h
theorem zfI{E:Int}{R:Rl}{o:Int}(h:E≠0):ans E R o=bad E:=if_neg h
theorem DoesI.ask{w:World}{ab:Nat}{R:Rl}{xk xq xr xs xn h1 h2:Int}{s0:Option Addr}{k0:Nat}{K:Nat→Value}{g k1:Nat}{a2:Option Addr}{c2:Nat}{t0:Option Addr}{k3:Nat}{V:World}(I:DoesI w ab R xk xq xr xs xn h1 h2 s0 k0 K g k1 a2 c2 t0 k3 V)(h16:R.hs.length=16){o E:Int}(hd:doG R ⟨xk,xq,xr,xs,xn⟩=ans E R o):DoesR w R ⟨xk,xq,xr,xs,xn⟩ o E V :=
 ⟨I.bel,I.z,fun h=>hd.trans (zfI h),fun h=>⟨s0,some ⟨g,0,none⟩,a2,t0,k0,k1,c2,k3,R,hd.trans (zgC h),by rw[I.r,← h16],I.rl h16 I.nds⟩⟩
theorem DoesI.sto{w:World}{ab:Nat}{R:Rl}{xk xq xr xs xn h1 h2:Int}{s0:Option Addr}{k0:Nat}{K:Nat→Value}{g k1:Nat}{a2:Option Addr}{c2:Nat}{t0:Option Addr}{k3:Nat}{V:World}(I:DoesI w ab R xk xq xr xs xn h1 h2 s0 k0 K g k1 a2 c2 t0 k3 V)(h16:R.hs.length=16){E:Int}{T' : List Nd}{a' : Option Addr}{c' : Nat}(hN:NdsAt V a' (rS E T'))(hd:doG R ⟨xk,xq,xr,xs,xn⟩=ans E ⟨T', R.hs,R.i,R.t⟩ 0):DoesR w R ⟨xk,xq,xr,xs,xn⟩ 0 E (V.setCell ⟨w.heap.size,0,none⟩ (.slice a' (rS E T').length c')) :=
 ⟨I.bel.setCell (Nat.le_refl _) _,(Below.heap_setCell _ _ _ _ (by show w.heap.size+1+1≠w.heap.size;omega)).trans I.z,fun h=>hd.trans (zfI h),fun h=>by
  subst h
  exact⟨a', some ⟨g,0,none⟩,a2,t0,c', k1,c2,k3,_,hd.trans (zgC rfl),by rw[zck I.r,← h16];rfl,(I.rl h16 hN).offB (sl4 I.r) (OffB.refl _ _).set⟩⟩
theorem DoesI.hnd{w:World}{ab:Nat}{R:Rl}{xk xq xr xs xn h1 h2:Int}{s0:Option Addr}{k0:Nat}{K:Nat→Value}{g k1:Nat}{a2:Option Addr}{c2:Nat}{t0:Option Addr}{k3:Nat}{V:World}(I:DoesI w ab R xk xq xr xs xn h1 h2 s0 k0 K g k1 a2 c2 t0 k3 V)(h16:R.hs.length=16)(hCI:ClsAt w a2 R.i){E:Int}{T' : List Nd}{a' : Option Addr}{c' n0 k:Nat}{h:Int × Int}(hk:k<16)(hn0:g<n0∧w.heap.size<n0)(hN:∀ w3:World,(∀ b,n0≤b→w3.heap[b]?=V.heap[b]?)→NdsAt w3 a' (rS E T'))(hd:doG R ⟨xk,xq,xr,xs,xn⟩=ans E ⟨T', R.hs.set k h,R.i,R.t⟩ 0):DoesR w R ⟨xk,xq,xr,xs,xn⟩ 0 E (((V.setCell ⟨w.heap.size,0,none⟩ (.slice a' (rS E T').length c')).setCell ⟨g,k*2,none⟩ (.int .i64 (rH E h).1)).setCell ⟨g,k*2+1,none⟩ (.int .i64 (rH E h).2)):=by
 have hg5:w.heap.size+5≤g:=(I.hs.lt g rfl).1
 have gx:∀ b,b≠g→b≠w.heap.size→(((V.setCell ⟨w.heap.size,0,none⟩ (.slice a' (rS E T').length c')).setCell ⟨g,k*2,none⟩ (.int .i64 (rH E h).1)).setCell ⟨g,k*2+1,none⟩ (.int .i64 (rH E h).2)).heap[b]?=V.heap[b]?:=fun b hb hb2=>by rw[Below.heap_setCell _ _ _ _ hb,Below.heap_setCell _ _ _ _ hb,Below.heap_setCell _ _ _ _ hb2]
 have bel:Below w.heap.size w (((V.setCell ⟨w.heap.size,0,none⟩ (.slice a' (rS E T').length c')).setCell ⟨g,k*2,none⟩ (.int .i64 (rH E h).1)).setCell ⟨g,k*2+1,none⟩ (.int .i64 (rH E h).2)):=((I.bel.setCell (Nat.le_refl _) _).setCell (by show w.heap.size≤g;omega) _).setCell (by show w.heap.size≤g;omega) _
 refine⟨bel,(gx _ (by omega) (by omega)).trans I.z,fun h=>hd.trans (zfI h),fun h=>?_⟩
 subst h
 refine⟨a', some ⟨g,0,none⟩,a2,t0,c', k1,c2,k3,_,hd.trans (zgC rfl),?_,I.put2 (fun b h1 h2 _=>gx b h1 h2) (by rw[List.length_set];exact h16) (zhr (by rw[h16];exact hk) (zam I.hs (fun kk hk=>Below.heap_setCell _ _ _ _ (by show kk≠w.heap.size;have:=(I.hs.lt kk hk).1;omega)))) bel (hN _ (fun b hb=>gx b (by omega) (by omega))) hCI⟩
 rw[Below.heap_setCell _ _ _ _ (by show w.heap.size≠g;omega),Below.heap_setCell _ _ _ _ (by show w.heap.size≠g;omega),zck I.r]
 dsimp only[bxR]
 rw[List.length_set,h16]
 rfl
theorem zjh{E o o' : Int}{R:Rl}(h:E=0→o=o'):ans E R o=ans E R o' := by
 by_cases hE:E=0
 ·rw[h hE]
 ·rw[zfI hE,zfI hE]
theorem DoesI.mrk{w:World}{ab:Nat}{R:Rl}{xk xq xr xs xn h1 h2:Int}{sg:Nat}{k0:Nat}{K:Nat→Value}{g k1:Nat}{a2:Option Addr}{c2:Nat}{t0:Option Addr}{k3:Nat}{V:World}(I:DoesI w ab R xk xq xr xs xn h1 h2 (some ⟨sg,0,none⟩) k0 K g k1 a2 c2 t0 k3 V)(h16:R.hs.length=16)(hCI:ClsAt w a2 R.i){k:Nat}{n:Int}(hk:k<R.s.length)(hd:doG R ⟨xk,xq,xr,xs,xn⟩=⟨0,⟨R.s.set k { nd R.s k with m:=n },R.hs,R.i,R.t⟩,0⟩):DoesR w R ⟨xk,xq,xr,xs,xn⟩ 0 0 (V.setCell ⟨sg,k*8+3,none⟩ (.int .i64 n)):=by
 obtain⟨x,ex,hsg,_⟩:=zjw I.own (by omega)
 cases ex
 have OK8:OwnK (w.heap.size+5) (R.s.set k { nd R.s k with m:=n }) R.s.length K (.slice (some ⟨sg,0,none⟩) R.s.length k0) (V.setCell ⟨sg,k*8+3,none⟩ (.int .i64 n)):=I.own.put1 hk rfl (by omega) _ (zku _ _) rfl
 have bel:Below w.heap.size w (V.setCell ⟨sg,k*8+3,none⟩ (.int .i64 n)):=I.bel.setCell (by show w.heap.size≤sg;omega) _
 refine⟨bel,(Below.heap_setCell _ _ _ _ (by show w.heap.size+1+1≠sg;omega)).trans I.z,fun h=>absurd rfl h,fun _=>⟨some ⟨sg,0,none⟩,some ⟨g,0,none⟩,a2,t0,k0,k1,c2,k3,_,hd,?_,?_⟩⟩
 ·rw[Below.heap_setCell _ _ _ _ (by show w.heap.size≠sg;omega),I.r]
  dsimp only[bxR]
  rw[List.length_set,h16]
 ·have hh:=zam (w' := V.setCell ⟨sg,k*8+3,none⟩ (.int .i64 n)) I.hs (fun kk hk=>Below.heap_setCell _ _ _ _ (fun e=>by subst e;exact zbr I.hs I.own.1 (by decide) kk hk rfl))
  rw[← h16] at hh
  obtain⟨b,c,e,h⟩:=zdI hh
  cases e
  obtain⟨b,c,e,h2⟩:=zcb (zam (w' := V.setCell ⟨sg,k*8+3,none⟩ (.int .i64 n)) I.ts (fun kk hk=>Below.heap_setCell _ _ _ _ (fun e=>by subst e;exact zbr I.ts I.own.1 (by decide) kk hk rfl)))
  cases e
  exact⟨OK8.ndsAt (by rw[List.length_set]),h,hCI.below bel,h2⟩
theorem DoesI.hst{w:World}{ab:Nat}{R:Rl}{xk xq xr xs xn h1 h2:Int}{s0:Option Addr}{k0:Nat}{K:Nat→Value}{g k1:Nat}{a2:Option Addr}{c2:Nat}{t0:Option Addr}{k3:Nat}{V:World}(I:DoesI w ab R xk xq xr xs xn h1 h2 s0 k0 K g k1 a2 c2 t0 k3 V)(h16:R.hs.length=16)(hCI:ClsAt w a2 R.i){k:Nat}{h:Int × Int}(hk:k<16)(hd:doG R ⟨xk,xq,xr,xs,xn⟩=⟨0,⟨R.s,R.hs.set k h,R.i,R.t⟩,0⟩):DoesR w R ⟨xk,xq,xr,xs,xn⟩ 0 0 ((V.setCell ⟨g,k*2,none⟩ (.int .i64 h.1)).setCell ⟨g,k*2+1,none⟩ (.int .i64 h.2)).drew:=by
 have hg5:w.heap.size+5≤g:=(I.hs.lt g rfl).1
 have gx:∀ b,b≠g→((V.setCell ⟨g,k*2,none⟩ (.int .i64 h.1)).setCell ⟨g,k*2+1,none⟩ (.int .i64 h.2)).drew.heap[b]?=V.heap[b]?:=fun b hb=>by rw[heap_drew,Below.heap_setCell _ _ _ _ hb,Below.heap_setCell _ _ _ _ hb]
 have bel:Below w.heap.size w ((V.setCell ⟨g,k*2,none⟩ (.int .i64 h.1)).setCell ⟨g,k*2+1,none⟩ (.int .i64 h.2)).drew:=((I.bel.setCell (by show w.heap.size≤g;omega) _).setCell (by show w.heap.size≤g;omega) _).drew
 have OWX:OwnK (w.heap.size+5) R.s R.s.length K (.slice s0 R.s.length k0) ((V.setCell ⟨g,k*2,none⟩ (.int .i64 h.1)).setCell ⟨g,k*2+1,none⟩ (.int .i64 h.2)).drew:=⟨zam I.own.1 (fun kk hk=>gx kk (fun e=>by subst e;exact zbr I.hs I.own.1 (by decide) kk rfl hk)),fun i hi=>zam (I.own.2 i hi) (fun kk hk=>gx kk (fun e=>by subst e;exact zbr I.hs (I.own.2 i hi) (by decide) kk rfl hk))⟩
 have NX:NdsAt ((V.setCell ⟨g,k*2,none⟩ (.int .i64 h.1)).setCell ⟨g,k*2+1,none⟩ (.int .i64 h.2)).drew s0 R.s:=by
  obtain⟨a,c,e,h⟩:=OWX.nds
  cases e
  exact h
 refine⟨bel,(gx _ (by omega)).trans I.z,fun h=>absurd rfl h,fun _=>⟨s0,some ⟨g,0,none⟩,a2,t0,k0,k1,c2,k3,_,hd,?_,I.put2 (fun b h1 _ _=>gx b h1) (by rw[List.length_set];exact h16) (zam (zhr (by rw[h16];exact hk) I.hs) (fun kk _=>by rw[heap_drew])) bel NX hCI⟩⟩
 rw[gx _ (by omega),I.r]
 dsimp only[bxR]
 rw[List.length_set,h16]
theorem zbA{w w1:World}{a0 a1 a2 a3:Option Addr}{c0 c1 c2 c3:Nat}{R:Rl}{p:Nat}{xk xr xs xn h1 h2:Int}{s0:Option Addr}{k0:Nat}{K:Nat→Value}{g k1:Nat}{t0:Option Addr}{k3:Nat}(hL:RlAt w ⟨a0,a1,a2,a3,c0,c1,c2,c3⟩ R)(h16:R.hs.length=16)(hh:R.hs.getD p (0,0)=(h1,h2))(hp:p<16)(hb:Below (((w.alloc (.cells #[.slice a0 R.s.length c0,.slice a1 R.hs.length c1,.slice a2 R.i.length c2,.slice a3 R.t.length c3] 31)).alloc (.cells #[.int .i64 xk,.int .i64 (p:Int),.int .i64 xr,.int .i64 xs,.int .i64 xn] 33)).alloc (.cells #[.slice none 0 0,.slice none 0 0,.slice none 0 0,.slice none 0 0] 31)).heap.size (((w.alloc (.cells #[.slice a0 R.s.length c0,.slice a1 R.hs.length c1,.slice a2 R.i.length c2,.slice a3 R.t.length c3] 31)).alloc (.cells #[.int .i64 xk,.int .i64 (p:Int),.int .i64 xr,.int .i64 xs,.int .i64 xn] 33)).alloc (.cells #[.slice none 0 0,.slice none 0 0,.slice none 0 0,.slice none 0 0] 31)) w1)
  (hO:OwnK (w.heap.size+1+1+1+1+1) R.s R.s.length K (.slice s0 R.s.length k0) w1) (hH:w1.ownsRow (w.heap.size+1+1+1+1+1) 60 2 (.slice (some ⟨g,0,none⟩) 16 k1) 16 (hcells R.hs)) (hT:w1.ownsRow (w.heap.size+1+1+1+1+1) 3 1 (.slice t0 R.t.length k3) R.t.length (R.t.map (Value.int .i64))) :
  DoesI w w1.heap.size R xk (p:Int) xr xs xn h1 h2 s0 k0 K g k1 a2 c2 t0 k3 (((((w1.setCell ⟨w.heap.size,0,none⟩ (.slice s0 R.s.length k0)).setCell ⟨w.heap.size,1,none⟩ (.slice (some ⟨g,0,none⟩) 16 k1)).setCell ⟨w.heap.size,2,none⟩ (.slice a2 R.i.length c2)).setCell ⟨w.heap.size,3,none⟩ (.slice t0 R.t.length k3)).alloc (.cells #[.int .i64 h1,.int .i64 h2] 60))∧w1.cell? ⟨g,p*2,none⟩=some (.int .i64 h1)∧w1.cell? ⟨g,p*2+1,none⟩=some (.int .i64 h2)∧g<w1.heap.size∧w.heap.size<g∧w1.heap[w.heap.size]?=some (.cells #[.slice a0 R.s.length c0,.slice a1 R.hs.length c1,.slice a2 R.i.length c2,.slice a3 R.t.length c3] 31 (0,0))∧w1.heap[w.heap.size+1]?=some (.cells #[.int .i64 xk,.int .i64 (p:Int),.int .i64 xr,.int .i64 xs,.int .i64 xn] 33 (0,0))∧w1.heap[w.heap.size+1+1]?=some (.cells #[.slice none 0 0,.slice none 0 0,.slice none 0 0,.slice none 0 0] 31 (0,0)):=by
 have W0B:Below w.heap.size w (((w.alloc (.cells #[.slice a0 R.s.length c0,.slice a1 R.hs.length c1,.slice a2 R.i.length c2,.slice a3 R.t.length c3] 31)).alloc (.cells #[.int .i64 xk,.int .i64 (p:Int),.int .i64 xr,.int .i64 xs,.int .i64 xn] 33)).alloc (.cells #[.slice none 0 0,.slice none 0 0,.slice none 0 0,.slice none 0 0] 31)):=(zaf w _ _).trans ((zab _ _).mono (by first|(simp;done)|(simp;omega)))
 have HB1:Below w.heap.size w w1:=W0B.trans (hb.mono W0B.size)
 have bx:w1.heap[w.heap.size+1]?=some (.cells #[.int .i64 xk,.int .i64 (p:Int),.int .i64 xr,.int .i64 xs,.int .i64 xn] 33 (0,0)):=(hb.block _ (by first|(simp;done)|(simp;omega))).trans (((zab _ _).block _ (by simp)).trans (by simpa using heap_alloc_new (w.alloc (.cells #[.slice a0 R.s.length c0,.slice a1 R.hs.length c1,.slice a2 R.i.length c2,.slice a3 R.t.length c3] 31)) (.cells #[.int .i64 xk,.int .i64 (p:Int),.int .i64 xr,.int .i64 xs,.int .i64 xn] 33)))
 have bz:w1.heap[w.heap.size+1+1]?=some (.cells #[.slice none 0 0,.slice none 0 0,.slice none 0 0,.slice none 0 0] 31 (0,0)):=(hb.block _ (by simp)).trans (by simpa using heap_alloc_new ((w.alloc (.cells #[.slice a0 R.s.length c0,.slice a1 R.hs.length c1,.slice a2 R.i.length c2,.slice a3 R.t.length c3] 31)).alloc (.cells #[.int .i64 xk,.int .i64 (p:Int),.int .i64 xr,.int .i64 xs,.int .i64 xn] 33)) (.cells #[.slice none 0 0,.slice none 0 0,.slice none 0 0,.slice none 0 0] 31))
 have br:w1.heap[w.heap.size]?=some (.cells #[.slice a0 R.s.length c0,.slice a1 R.hs.length c1,.slice a2 R.i.length c2,.slice a3 R.t.length c3] 31 (0,0)):=(hb.block _ (by first|(simp;done)|(simp;omega))).trans (((zab _ _).block _ (by first|(simp;done)|(simp;omega))).trans (((zab _ _).block _ (by simp)).trans (zbE _ _ _ _ _ _)))
 have hg1:=(hH.lt g rfl).1
 have hg2:g<w1.heap.size:=(hH.lt g rfl).2
 have hg3:w.heap.size<g:=by omega
 have hcl:ClsAt w1 a2 R.i:=hL.2.2.1.below HB1
 obtain⟨q1,q2⟩:w1.cell? ⟨g,p*2,none⟩=some (.int .i64 h1)∧w1.cell? ⟨g,p*2+1,none⟩=some (.int .i64 h2):=by
  obtain⟨y1,y2⟩:=zbj R.hs p (by rw[h16];exact hp)
  rw[hh] at y1 y2
  have y3:=hH.cells (g:=g) rfl _ _ y1
  have y4:=hH.cells (g:=g) rfl _ _ y2
  rw[Addr.add_lit,Nat.zero_add] at y3 y4
  exact⟨y3,y4⟩
 have HI:(DoesI w w1.heap.size R xk (p:Int) xr xs xn h1 h2 s0 k0 K g k1 a2 c2 t0 k3 (((((w1.setCell ⟨w.heap.size,0,none⟩ (.slice s0 R.s.length k0)).setCell ⟨w.heap.size,1,none⟩ (.slice (some ⟨g,0,none⟩) 16 k1)).setCell ⟨w.heap.size,2,none⟩ (.slice a2 R.i.length c2)).setCell ⟨w.heap.size,3,none⟩ (.slice t0 R.t.length k3)).alloc (.cells #[.int .i64 h1,.int .i64 h2] 60))):=by
  have key:∀ b,b<w1.heap.size→b≠w.heap.size→(((((w1.setCell ⟨w.heap.size,0,none⟩ (.slice s0 R.s.length k0)).setCell ⟨w.heap.size,1,none⟩ (.slice (some ⟨g,0,none⟩) 16 k1)).setCell ⟨w.heap.size,2,none⟩ (.slice a2 R.i.length c2)).setCell ⟨w.heap.size,3,none⟩ (.slice t0 R.t.length k3)).alloc (.cells #[.int .i64 h1,.int .i64 h2] 60)).heap[b]?=w1.heap[b]?:=fun b hb hne=>((zab _ _).block b (by simpa using hb)).trans (by rw[Below.heap_setCell _ _ _ _ hne,Below.heap_setCell _ _ _ _ hne,Below.heap_setCell _ _ _ _ hne,Below.heap_setCell _ _ _ _ hne])
  refine⟨?_,?_,(key _ (zaz bx) (by omega)).trans bx,(key _ (zaz bz) (by omega)).trans bz,by simpa using heap_alloc_new ((((w1.setCell ⟨w.heap.size,0,none⟩ (.slice s0 R.s.length k0)).setCell ⟨w.heap.size,1,none⟩ (.slice (some ⟨g,0,none⟩) 16 k1)).setCell ⟨w.heap.size,2,none⟩ (.slice a2 R.i.length c2)).setCell ⟨w.heap.size,3,none⟩ (.slice t0 R.t.length k3)) (.cells #[.int .i64 h1,.int .i64 h2] 60),hO.other (fun b hb hlt=>key b hlt (by omega)),zam hH (fun b hk=>key b (hH.lt b hk).2 (by have:=(hH.lt b hk).1;omega)),zam hT (fun b hk=>key b (hT.lt b hk).2 (by have:=(hT.lt b hk).1;omega)),?_⟩
  ·exact((((HB1.setCell (Nat.le_refl _) _).setCell (Nat.le_refl _) _).setCell (Nat.le_refl _) _).setCell (Nat.le_refl _) _).trans ((zab _ _).mono (by simpa using HB1.size))
  ·exact keepB (zbc br) (zab _ _)
  ·exact(hcl.offB (sl4 br) (OffB.refl _ _).set.set.set.set).below (zab _ _)
 exact⟨HI,q1,q2,hg2,hg3,br,bx,bz⟩
theorem zaT{w W8 W9:World}{b0 b1 b2 b3:Option Addr}{d0 d1 d2 d3:Nat}{Q:Rl}{u0 u1 u2 u3:Option Addr}{v0 v1 v2 v3 e0 e1 e2 e3:Nat}(BZ:W8.heap[w.heap.size+1+1]?=some (.cells #[.slice u0 v0 e0,.slice u1 v1 e1,.slice u2 v2 e2,.slice u3 v3 e3] 31 (0,0)))(HB:Below w.heap.size w W8)(HR:RlAt W8 ⟨b0,b1,b2,b3,d0,d1,d2,d3⟩ Q)
  (hW:W9=((((W8.setCell ⟨w.heap.size+1+1,0,none⟩ (.slice b0 Q.s.length d0)).setCell ⟨w.heap.size+1+1,1,none⟩ (.slice b1 Q.hs.length d1)).setCell ⟨w.heap.size+1+1,2,none⟩ (.slice b2 Q.i.length d2)).setCell ⟨w.heap.size+1+1,3,none⟩ (.slice b3 Q.t.length d3))) :
  W9.heap[w.heap.size+1+1]?=some (.cells #[.slice b0 Q.s.length d0,.slice b1 Q.hs.length d1,.slice b2 Q.i.length d2,.slice b3 Q.t.length d3] 31 (0,0))∧Below w.heap.size w W9∧RlAt W9 ⟨b0,b1,b2,b3,d0,d1,d2,d3⟩ Q:=by
 subst hW
 have hle:w.heap.size≤w.heap.size+1+1:=by omega
 exact⟨zbc BZ,(((HB.setCell hle _).setCell hle _).setCell hle _).setCell hle _,HR.offB (sl4 BZ) (OffB.refl _ _).set.set.set.set⟩
end Go.Proofs.YtojlkdekdbdpoaaGreat
