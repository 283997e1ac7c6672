/-
  x
-/
import Derived.Test.YtojlkdekdbdpoaaGreatJSaSbScSdSe
import Derived.Laws.CopyOwn
import Derived.Laws.EntriesVeiled
import Derived.Test.YtojlkdekdbdpoaaGreatJTbSpTcTd
import Derived.Deep.RegionLaw
namespace Go.Proofs.YtojlkdekdbdpoaaGreat
open Go.RowKit
theorem zeo{P:Program}(w:World)(dT sT ty elem:TypeId)(i:TypeInfo)(g o dLen dCap:Nat)(a:Addr)(sLen sCap n:Nat)(cur:Array Value)(t:TypeId)(cs:List Value)
  (hu:P.underlying dT=some (.slice elem)) (hi:P.info? elem=some i) (hg:w.heap[g]?=some (.cells cur t (0,0))) (hn:n=Nat.min sLen dLen) (hl:cs.length=n*i.size)
  (hsrc:∀ j v,cs[j]?=some v→w.cell? (a.add j)=some v) (hfit:o+cs.length≤cur.size) (h1:∀ v ∈ cs,v.oneCell' = true) :
  (Builtin.copy_ #[dT,sT] ty #[.slice (some ⟨g,o,none⟩) dLen dCap,.slice (some a) sLen sCap]).run P w=.ok (goInt n) (w.setRow g (cur.toList.take o++cs++cur.toList.drop (o+cs.length)).toArray):=by
 have hf:=run_firstCells_some (P:=P) w i.size n a sLen sCap cs hl hsrc
 have hst:=run_storeCells_at P g o t cs 0 cur w hg (by simpa using hfit) h1
 simp only[Nat.add_zero] at hst
 simp[Builtin.copy_,run_underlying hu,Builtin.lenOf,sizeOf,typeInfo,hi,← hn,hf,hst]
theorem zdr{P:Program}{w:World}{ops:Array Oper}{rest:List Oper}{o:Oper}{a:Act}{Q:Exit→Act→World→Prop}(hgd:o.guard=none)(d s:Operand)(dT sT:TypeId)
  (ho:o.op=.call { callee:=.builtin .copy,args:=#[d,s],argTypes:=#[dT,sT] }) (elem:TypeId) (i:TypeInfo) (hu:P.underlying dT=some (.slice elem)) (hi:P.info? elem=some i)
  (g off dLen dCap:Nat) (ad:Addr) (sLen sCap n:Nat) (hd:a.eval d=.slice (some ⟨g,off,none⟩) dLen dCap) (hs:a.eval s=.slice (some ad) sLen sCap)
  (cur:List Value) (t:TypeId) (hg:w.heap[g]?=some (.cells cur.toArray t (0,0))) (cs:List Value) (hn:n=Nat.min sLen dLen) (hl:cs.length=n*i.size)
  (hsrc:∀ j v,cs[j]?=some v→w.cell? (ad.add j)=some v) (hfit:off+cs.length≤cur.length) (h1:∀ v ∈ cs,v.oneCell' = true)
  (h:∀ w', w'.heap[g]?=some (.cells (cur.take off++cs++cur.drop (off+cs.length)).toArray t (0,0))→(∀ B w0,Below B w0 w→B≤g→Below B w0 w')→wpList P ops Q rest (a.put o.dst (goInt n)) w'):wpList P ops Q (o :: rest) a w:=by
 refine wpList_plain hgd fun K hK=>?_
 have hrun:=zeo (P:=P) w dT sT o.type elem i g off dLen dCap ad sLen sCap n cur.toArray t cs hu hi hg hn hl hsrc (by simpa using hfit) h1
 unfold Oper.wp
 simp[execOp,ho,resolve,invoke,builtin,hd,hs,hrun,Result.andThen]
 refine hK _ _ (h _ ?_ (fun B w0 hb hB=>below_setRow hb hB _))
 have:=setRow_heap w g cur.toArray ((cur.toArray.toList.take off++cs++cur.toArray.toList.drop (off+cs.length)).toArray) t _ hg
 simpa using this
theorem zfQ{P:Program}{ops:Array Oper}{o:Oper}{a:Act}{w:World}{K:Act→World→Prop}{Q:Exit→Act→World→Prop}{E:Prop}(hgd:o.guard=none)(d s:Operand)(dT sT:TypeId)
  (ho:o.op=.call { callee:=.builtin .copy,args:=#[d,s],argTypes:=#[dT,sT] }) (elem:TypeId) (i:TypeInfo) (hu:P.underlying dT=some (.slice elem)) (hi:P.info? elem=some i)
  (g off dLen dCap:Nat) (ad:Addr) (sLen sCap n:Nat) (hd:a.eval d=.slice (some ⟨g,off,none⟩) dLen dCap) (hs:a.eval s=.slice (some ad) sLen sCap)
  (cur:List Value) (t:TypeId) (hg:w.heap[g]?=some (.cells cur.toArray t (0,0))) (cs:List Value) (hn:n=Nat.min sLen dLen) (hl:cs.length=n*i.size)
  (hsrc:∀ j v,cs[j]?=some v→w.cell? (ad.add j)=some v) (hfit:off+cs.length≤cur.length) (h1:∀ v ∈ cs,v.oneCell' = true)
  (h:∀ w', w'.heap[g]?=some (.cells (cur.take off++cs++cur.drop (off+cs.length)).toArray t (0,0))→(∀ B w0,Below B w0 w→B≤g→Below B w0 w')→K (a.put o.dst (goInt n)) w') :
  if Region.wanted o (yielded ops a.tmps)=true then Oper.wp P o a w K Q else E:=by
 have hw:Region.wanted o (yielded ops a.tmps)=true:=by simp[Region.wanted,hgd]
 rw[if_pos hw]
 have hrun:=zeo (P:=P) w dT sT o.type elem i g off dLen dCap ad sLen sCap n cur.toArray t cs hu hi hg hn hl hsrc (by simpa using hfit) h1
 unfold Oper.wp
 simp[execOp,ho,resolve,invoke,builtin,hd,hs,hrun,Result.andThen]
 refine h _ ?_ (fun B w0 hb hB=>below_setRow hb hB _)
 have:=setRow_heap w g cur.toArray ((cur.toArray.toList.take off++cs++cur.toArray.toList.drop (off+cs.length)).toArray) t _ hg
 simpa using this
end Go.Proofs.YtojlkdekdbdpoaaGreat

namespace Go.Proofs.YtojlkdekdbdpoaaGreat
open Go.RowKit
def patV:Nat→Value
 | 0=>.bool false
 | 4=>.int .i64 (-1)
 | 5=>.slice none 0 0
 | 6=>.int .i64 (-1)
 | 7=>.bool false
 | _=>.int .i64 0
def Good(X:List Value)(j:Nat):Prop:=∀ m,m<j*8→X[m]?=some (patV (m % 8))
theorem zlP(m:Nat):(patV m).oneCell' = true:=by
 unfold patV
 split <;> rfl
theorem Good.copy{X:List Value}{j m:Nat}(h:Good X j)(hm:m≤j)(hl:(j+m)*8≤X.length):Good (X.take (j*8)++X.take (m*8)++X.drop (j*8+(X.take (m*8)).length)) (j+m):=by
 have l1:(X.take (j*8)).length=j*8:=by rw[List.length_take];omega
 have l2:(X.take (m*8)).length=m*8:=by rw[List.length_take];omega
 intro i hi
 rw[List.append_assoc]
 by_cases h1:i<j*8
 ·rw[List.getElem?_append_left (by rw[l1];exact h1),List.getElem?_take,if_pos h1]
  exact h i h1
 ·rw[List.getElem?_append_right (by rw[l1];omega),l1,List.getElem?_append_left (by rw[l2];omega),List.getElem?_take,if_pos (by omega),h _ (by omega)]
  congr 2
  omega
theorem Good.one{X Y:List Value}(hY:Good Y 1)(hl:Y.length=8):Good (X.take 0++Y++X.drop (0+Y.length)) 1:=by
 intro i hi
 rw[List.append_assoc,List.take_zero,List.nil_append,List.getElem?_append_left (by omega)]
 exact hY i hi
theorem zod{w:World}{g n:Nat}{X:List Value}(hg:w.heap[g]?=some (.cells X.toArray 44 (0,0)))(hG:Good X n):NdsAt w (some ⟨g,0,none⟩) (List.replicate n zaM):=fun i hi=>by
 have hi' : i<n:=by simpa using hi
 have e:nd (List.replicate n zaM) i=zaM:=by unfold nd;simp[List.getD,hi']
 refine⟨g,0,rfl,?_⟩
 rw[e,Nat.zero_add]
 have hc:∀ j,j<8→w.cell? ⟨g,i*8+j,none⟩=some (patV j):=fun j hj=>by
  have:=hG (i*8+j) (by omega)
  rw[show (i*8+j) % 8=j by omega] at this
  simp only[World.cell?,hg]
  simpa using this
 exact⟨hc 0 (by omega),hc 1 (by omega),hc 2 (by omega),hc 3 (by omega),hc 4 (by omega),⟨none,0,hc 5 (by omega),fun j hj=>absurd hj (Nat.not_lt_zero _)⟩,hc 6 (by omega),hc 7 (by omega)⟩
end Go.Proofs.YtojlkdekdbdpoaaGreat

namespace Go.Proofs.YtojlkdekdbdpoaaGreat
set_option maxRecDepth 100000
set_option maxHeartbeats 4000000
open Go.RowKit
theorem mul_one(n:Nat)(hn:n≤24)(w:World) :
  Calls Tryz.prog 27 #[.int .u64 1,.int .u64 n] w fun e w' => e=.returned (.tuple #[.int .u64 0,.int .u64 n])∧w' = w:=by
 have h:n=0∨n=1∨n=2∨n=3∨n=4∨n=5∨n=6∨n=7∨n=8∨n=9∨n=10∨n=11∨n=12∨n=13∨n=14∨n=15∨n=16∨n=17∨n=18∨n=19∨n=20∨n=21∨n=22∨n=23∨n=24:=by omega
 rcases h with rfl|rfl|rfl|rfl|rfl|rfl|rfl|rfl|rfl|rfl|rfl|rfl|rfl|rfl|rfl|rfl|rfl|rfl|rfl|rfl|rfl|rfl|rfl|rfl|rfl
 all_goals
  go_enter Tryz.func27,Tryz.ntmps27
  go_wp2
  refine bodyPost_ret ?_ rfl ⟨rfl,rfl⟩
  simp[results,Tryz.results27,go_sem]
  kernel_rfl
end Go.Proofs.YtojlkdekdbdpoaaGreat

namespace Go.Proofs.YtojlkdekdbdpoaaGreat
set_option maxRecDepth 100000
set_option maxHeartbeats 4000000
open Go.RowKit
def patL(k:Nat):List Value:=(List.range (k*8)).map fun j=>patV (j % 8)
theorem zem(k:Nat):(patL k).length=k*8:=by simp[patL]
theorem zic(k:Nat):Good (patL k) k:=fun m hm=>by
 unfold patL
 rw[List.getElem?_map,List.getElem?_range hm]
 rfl
theorem zkN(g n j:Nat)(hj:j<n):∀ W,(Instr.slice 22 (.slice (some ⟨g,0,none⟩) n n) (some (.int .i64 (j:Int))) none none).run Tryz.prog W=.ok (.slice (some ⟨g,j*8,none⟩) (n-j) (n-j)) W:=fun W=>by
 have h1:¬ ((n:Int)=(j:Int)):=by omega
 have h2:(j:Int)≤(n:Int):=by omega
 have h3:(0:Int)≤(j:Int):=by omega
 go_simp
 try omega
theorem zlf(g n j:Nat)(hj:j<n):∀ W,(Instr.slice 22 (.slice (some ⟨g,0,none⟩) n n) none (some (.int .i64 (j:Int))) none).run Tryz.prog W=.ok (.slice (some ⟨g,0,none⟩) j n) W:=fun W=>by
 have h1:¬ ((n:Int)=(j:Int)):=by omega
 have h2:(j:Int)≤(n:Int):=by omega
 have h3:(0:Int)≤(j:Int):=by omega
 go_simp
 try omega
theorem znQ{W:World}{g:Nat}{X:List Value}(h:W.heap[g]?=some (.cells X.toArray 44 (0,0)))(k:Nat):∀ j v,(X.take k)[j]?=some v→W.cell? ((⟨g,0,none⟩:Addr).add j)=some v:=fun j v hj=>by
 rw[Addr.add_lit,Nat.zero_add]
 rw[List.getElem?_take] at hj
 split at hj
 ·simp only[World.cell?,h]
  simpa using hj
 ·cases hj
theorem zom{X:List Value}{j m n:Nat}(h:Good X j)(hm:m≤j)(hl:X.length=n*8)(hj:j≤n):∀ v ∈ X.take (m*8),v.oneCell' = true:=fun v hv=>by
 obtain⟨i,hi,e⟩:=List.getElem_of_mem hv
 rw[List.length_take] at hi
 have h2:=h i (by omega)
 rw[List.getElem_take] at e
 rw[List.getElem?_eq_getElem (by omega),e] at h2
 cases h2
 exact zlP _
theorem zlk(n xb xc:Nat)(hn:n≤24)(w:World)(hx:∀ m,m<8→w.cell? ⟨xb,m,none⟩=some (patV m)) :
  Calls Tryz.prog 11 #[.slice (some ⟨xb,0,none⟩) 1 xc,.int .i64 n] w fun e w' => ∃ g,e=.returned (.slice (some ⟨g,0,none⟩) n n)∧Below w.heap.size w w' ∧ NdsAt w' (some ⟨g,0,none⟩) (List.replicate n zaM):=by
 have HX:Hid _:=hx
 clear hx
 obtain⟨i0,hi0,hz0,hz1,hz2⟩:=info_parts zmq
 have hn2:(n:Int)≤24:=by omega
 have MK:=zfB n hn
 obtain⟨m0,hm0⟩:∃ m0,m0=Nat.min 1 n:=⟨_,rfl⟩
 have hm1:m0≤n∧m0≤1∧(0<n→m0=1):=by
  have:Nat.min 1 n=min 1 n:=rfl
  omega
 obtain⟨hma,hmb,hmc⟩:=hm1
 have HM0:Hid (m0=Nat.min 1 n):=hm0
 clear hm0
 go_enter Tryz.func11,Tryz.ntmps11
 go_wp2_with (first
  |(go_at_call 27;refine(mul_one n hn _).mono ?_;rintro e w1 ⟨rfl,rfl⟩)
  |(refine zdr rfl (.tmp 31) (.tmp 32) 22 22 rfl 44 i0 Tryz.underlying22 hi0 w1.heap.size 0 n n ⟨xb,0,none⟩ 1 xc m0 ?hd ?hs (madeCells zed (n*8)).toList 44 ?hg (patL m0) HM0.out ?hl ?hsrc ?hfit ?h1 ?_))
 case hd=>rfl
 case hs=>rfl
 case hg=>have:=heap_alloc_new w1 (.cells (madeCells zed (n*8)) 44);simpa using this
 case hl=>rw[zem,hz1]
 case hsrc =>
  intro j v hj
  have hlt:j<m0*8:=by
   have:=(List.getElem?_eq_some_iff.1 hj).1
   rw[zem] at this
   exact this
  rw[zic m0 j hlt] at hj
  cases hj
  rw[Addr.add_lit,show j % 8=j by omega,Nat.zero_add]
  exact((Below.refl _ _).alloc (Nat.le_refl _) _).cell (World.block_lt_of_cell? _ _ (HX.out j (by omega))) |>.trans (HX.out j (by omega))
 case hfit=>rw[zem];simp[size_madeCells];omega
 case h1 =>
  intro v hv
  unfold patL at hv
  obtain⟨j,_,rfl⟩:=List.mem_map.1 hv
  exact zlP _
 intro w2 hg2 hb2
 have G2:Hid (∃ X:List Value,w2.heap[w1.heap.size]?=some (.cells X.toArray 44 (0,0))∧X.length=n*8∧Good X m0):=by
  refine⟨_,hg2,?_,fun m hm=>?_⟩
  ·simp[zem,size_madeCells]
   omega
  ·rw[List.getElem?_append_left (by rw[zem];exact hm)]
   exact zic m0 m hm
 have HB2:Hid (Below w1.heap.size w1 w2):=hb2 _ _ ((Below.refl _ _).alloc (Nat.le_refl _) _) (Nat.le_refl _)
 clear hg2 hb2 MK
 go_wp2
 go_loopg [8] n (fun gg s8 wr=>∃ j:Nat,j≤n∧(0<n→1≤j)∧n-j≤gg∧s8=.int .i64 j∧Hid (Below w1.heap.size w1 wr)∧Hid (∃ X:List Value,wr.heap[w1.heap.size]?=some (.cells X.toArray 44 (0,0))∧X.length=n*8∧Good X j))
 case atStart=>exact⟨m0,hma,fun h=>by rw[hmc h];exact Nat.le_refl _,by omega,rfl,HB2,G2⟩
 case round =>
  clear HB2 G2
  obtain⟨j,hj,hj1,hgg,rfl,HB,G⟩:=hrel
  by_cases hjn:j<n
  ·have hjn2:(j:Int)<(n:Int):=by omega
   have hj2:(0:Int)≤(j:Int):=by omega
   obtain⟨X,hX,hXl,hXG⟩:=G.out
   obtain⟨m,hm⟩:∃ m,m=Nat.min j (n-j):=⟨_,rfl⟩
   have hm1:m≤j∧m≤n-j∧0<m:=by
    have:Nat.min j (n-j)=min j (n-j):=rfl
    have:=hj1 (by omega)
    omega
   obtain⟨hma', hmb', hmc'⟩:=hm1
   have HM:Hid (m=Nat.min j (n-j)):=hm
   have HX2:Hid _:=hX
   have HG:Hid _:=hXG
   clear hm G hX hXG
   have SF:=zkN w1.heap.size n j hjn
   have SU:=zlf w1.heap.size n j hjn
   go_wp2_with fail
   have L1:(X.take (m*8)).length=m*i0.size:=by rw[List.length_take,hz1,hXl];omega
   have L2:j*8+(X.take (m*8)).length≤X.length:=by rw[List.length_take,hXl];omega
   have L3:Hid _:=zom HG.out hma' hXl hj
   have L4:Hid (∀ i v,(X.take (m*8))[i]?=some v→wr.cell? ((⟨w1.heap.size,0,none⟩:Addr).add i)=some v):=znQ HX2.out _
   have L5:Hid (m*8≤X.length):=(by rw[hXl];omega:m*8≤X.length)
   generalize hY:X.take (m*8)=Y at *
   have HY:Hid _:=hY
   clear hY
   have hjm:IntKind.i64.wrap ((j:Int)+(m:Int))=(j:Int)+(m:Int):=by
    rw[IntKind.wrap_i64]
    omega
   go_region_law (refine zfQ rfl (.tmp 41) (.tmp 44) 22 22 rfl 44 i0 Tryz.underlying22 hi0 w1.heap.size (j*8) (n-j) (n-j) ⟨w1.heap.size,0,none⟩ j n m (by go_simp) (by go_simp) X 44 HX2.out Y HM.out L1 L4.out L2 L3.out ?_;intro w4 hg4 hb4;have HG4:Hid _:=hg4;have HB4:Hid (Below w1.heap.size w1 w4):=hb4 _ _ HB.out.drew (Nat.le_refl _);clear hg4 hb4)
   go_wp2
   go_roundg (n-(j+m))
   case measure=>omega
   case rel =>
    refine⟨j+m,by omega,fun _=>by omega,by omega,?_,HB4,(show Hid _ from ⟨_,HG4.out,?_,?_⟩)⟩
    ·first|go_num|(simp;done)
    ·have h5:=L5.out
     have h6:=HY.out
     subst h6
     simp only[List.length_append,List.length_take,List.length_drop]
     omega
    ·have h6:=HY.out
     subst h6
     exact Good.copy HG.out hma' (by rw[hXl];omega)
  ·have:j=n:=by omega
   subst this
   obtain⟨X,hX,hXl,hXG⟩:=G.out
   have FIN:Hid (NdsAt wr (some ⟨w1.heap.size,0,none⟩) (List.replicate j zaM)):=zod hX hXG
   clear G hX hXG
   go_wp2
   go_ret
   exact⟨_,rfl,HB.out,FIN.out⟩
end Go.Proofs.YtojlkdekdbdpoaaGreat
