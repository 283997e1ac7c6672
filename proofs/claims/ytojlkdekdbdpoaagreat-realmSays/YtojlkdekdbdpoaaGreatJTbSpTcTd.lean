/-
  x
-/
import Derived.Test.YtojlkdekdbdpoaaGreatJSkSlSmBkTa
namespace Go.Proofs.YtojlkdekdbdpoaaGreat
open Go.RowKit
def NdR(w:World)(F:Nat→Value)(o:Nat)(x:Nd)(kb kc:Nat):Prop :=
 F o=.bool x.u∧F (o+1)=.int .i64 x.n∧F (o+2)=.int .i64 x.t∧F (o+3)=.int .i64 x.m∧F (o+4)=.int .i64 x.p∧F (o+5)=.slice (some ⟨kb,0,none⟩) x.ks.length kc∧F (o+6)=.int .i64 x.h∧F (o+7)=.bool x.c ∧
 x.ks.length≤kc∧kc≤1000∧∃ G,w.rowIs kb 3 kc G∧∀ j,j<x.ks.length→G j=.int .i64 (x.ks.getD j 0)
def Own(w:World)(B g:Nat)(S:List Nd)(kb kc:Nat→Nat)(k:Nat):Prop :=
 B≤g∧∃ F,w.rowIs g 44 (S.length*8) F∧(∀ i,i<k→NdR w F (i*8) (nd S i) (kb i) (kc i))∧(∀ i,i<k→g<kb i)∧(∀ i,i<k→∀ j,j<k→kb i=kb j→i=j)
theorem NdR.below{w w' : World}{F:Nat→Value}{o:Nat}{x:Nd}{kb kc B:Nat}(h:NdR w F o x kb kc)(hb:Below B w w')(hB:kb<B):NdR w' F o x kb kc:=by
 obtain⟨e0,e1,e2,e3,e4,e5,e6,e7,e8,e8b,G,hG,e9⟩:=h
 exact⟨e0,e1,e2,e3,e4,e5,e6,e7,e8,e8b,G,hG.of_block (hb.block kb hB),e9⟩
theorem NdR.row{w:World}{F:Nat→Value}{o:Nat}{x:Nd}{kb kc:Nat}(h:NdR w F o x kb kc):kb<w.heap.size:=by
 obtain⟨_,_,_,_,_,_,_,_,_,_,G,hG,_⟩:=h
 exact hG.lt
theorem Own.nds{w:World}{B g:Nat}{S:List Nd}{kb kc:Nat→Nat}(h:Own w B g S kb kc S.length):NdsAt w (some ⟨g,0,none⟩) S:=fun i hi=>by
 obtain⟨_,F,hF,hN,_,_⟩:=h
 obtain⟨e0,e1,e2,e3,e4,e5,e6,e7,e8,e8b,G,hG,e9⟩:=hN i hi
 refine⟨g,0,rfl,?_⟩
 rw[Nat.zero_add]
 refine⟨?_,?_,?_,?_,?_,⟨some ⟨kb i,0,none⟩,kc i,?_,fun j hj=>⟨kb i,0,rfl,?_⟩⟩,?_,?_⟩
 ·rw[hF.cell (by omega),e0]
 ·rw[hF.cell (by omega),e1]
 ·rw[hF.cell (by omega),e2]
 ·rw[hF.cell (by omega),e3]
 ·rw[hF.cell (by omega),e4]
 ·rw[hF.cell (by omega),e5]
 ·rw[Nat.zero_add,hG.cell (by omega),e9 j hj]
 ·rw[hF.cell (by omega),e6]
 ·rw[hF.cell (by omega),e7]
def put8(F:Nat→Value)(o:Nat)(v0 v1 v2 v3 v4 v5 v6 v7:Value):Nat→Value:=fun j =>
 if j=o+7 then v7 else if j=o+6 then v6 else if j=o+5 then v5 else if j=o+4 then v4 else if j=o+3 then v3 else if j=o+2 then v2 else if j=o+1 then v1 else if j=o then v0 else F j
theorem zgN{w:World}{g t n:Nat}{F:Nat→Value}(h:w.rowIs g t n F)(o:Nat)(v0 v1 v2 v3 v4 v5 v6 v7:Value) :
  ((((((((w.setCell ⟨g,o,none⟩ v0).setCell ⟨g,o+1,none⟩ v1).setCell ⟨g,o+2,none⟩ v2).setCell ⟨g,o+3,none⟩ v3).setCell ⟨g,o+4,none⟩ v4).setCell ⟨g,o+5,none⟩ v5).setCell ⟨g,o+6,none⟩ v6).setCell ⟨g,o+7,none⟩ v7).rowIs g t n (put8 F o v0 v1 v2 v3 v4 v5 v6 v7) :=
 (((((((h.set _ _).set _ _).set _ _).set _ _).set _ _).set _ _).set _ _).set _ _
theorem put8_other{F:Nat→Value}{o j:Nat}{v0 v1 v2 v3 v4 v5 v6 v7:Value}(h:j<o∨o+8≤j):put8 F o v0 v1 v2 v3 v4 v5 v6 v7 j=F j:=by
 unfold put8
 rw[if_neg (by omega),if_neg (by omega),if_neg (by omega),if_neg (by omega),if_neg (by omega),if_neg (by omega),if_neg (by omega),if_neg (by omega)]
theorem NdR.put8_other{w:World}{F:Nat→Value}{o o' : Nat}{x:Nd}{kb kc:Nat}{v0 v1 v2 v3 v4 v5 v6 v7:Value}(h:NdR w F o x kb kc)(ho:o+8≤o' ∨ o' + 8≤o):NdR w (put8 F o' v0 v1 v2 v3 v4 v5 v6 v7) o x kb kc:=by
 obtain⟨e0,e1,e2,e3,e4,e5,e6,e7,e8,e8b,G,hG,e9⟩:=h
 refine⟨?_,?_,?_,?_,?_,?_,?_,?_,e8,e8b,G,hG,e9⟩
 all_goals
  rw[YtojlkdekdbdpoaaGreat.put8_other (by omega)]
  assumption
theorem NdR.put8_here{w:World}{F:Nat→Value}{o:Nat}{x:Nd}{kb kc:Nat}{G:Nat→Value}(hG:w.rowIs kb 3 kc G)(hl:x.ks.length≤kc)(hl2:kc≤1000)(hg:∀ j,j<x.ks.length→G j=.int .i64 (x.ks.getD j 0)) :
  NdR w (put8 F o (.bool x.u) (.int .i64 x.n) (.int .i64 x.t) (.int .i64 x.m) (.int .i64 x.p) (.slice (some ⟨kb,0,none⟩) x.ks.length kc) (.int .i64 x.h) (.bool x.c)) o x kb kc:=by
 refine⟨?_,?_,?_,?_,?_,?_,?_,?_,hl,hl2,G,hG,hg⟩
 all_goals unfold put8
 ·rw[if_neg (by omega),if_neg (by omega),if_neg (by omega),if_neg (by omega),if_neg (by omega),if_neg (by omega),if_neg (by omega),if_pos rfl]
 ·rw[if_neg (by omega),if_neg (by omega),if_neg (by omega),if_neg (by omega),if_neg (by omega),if_neg (by omega),if_pos rfl]
 ·rw[if_neg (by omega),if_neg (by omega),if_neg (by omega),if_neg (by omega),if_neg (by omega),if_pos rfl]
 ·rw[if_neg (by omega),if_neg (by omega),if_neg (by omega),if_neg (by omega),if_pos rfl]
 ·rw[if_neg (by omega),if_neg (by omega),if_neg (by omega),if_pos rfl]
 ·rw[if_neg (by omega),if_neg (by omega),if_pos rfl]
 ·rw[if_neg (by omega),if_pos rfl]
 ·rw[if_pos rfl]
def zed:Array Value:=#[.bool false,.int .i64 0,.int .i64 0,.int .i64 0,.int .i64 0,.slice none 0 0,.int .i64 0,.bool false]
theorem zmq:(Tryz.prog.info? 44).map (fun i=>(i.zero,i.size,i.bytes))=some (some (.agg #[.bool false,.int .i64 0,.int .i64 0,.int .i64 0,.int .i64 0,.slice none 0 0,.int .i64 0,.bool false]),8,80):=by kernel_rfl
theorem zfB(n:Nat)(hn:n≤24)(w:World):(Instr.makeSlice 22 (.int .i64 (n:Int)) (.int .i64 (n:Int))).run Tryz.prog w=.ok (.slice (some ⟨w.heap.size,0,none⟩) n n) (w.alloc (.cells (madeCells zed (n*8)) 44)):=by
 obtain⟨i,hi,hz0,hz1,hz2⟩:=info_parts zmq
 have h:=run_make (P:=Tryz.prog) w 22 44 i _ Tryz.underlying22 hi hz0 .i64 .i64 n n (by omega) (by omega) (by rw[hz2];omega) (by omega)
 rw[hz1] at h
 simp only[Int.toNat_natCast] at h
 exact h
theorem zep(w:World)(n:Nat):(w.alloc (.cells (madeCells zed (n*8)) 44)).rowIs w.heap.size 44 (n*8) (fun j=>zed[j % 8]!):=by
 have h:=World.rowIs_alloc w (madeCells zed (n*8)) 44 (fun j=>zed[j % 8]!) (fun i hi=>by rw[size_madeCells] at hi;simp[madeCells,hi,zed])
 rw[size_madeCells] at h
 exact h
end Go.Proofs.YtojlkdekdbdpoaaGreat

namespace Go.Proofs.YtojlkdekdbdpoaaGreat
set_option maxRecDepth 100000
set_option maxHeartbeats 4000000
open Go.RowKit
def idx(ks:List Int)(v:Int):Int:=if v ∈ ks then (ks.idxOf v:Int) else -1
theorem zoo{ks:List Int}{v:Int}(h:∀ i,i<ks.length→ks.getD i 0≠v):idx ks v = -1∧v ∉ ks:=by
 have hn:v ∉ ks:=fun hm=>by
  obtain⟨i,hi,e⟩:=List.getElem_of_mem hm
  exact h i hi (by rw[zad ks 0 hi];exact e)
 exact⟨if_neg hn,hn⟩
theorem zft:∀ (ks:List Int) (v:Int) (k:Nat),k<ks.length→ks.getD k 0=v→(∀ i,i<k→ks.getD i 0≠v)→ks.idxOf v=k
 | [],_,_,h,_,_=>by simp at h
 | x :: r,v,0,_,h,_=>by
  have:x=v:=by simpa using h
  rw[this];simp
 | x :: r,v,k+1,hk,h,hf=>by
  have hx:x≠v:=by simpa using hf 0 (by omega)
  have:=zft r v k (by simpa using hk) (by simpa using h) (fun i hi=>by simpa using hf (i+1) (by omega))
  have hx1:(x == v)=false:=beq_eq_false_iff_ne.2 hx
  rw[List.idxOf_cons,this,hx1]
  rfl
theorem zon{ks:List Int}{v:Int}{k:Nat}(hk:k<ks.length)(h:ks.getD k 0=v)(hf:∀ i,i<k→ks.getD i 0≠v):idx ks v=k∧v ∈ ks:=by
 have hm:v ∈ ks:=by rw[← h,zad ks 0 hk];exact List.getElem_mem hk
 exact⟨by unfold idx;rw[if_pos hm,zft ks v k hk h hf],hm⟩
theorem zhw(a:Option Addr)(c:Nat)(ks:List Int)(v:Int)(w:World)(hbig:ks.length≤9223372036854775807)(hks:zah w a ks) :
  Calls Tryz.prog 108 #[.slice a ks.length c,.int .i64 v] w fun e w' => e=.returned (.int .i64 (idx ks v))∧w' = w:=by
 have N:Hid ((∀ i,i<ks.length→ks.getD i 0≠v)→idx ks v = -1):=fun h=>(zoo h).1
 have Sm:Hid (∀ k,k<ks.length→ks.getD k 0=v→(∀ i,i<k→ks.getD i 0≠v)→idx ks v=k):=fun k h1 h2 h3=>(zon h1 h2 h3).1
 generalize idx ks v=r at *
 generalize hn:ks.length=n at *
 have HN:Hid (ks.length=n):=hn
 clear hn
 go_enter Tryz.func108,Tryz.ntmps108
 go_wp2
 go_loopg [8] n (fun g s8 wr=>∃ k:Nat,k≤n∧n-k≤g∧s8=.int .i64 k∧wr=w∧Hid (∀ i,i<k→ks.getD i 0≠v))
 case atStart=>exact⟨0,by omega,by omega,rfl,rfl,fun i hi=>by omega⟩
 case round =>
  obtain⟨k,hk,hg,rfl,rfl,A⟩:=hrel
  by_cases hlt:k<n
  ·obtain⟨b,o,rfl,hc⟩:=hks k (by rw[HN.out];exact hlt)
   clear hks
   by_cases he:v=ks.getD k 0
   ·have Z:=Sm.out k hlt he.symm A.out
    subst Z
    rw[← he] at hc
    clear he
    go_wp2
    go_ret
    exact⟨rfl,rfl⟩
   ·have HE:Hid (ks.getD k 0≠v):=fun e=>he e.symm
    have h1:(v == ks.getD k 0)=false:=beq_eq_false_iff_ne.2 he
    generalize hy:ks.getD k 0=y at *
    have HY:Hid _:=hy
    clear hy
    go_wp2
    go_roundg (n-(k+1))
    case measure=>omega
    case rel =>
     refine⟨k+1,by omega,by omega,by go_num,rfl,(show Hid _ from fun i hi=>?_)⟩
     by_cases e:i=k
     ·rw[e,HY.out];exact HE.out
     ·exact A.out i (by omega)
  ·have:k=n:=by omega
   subst this
   have Z:=N.out A.out
   subst Z
   clear hks
   go_wp2
   go_ret
   exact⟨rfl,rfl⟩
theorem zkI(ks:List Int)(v:Int):decide (0≤idx ks v)=decide (v ∈ ks):=by
 unfold idx
 by_cases h:v ∈ ks
 ·rw[if_pos h,decide_eq_true h,decide_eq_true (by omega)]
 ·rw[if_neg h,decide_eq_false h,decide_eq_false (by omega)]
theorem zdy(a:Option Addr)(c:Nat)(ks:List Int)(v:Int)(w:World)(hbig:ks.length≤9223372036854775807)(hks:zah w a ks) :
  Calls Tryz.prog 83 #[.slice a ks.length c,.int .i64 v] w fun e w' => e=.returned (.bool (decide (v ∈ ks)))∧w' = w:=by
 have h:=zhw a c ks v w hbig hks
 rw[← zkI]
 clear hks
 generalize idx ks v=r at *
 generalize ks.length=n at *
 go_enter Tryz.func83,Tryz.ntmps83
 go_wp2_with (go_at_call 108;refine h.mono ?_;rintro e w' ⟨rfl,rfl⟩)
 go_ret
 exact⟨rfl,rfl⟩
theorem zah.take{w:World}{a:Option Addr}{ks:List Int}(h:zah w a ks)(k:Nat):zah w a (ks.take k):=fun i hi=>by
 rw[List.length_take] at hi
 obtain⟨b,o,e,hc⟩:=h i (by omega)
 refine⟨b,o,e,?_⟩
 rw[hc,zad ks 0 (by omega),zad (ks.take k) 0 (by rw[List.length_take];omega),List.getElem_take]
theorem zaq(w:World)(o1 o2:Obj):Below w.heap.size w ((w.alloc o1).alloc o2):=((Below.refl _ _).alloc (Nat.le_refl _) _).alloc (by simp) _
end Go.Proofs.YtojlkdekdbdpoaaGreat

namespace Go.Proofs.YtojlkdekdbdpoaaGreat
set_option maxRecDepth 100000
set_option maxHeartbeats 4000000
open Go.RowKit
theorem Own.step{wr w3:World}{B g k:Nat}{S:List Nd}{kb kc:Nat→Nat}(h:Own wr B g S kb kc k)(hk:k<S.length)(hks:(nd S k).ks.length≤1000)(hb:Below wr.heap.size wr w3){kg:Nat}(hkg:wr.heap.size≤kg)(hrow:w3.rowIs kg 3 (nd S k).ks.length (fun j=>.int .i64 ((nd S k).ks.getD j 0))) :
  Own ((((((((w3.setCell ⟨g,k*8,none⟩ (.bool (nd S k).u)).setCell ⟨g,k*8+1,none⟩ (.int .i64 (nd S k).n)).setCell ⟨g,k*8+2,none⟩ (.int .i64 (nd S k).t)).setCell ⟨g,k*8+3,none⟩ (.int .i64 (nd S k).m)).setCell ⟨g,k*8+4,none⟩ (.int .i64 (nd S k).p)).setCell ⟨g,k*8+5,none⟩ (.slice (some ⟨kg,0,none⟩) (nd S k).ks.length (nd S k).ks.length)).setCell ⟨g,k*8+6,none⟩ (.int .i64 (nd S k).h)).setCell ⟨g,k*8+7,none⟩ (.bool (nd S k).c))
   B g S (fun i=>if i=k then kg else kb i) (fun i=>if i=k then (nd S k).ks.length else kc i) (k+1):=by
 obtain⟨hB,F,hF,hN,hg,hd⟩:=h
 have hglt:=hF.lt
 have hF3:=hF.of_block (hb.block g hglt)
 have hwb:∀ w' : World,Below (g+1) w' w' := fun w' => Below.refl _ _
 have hoff:∀ (b:Nat),b≠g→((((((((w3.setCell ⟨g,k*8,none⟩ (.bool (nd S k).u)).setCell ⟨g,k*8+1,none⟩ (.int .i64 (nd S k).n)).setCell ⟨g,k*8+2,none⟩ (.int .i64 (nd S k).t)).setCell ⟨g,k*8+3,none⟩ (.int .i64 (nd S k).m)).setCell ⟨g,k*8+4,none⟩ (.int .i64 (nd S k).p)).setCell ⟨g,k*8+5,none⟩ (.slice (some ⟨kg,0,none⟩) (nd S k).ks.length (nd S k).ks.length)).setCell ⟨g,k*8+6,none⟩ (.int .i64 (nd S k).h)).setCell ⟨g,k*8+7,none⟩ (.bool (nd S k).c)).heap[b]?=w3.heap[b]?:=fun b hb=>by
  repeat rw[Below.heap_setCell _ _ _ _ (by exact hb)]
 refine⟨hB,_,zgN hF3 (k*8) _ _ _ _ _ _ _ _,fun i hi=>?_,fun i hi=>?_,fun i hi j hj e=>?_⟩
 ·dsimp only
  by_cases e:i=k
  ·subst e
   rw[if_pos rfl,if_pos rfl]
   exact NdR.put8_here (hrow.of_block (hoff kg (by omega))) (Nat.le_refl _) hks (fun _ _=>rfl)
  ·rw[if_neg e,if_neg e]
   have hi' : i<k:=by omega
   have h1:=(hN i hi').below hb (hN i hi').row
   refine NdR.put8_other ?_ (by omega)
   obtain⟨e0,e1,e2,e3,e4,e5,e6,e7,e8,e8b,G,hG,e9⟩:=h1
   exact⟨e0,e1,e2,e3,e4,e5,e6,e7,e8,e8b,G,hG.of_block (hoff (kb i) (by have:=hg i hi'; omega)),e9⟩
 ·dsimp only
  by_cases e:i=k
  ·rw[if_pos e];omega
  ·rw[if_neg e];exact hg i (by omega)
 ·dsimp only at e
  by_cases e1:i=k
  ·by_cases e2:j=k
   ·omega
   ·rw[if_pos e1,if_neg e2] at e
    have:=(hN j (by omega)).row
    omega
  ·by_cases e2:j=k
   ·rw[if_neg e1,if_pos e2] at e
    have:=(hN i (by omega)).row
    omega
   ·rw[if_neg e1,if_neg e2] at e
    exact hd i (by omega) j (by omega) e
theorem Own.below{w w' : World}{B g k:Nat}{S:List Nd}{kb kc:Nat→Nat}(h:Own w B g S kb kc k)(hb:Below w.heap.size w w'):Own w' B g S kb kc k:=by
 obtain⟨hB,F,hF,hN,hg,hd⟩:=h
 exact⟨hB,F,hF.of_block (hb.block g hF.lt),fun i hi=>(hN i hi).below hb (hN i hi).row,hg,hd⟩
theorem Own.setOther{w:World}{B g k:Nat}{S:List Nd}{kb kc:Nat→Nat}(h:Own w B g S kb kc k){a:Addr}(ha:a.block<g)(v:Value):Own (w.setCell a v) B g S kb kc k:=by
 obtain⟨hB,F,hF,hN,hg,hd⟩:=h
 refine⟨hB,F,hF.setOther (by omega) v,fun i hi=>?_,hg,hd⟩
 obtain⟨e0,e1,e2,e3,e4,e5,e6,e7,e8,e8b,G,hG,e9⟩:=hN i hi
 exact⟨e0,e1,e2,e3,e4,e5,e6,e7,e8,e8b,G,hG.setOther (by have:=hg i hi;omega) v,e9⟩
theorem copy_any(a:Option Addr)(c:Nat)(S:List Nd)(w:World)(hN:S.length≤24)(hK:∀ i,i<S.length→(nd S i).ks.length≤1000)(hS:NdsAt w a S) :
  Calls Tryz.prog 56 #[.agg #[.slice a S.length c]] w fun e w' => ∃ g kb kc,e=.returned (.agg #[.slice (some ⟨g,0,none⟩) S.length S.length])∧Below w.heap.size w w' ∧ Own w' w.heap.size g S kb kc S.length:=by
 have HS:Hid (NdsAt w a S):=hS
 have HK:Hid _:=hK
 have ST:Hid (∀ (wr w3:World) (g k kg:Nat) (kb kc:Nat→Nat),Own wr w.heap.size g S kb kc k→k<S.length→(nd S k).ks.length≤1000→Below wr.heap.size wr w3→wr.heap.size≤kg→w3.rowIs kg 3 (nd S k).ks.length (fun j=>.int .i64 ((nd S k).ks.getD j 0))→_):=fun wr w3 g k kg kb kc h1 h2 h2b h3 h4 h5=>Own.step h1 h2 h2b h3 h4 h5
 clear hS hK
 have ZR:Hid (∀ W:World,w.heap.size≤W.heap.size→Own (W.alloc (.cells (madeCells zed (S.length*8)) 44)) w.heap.size W.heap.size S (fun _=>0) (fun _=>0) 0):=fun W hW=>⟨hW,_,zep W S.length,fun i hi=>absurd hi (Nat.not_lt_zero _),fun i hi=>absurd hi (Nat.not_lt_zero _),fun i hi=>absurd hi (Nat.not_lt_zero _)⟩
 have OC:Hid (∀ (wr:World) (g k:Nat) (kb kc:Nat→Nat),Own wr w.heap.size g S kb kc k→k<S.length→(g<wr.heap.size∧(∀ o,wr.frozen? ⟨g,o,none⟩=false)∧∃ F:Nat→Value,∀ j,j<S.length*8→wr.cell? ⟨g,j,none⟩=some (F j))):=fun wr g k kb kc h _=>by
  obtain⟨_,F,hF,_⟩:=h
  exact⟨hF.lt,hF.frozen,F,fun j hj=>hF.cell hj⟩
 have NL:Hid (S.length=S.length):=rfl
 generalize hn:S.length=n at *
 have HN:Hid (S.length=n):=hn
 clear hn NL
 have hmk:=zfB n hN
 go_enter Tryz.func56,Tryz.ntmps56
 go_wp2
 go_loopg [13] n (fun g s13 wr=>∃ (k:Nat) (kb kc:Nat→Nat),k≤n∧n-k≤g∧s13=.int .i64 k∧Below (w.heap.size+1+1) ((w.alloc (Obj.cells #[Value.slice a n c] 24)).alloc (Obj.cells #[Value.slice none 0 0] 24)) wr∧Hid (Own wr w.heap.size (w.heap.size+1+1) S kb kc k))
 case atStart =>
  refine⟨0,fun _=>0,fun _=>0,by omega,by omega,rfl,(Below.refl _ _).alloc (by simp) _,?_⟩
  have:=ZR.out ((w.alloc (Obj.cells #[Value.slice a n c] 24)).alloc (Obj.cells #[Value.slice none 0 0] 24)) (by simp;omega)
  simp only[World.size_alloc] at this
  exact this
 case round =>
  obtain⟨k,kb,kc,hk,hg,rfl,hb,O⟩:=hrel
  have hB0:Below w.heap.size w wr:=(zaq _ _ _).trans (hb.mono (by omega))
  by_cases hlt:k<n
  ·obtain⟨b,o,rfl,hnd⟩:=HS.out k (by rw[HN.out];exact hlt)
   obtain⟨c0,c1,c2,c3,c4,⟨ka,kcx,c5,hks⟩,c6,c7⟩:=hnd.below hB0
   have hbw:=World.block_lt_of_cell? _ _ c0
   obtain⟨hgl,hfz,F,hF⟩:=OC.out _ _ _ _ _ O.out hlt
   have d1:=fun o1=>zfd (nd S k) ka kcx (wr.alloc o1) (Nat.le_trans (HK.out k hlt) (by omega)) (hks.below ((Below.refl _ _).alloc (Nat.le_refl _) o1))
   have ST2:Hid (∀ (w3:World) (kg:Nat),Below wr.heap.size wr w3→wr.heap.size≤kg→w3.rowIs kg 3 (nd S k).ks.length (fun j=>.int .i64 ((nd S k).ks.getD j 0))→_):=fun w3 kg h3 h4 h5=>ST.out wr w3 _ k kg kb kc O.out hlt (HK.out k hlt) h3 h4 h5
   clear hks hnd
   generalize hx:nd S k=x at *
   clear hx
   go_wp2_with (go_at_call 99;refine(d1 _).mono ?_;rintro e w3 ⟨kg,rfl,hb3,hkg,hrow⟩;simp only[World.size_alloc] at hb3 hkg;have hb3' : Below wr.heap.size wr w3:=((Below.refl _ _).alloc (Nat.le_refl _) _).trans (hb3.mono (by omega));have HR:Hid _:=hrow;have q0:=(hb3'.cell (by exact hgl)).trans (hF (k*8) (by omega));have q1:=(hb3'.cell (by exact hgl)).trans (hF (k*8+1) (by omega));have q2:=(hb3'.cell (by exact hgl)).trans (hF (k*8+2) (by omega));have q3:=(hb3'.cell (by exact hgl)).trans (hF (k*8+3) (by omega));have q4:=(hb3'.cell (by exact hgl)).trans (hF (k*8+4) (by omega));have q5:=(hb3'.cell (by exact hgl)).trans (hF (k*8+5) (by omega));have q6:=(hb3'.cell (by exact hgl)).trans (hF (k*8+6) (by omega));have q7:=(hb3'.cell (by exact hgl)).trans (hF (k*8+7) (by omega));have hfz3:=fun o=>(hb3'.frozen (by exact hgl)).trans (hfz o);clear hrow)
   go_roundg (n-(k+1))
   case measure=>omega
   case rel =>
    refine⟨k+1,_,_,by omega,by omega,by go_num,?_,ST2.out w3 kg hb3' (by omega) HR.out⟩
    have hb4:=hb.trans (hb3'.mono (by have:=hb.size;simp at this;omega))
    exact(((((((hb4.setCell (by simp) _).setCell (by simp) _).setCell (by simp) _).setCell (by simp) _).setCell (by simp) _).setCell (by simp) _).setCell (by simp) _).setCell (by simp) _
  ·have:k=n:=by omega
   subst this
   have y1:wr.cell? ⟨w.heap.size+1,0,none⟩=some (.slice none 0 0):=(hb.cell (by simp)).trans (by go_simp)
   have y2:∀ o,wr.frozen? ⟨w.heap.size+1,o,none⟩=false:=fun o=>(hb.frozen (by simp)).trans (by go_simp)
   go_wp2
   refine bodyPost_ret (v:=.agg #[.slice (some ⟨w.heap.size+1+1,0,none⟩) k k]) (by simp[results,Tryz.results56,go_sem,y1]) rfl ⟨w.heap.size+1+1,kb,kc,rfl,hB0.setCell (by simp) _,O.out.setOther (by simp) _⟩
end Go.Proofs.YtojlkdekdbdpoaaGreat

namespace Go.Proofs.YtojlkdekdbdpoaaGreat
set_option maxRecDepth 100000
set_option maxHeartbeats 4000000
open Go.RowKit
theorem zgw(x:Nd)(k:Value)(w:World) :
  Calls Tryz.prog 110 #[.agg #[.bool x.u,.int .i64 x.n,.int .i64 x.t,.int .i64 x.m,.int .i64 x.p,k,.int .i64 x.h,.bool x.c]] w fun e w' => e=.returned (.bool (!x.u && decide (x.n<1000000)))∧Below w.heap.size w w' := by
 obtain⟨u,n,t,m,p,ks,h,c⟩:=x
 dsimp only
 cases u
 ·by_cases hn:n<1000000
  ·have hd:(!false && decide (n<1000000))=true:=by simp[hn]
   rw[hd]
   clear hd
   go_enter Tryz.func110,Tryz.ntmps110
   go_wp2
   go_ret
   exact⟨rfl,(Below.refl _ _).alloc (Nat.le_refl _) _⟩
  ·have hd:(!false && decide (n<1000000))=false:=by simp[hn]
   rw[hd]
   clear hd
   go_enter Tryz.func110,Tryz.ntmps110
   go_wp2
   go_ret
   exact⟨rfl,(Below.refl _ _).alloc (Nat.le_refl _) _⟩
 ·go_enter Tryz.func110,Tryz.ntmps110
  go_wp2
  go_ret
  exact⟨rfl,(Below.refl _ _).alloc (Nat.le_refl _) _⟩
def freeB(x:Nd):Bool:=!x.u && decide (x.n<1000000)
theorem zhZ(a:Option Addr)(c:Nat)(S:List Nd)(w:World)(hn:S.length≤9223372036854775807)(hS:NdsAt w a S)(k:Nat)(hk:k<S.length)(hf:freeB (nd S k)=true)(hall:∀ i,i<k→freeB (nd S i)=false) :
  Calls Tryz.prog 109 #[.slice a S.length c,.func (.func 110) #[] #[]] w fun e w' => e=.returned (.int .i64 k)∧Below w.heap.size w w' := by
 have HS:Hid (NdsAt w a S):=hS
 have HA:Hid _:=hall
 have HFk:Hid _:=hf
 clear hS hall hf
 generalize hN:S.length=n at *
 have HN:Hid _:=hN
 clear hN
 go_enter Tryz.func109,Tryz.ntmps109
 go_wp2
 go_loopg [8] n (fun g s8 wr=>∃ i:Nat,i≤k∧n-i≤g∧s8=.int .i64 i∧Below w.heap.size w wr)
 case atStart=>exact⟨0,by omega,by omega,rfl,Below.refl _ _⟩
 case round =>
  obtain⟨i,hi,hg,rfl,hb⟩:=hrel
  have hlt:i<n:=by omega
  have hlt2:(i:Int)<(n:Int):=by omega
  obtain⟨b,o,rfl,c0,c1,c2,c3,c4,⟨ka,kc,c5,_⟩,c6,c7⟩:=(HS.out.below hb) i (by rw[HN.out];exact hlt)
  have d1:=fun v W=>zgw (nd S i) v W
  rw[show (!(nd S i).u && decide ((nd S i).n<1000000))=freeB (nd S i) from rfl] at d1
  by_cases e:i=k
  ·subst e
   rw[HFk.out] at d1
   generalize nd S i=x at *
   go_wp2_with (go_at_call 110;refine(d1 _ _).mono ?_;rintro e w' ⟨rfl,hb1⟩)
   go_ret
   exact⟨rfl,hb.trans (hb1.mono hb.size)⟩
  ·rw[HA.out i (by omega)] at d1
   generalize nd S i=x at *
   go_wp2_with (go_at_call 110;refine(d1 _ _).mono ?_;rintro e w' ⟨rfl,hb1⟩)
   go_roundg (n-(i+1))
   case measure=>omega
   case rel=>exact⟨i+1,by omega,by omega,by go_num,hb.trans (hb1.mono hb.size)⟩
def zaM:Nd:=⟨false,0,0,0,-1,[],-1,false⟩
theorem zff(n i:Nat)(x:Nd)(h:i<n):nd (List.replicate n x) i=x:=by
 rw[zaF (by simpa using h)];simp
theorem zoX(n:Nat)(w:World)(hn:n≤24) :
  Calls Tryz.prog 13 #[.int .i64 n] w fun e w' => ∃ g,e=.returned (.tuple #[.agg #[.slice (some ⟨g,0,none⟩) n n],.int .i64 0])∧Below w.heap.size w w' ∧ NdsAt w' (some ⟨g,0,none⟩) (List.replicate n zaM):=by
 have hmk:=zfB n (by omega)
 go_enter Tryz.func13,Tryz.ntmps13
 go_wp2_with (go_at_call 39;refine(zcT _ _ _ _ (by omega) (by omega)).mono ?_;rintro e w' ⟨rfl,rfl⟩)
 go_loopg [14] n (fun g s14 wr=>∃ (k:Nat) (F:Nat→Value),k≤n∧n-k≤g∧s14=.int .i64 k∧Below (w.heap.size+1) (w.alloc (Obj.cells #[Value.slice none 0 0] 24)) wr∧w.heap.size+1<wr.heap.size∧Hid (wr.rowIs (w.heap.size+1) 44 (n*8) F)∧Hid (∀ i,i<k→F (i*8)=.bool false∧F (i*8+1)=.int .i64 0∧F (i*8+2)=.int .i64 0∧F (i*8+3)=.int .i64 0∧F (i*8+4)=.int .i64 (-1)∧F (i*8+5)=.slice none 0 0∧F (i*8+6)=.int .i64 (-1)∧F (i*8+7)=.bool false))
 case atStart =>
  refine⟨0,fun j=>zed[j % 8]!,Nat.zero_le _,by omega,rfl,(Below.refl _ _).alloc (by simp) _,by simp,?_,(show Hid _ from fun i hi=>absurd hi (Nat.not_lt_zero _))⟩
  have h:=zep (w.alloc (Obj.cells #[Value.slice none 0 0] 24)) n
  simp only[World.size_alloc] at h
  exact h
 case round =>
  obtain⟨k,F,hk,hg,rfl,hb,hsz,hR,A⟩:=hrel
  have hc0:wr.cell? ⟨w.heap.size,0,none⟩=some (.slice none 0 0):=(hb.cell (by simp)).trans (by go_simp)
  have hf0:wr.frozen? ⟨w.heap.size,0,none⟩=false:=(hb.frozen (by simp)).trans (by go_simp)
  by_cases hlt:k<n
  ·have q0:=hR.out.cell (i:=k*8) (by omega)
   have q1:=hR.out.cell (i:=k*8+1) (by omega)
   have q2:=hR.out.cell (i:=k*8+2) (by omega)
   have q3:=hR.out.cell (i:=k*8+3) (by omega)
   have q4:=hR.out.cell (i:=k*8+4) (by omega)
   have q5:=hR.out.cell (i:=k*8+5) (by omega)
   have q6:=hR.out.cell (i:=k*8+6) (by omega)
   have q7:=hR.out.cell (i:=k*8+7) (by omega)
   have hfz:=hR.out.frozen
   go_wp2_with (go_at_call 40;refine(zeT _ _).mono ?_;rintro e w' ⟨rfl,rfl⟩)
   go_roundg (n-(k+1))
   case measure=>omega
   case rel =>
    refine⟨k+1,_,by omega,by omega,by go_num,?_,by simp;omega,(zgN hR.out (k*8) _ _ _ _ _ _ _ _).alloc _,(show Hid _ from fun i hi=>?_)⟩
    ·exact((((((((hb.setCell (by simp) _).setCell (by simp) _).setCell (by simp) _).setCell (by simp) _).setCell (by simp) _).setCell (by simp) _).setCell (by simp) _).setCell (by simp) _).alloc (by simp;omega) _
    ·by_cases e:i=k
     ·subst e
      unfold put8
      refine⟨?_,?_,?_,?_,?_,?_,?_,?_⟩
      ·rw[if_neg (by omega),if_neg (by omega),if_neg (by omega),if_neg (by omega),if_neg (by omega),if_neg (by omega),if_neg (by omega),if_pos rfl]
      ·rw[if_neg (by omega),if_neg (by omega),if_neg (by omega),if_neg (by omega),if_neg (by omega),if_neg (by omega),if_pos rfl]
      ·rw[if_neg (by omega),if_neg (by omega),if_neg (by omega),if_neg (by omega),if_neg (by omega),if_pos rfl]
      ·rw[if_neg (by omega),if_neg (by omega),if_neg (by omega),if_neg (by omega),if_pos rfl]
      ·rw[if_neg (by omega),if_neg (by omega),if_neg (by omega),if_pos rfl]
      ·rw[if_neg (by omega),if_neg (by omega),if_pos rfl]
      ·rw[if_neg (by omega),if_pos rfl]
      ·rw[if_pos rfl]
     ·obtain⟨e0,e1,e2,e3,e4,e5,e6,e7⟩:=A.out i (by omega)
      refine⟨?_,?_,?_,?_,?_,?_,?_,?_⟩
      all_goals
       rw[put8_other (by omega)]
       assumption
  ·have:k=n:=by omega
   subst this
   go_wp2
   refine bodyPost_ret (v:=.tuple #[.agg #[.slice (some ⟨w.heap.size+1,0,none⟩) k k],.int .i64 0]) (by simp[results,Tryz.results13,go_sem,hc0]) rfl ⟨w.heap.size+1,rfl,?_,fun i hi=>?_⟩
   ·exact(((Below.refl _ _).alloc (Nat.le_refl _) _).trans (hb.mono (by omega))).setCell (Nat.le_refl _) _
   ·have hi' : i<k:=by simpa using hi
    have hR2:=hR.out.setOther (a:=⟨w.heap.size,0,none⟩) (by simp) (.slice (some ⟨w.heap.size+1,0,none⟩) k k)
    obtain⟨e0,e1,e2,e3,e4,e5,e6,e7⟩:=A.out i hi'
    rw[zff k i _ hi']
    refine⟨w.heap.size+1,0,rfl,?_⟩
    rw[Nat.zero_add]
    refine⟨?_,?_,?_,?_,?_,⟨none,0,?_,fun j hj=>absurd hj (Nat.not_lt_zero _)⟩,?_,?_⟩
    ·rw[hR2.cell (by omega),e0];rfl
    ·rw[hR2.cell (by omega),e1];rfl
    ·rw[hR2.cell (by omega),e2];rfl
    ·rw[hR2.cell (by omega),e3];rfl
    ·rw[hR2.cell (by omega),e4];rfl
    ·rw[hR2.cell (by omega),e5];rfl
    ·rw[hR2.cell (by omega),e6];rfl
    ·rw[hR2.cell (by omega),e7];rfl
end Go.Proofs.YtojlkdekdbdpoaaGreat
