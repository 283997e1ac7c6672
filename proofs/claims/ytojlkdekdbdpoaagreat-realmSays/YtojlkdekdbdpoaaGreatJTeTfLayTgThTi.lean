/-
  x
-/
import Derived.Test.YtojlkdekdbdpoaaGreatJTbSpTcTd
import Derived.BigQuiet
import Derived.Laws.StructEq
import Derived.Shelf.SlGeneric
import Derived.Shelf.Spec.SlicesInsertGrow
import Derived.Ground.Names2Prog
import Derived.Ground.SlgfProg
import Derived.Shelf.SlicesE.DeleteFunc
import Derived.Test.YtojlkdekdbdpoaaGreatProg
namespace Go.Proofs.YtojlkdekdbdpoaaGreat
open Go.RowKit
theorem zav(S:List Nd)(k i:Nat)(x:Nd)(hk:k<S.length):nd (S.set k x) i=if i=k then x else nd S i:=by
 unfold nd
 by_cases e:i=k
 ·subst e
  simp[List.getD,hk]
 ·rw[if_neg e]
  simp[List.getD,Ne.symm e]
theorem Own.turned{w w' : World}{B g:Nat}{S S' : List Nd}{kb kc:Nat→Nat}(h:Own w B g S kb kc S.length)(hl:S'.length=S.length){F' : Nat→Value}(hF:w'.rowIs g 44 (S.length*8) F')
  (hN:∀ F,w.rowIs g 44 (S.length*8) F→(∀ i,i<S.length→NdR w F (i*8) (nd S i) (kb i) (kc i))→(∀ i,i<S.length→g<kb i)→∀ i,i<S.length→∃ kb' kc', NdR w' F' (i*8) (nd S' i) kb' kc' ∧ g≤kb'):∀ w3:World,(∀ b,g≤b→w3.heap[b]?=w'.heap[b]?)→NdsAt w3 (some ⟨g,0,none⟩) S' := fun w3 hup i hi=>by
 obtain⟨_,F,hF0,hN0,hg,_⟩:=h
 obtain⟨kb', kc',⟨e0,e1,e2,e3,e4,e5,e6,e7,e8,e8b,G,hG0,e9⟩,hgk⟩:=hN F hF0 hN0 hg i (by omega)
 have hG:=hG0.of_block (hup kb' hgk)
 replace hF:=hF.of_block (hup g (Nat.le_refl _))
 refine⟨g,0,rfl,?_⟩
 rw[Nat.zero_add]
 refine⟨?_,?_,?_,?_,?_,⟨some ⟨kb', 0,none⟩,kc', ?_,fun j hj=>⟨kb', 0,rfl,?_⟩⟩,?_,?_⟩
 ·rw[hF.cell (by omega),e0]
 ·rw[hF.cell (by omega),e1]
 ·rw[hF.cell (by omega),e2]
 ·rw[hF.cell (by omega),e3]
 ·rw[hF.cell (by omega),e4]
 ·rw[hF.cell (by omega),e5]
 ·rw[Nat.zero_add,hG.cell (by omega),e9 j hj]
 ·rw[hF.cell (by omega),e6]
 ·rw[hF.cell (by omega),e7]
theorem zbD{w w1:World}{a:Option Addr}{n c:Nat}(hb:Below (w.heap.size+1+1+1) (((w.alloc (.cells #[.slice a n c] 24)).alloc (.cells #[.slice none 0 0] 24)).alloc (.cells #[.int .i64 0,.int .i64 0] 60)) w1) :
  w1.cell? ⟨w.heap.size,0,none⟩=some (.slice a n c)∧w1.cell? ⟨w.heap.size+1,0,none⟩=some (.slice none 0 0)∧w1.cell? ⟨w.heap.size+1+1,0,none⟩=some (.int .i64 0)∧w1.cell? ⟨w.heap.size+1+1,1,none⟩=some (.int .i64 0) ∧
  w1.frozen? ⟨w.heap.size+1,0,none⟩=false∧w1.frozen? ⟨w.heap.size+1+1,0,none⟩=false∧w1.frozen? ⟨w.heap.size+1+1,1,none⟩=false :=
 ⟨(hb.cell (by simp;omega)).trans (by go_simp),(hb.cell (by simp)).trans (by go_simp),(hb.cell (by simp)).trans (by go_simp),(hb.cell (by simp)).trans (by go_simp),(hb.frozen (by simp)).trans (by go_simp),(hb.frozen (by simp)).trans (by go_simp),(hb.frozen (by simp)).trans (by go_simp)⟩
theorem zaj(w:World)(o1 o2 o3:Obj):Below w.heap.size w (((w.alloc o1).alloc o2).alloc o3):=((((Below.refl _ _).alloc (Nat.le_refl _) _).alloc (by simp) _).alloc (by simp;omega) _)
def zbg(x:Nd)(t:Int):Nd:=⟨true,x.n+1,t,x.m,x.p,x.ks,x.h,x.c⟩
end Go.Proofs.YtojlkdekdbdpoaaGreat

namespace Go.Proofs.YtojlkdekdbdpoaaGreat
set_option maxRecDepth 100000
set_option maxHeartbeats 4000000
open Go.RowKit
def fitsB(S:List Nd)(ch pa:Nat):Bool:=decide ((nd S ch).h = -1) && (!decide ((pa:Int)=ch) && !zbd S pa ch)
theorem zgL(a:Option Addr)(c:Nat)(S:List Nd)(ch pa:Nat)(w:World)(hN:S.length≤9223372036854775807)(hc:ch<S.length)(hS:NdsAt w a S) :
  Calls Tryz.prog 121 #[.agg #[.slice a S.length c],.int .i64 ch,.int .i64 pa] w fun e w' => e=.returned (.bool (fitsB S ch pa))∧Below w.heap.size w w' := by
 unfold fitsB
 have du:=fun(W:World) (hW:NdsAt W a S)=>zhO a c S pa ch W hN hW
 have DU:Hid _:=du
 have HS:Hid (NdsAt w a S):=hS
 have hc2:(ch:Int)<(S.length:Int):=by omega
 obtain⟨b,o,rfl,c0,_,_,_,_,_,c6,_⟩:=hS ch hc
 have hbw:=World.block_lt_of_cell? _ _ c0
 clear hS du
 generalize zbd S pa ch=b3 at *
 generalize (nd S ch).h=hh at *
 generalize S.length=n at *
 by_cases h1:hh = -1
 ·subst h1
  by_cases h2:(pa:Int)=ch
  ·have e:decide ((pa:Int)=ch)=true:=decide_eq_true h2
   have h3:pa=ch:=by omega
   subst h3
   rw[e]
   simp only[decide_true,Bool.not_true,Bool.false_and,Bool.and_false]
   go_enter Tryz.func121,Tryz.ntmps121
   go_wp2
   go_ret
   exact⟨rfl,(Below.refl _ _).alloc (Nat.le_refl _) _⟩
  ·have e:decide ((pa:Int)=ch)=false:=decide_eq_false h2
   rw[e]
   have e1:((pa:Int) ==(ch:Int))=false:=beq_eq_false_iff_ne.2 h2
   have e2:((pa:Int) !=(ch:Int))=true:=by simp[bne,e1]
   have h2n:¬ pa=ch:=by omega
   simp only[decide_true,Bool.not_false,Bool.true_and]
   cases b3
   all_goals
    go_enter Tryz.func121,Tryz.ntmps121
    go_wp2_with (go_at_call 104;refine(DU.out _ (HS.out.below ((Below.refl _ _).alloc (Nat.le_refl _) _))).mono ?_;rintro e w1 ⟨rfl,hb1⟩)
    go_ret
    exact⟨rfl,((Below.refl _ _).alloc (Nat.le_refl _) _).trans (hb1.mono (by simp))⟩
 ·have e:decide (hh = -1)=false:=decide_eq_false h1
  have e1:(hh == -1)=false:=beq_eq_false_iff_ne.2 h1
  rw[e]
  simp only[Bool.false_and]
  go_enter Tryz.func121,Tryz.ntmps121
  go_wp2
  go_ret
  exact⟨rfl,(Below.refl _ _).alloc (Nat.le_refl _) _⟩
theorem zjd(ha:Option Addr)(hc:Nat)(hs:List (Int × Int))(p u:Int)(w:World)(hL:hs.length≤9223372036854775807)(hH:zak w ha hs) :
  Calls Tryz.prog 137 #[.slice ha hs.length hc,.agg #[.int .i64 p,.int .i64 u]] w fun e w' => ∃ r:Int,e=.returned (.int .i64 r)∧Below w.heap.size w w' ∧((0≤r)↔(p,u) ∈ hs):=by
 have HH:Hid (zak w ha hs):=hH
 have IN:Hid (∀ k,k<hs.length→hs.getD k (0,0)=(p,u)→(p,u) ∈ hs):=fun k hk h=>by rw[← h,zad hs _ hk];exact List.getElem_mem hk
 have OUT:Hid ((∀ k,k<hs.length→hs.getD k (0,0)≠(p,u))→(p,u) ∉ hs):=fun h hm=>by
  obtain⟨i,hi,e⟩:=List.getElem_of_mem hm
  exact h i hi (by rw[zad hs _ hi];exact e)
 clear hH
 generalize hm:hs.length=m at *
 have HM:Hid _:=hm
 clear hm
 generalize ((p,u) ∈ hs)=Q at *
 go_enter Tryz.func137,Tryz.ntmps137
 go_wp2
 go_loopg [8] m (fun g s8 wr=>∃ k:Nat,k≤m∧m-k≤g∧s8=.int .i64 k∧Below (w.heap.size+1) (w.alloc (.cells #[.int .i64 p,.int .i64 u] 60)) wr∧Hid (∀ i,i<k→hs.getD i (0,0)≠(p,u)))
 case atStart=>exact⟨0,by omega,by omega,rfl,Below.refl _ _,(show Hid _ from fun i hi=>absurd hi (Nat.not_lt_zero _))⟩
 case round =>
  obtain⟨k,hk,hg,rfl,hb,A⟩:=hrel
  have hB0:Below w.heap.size w wr:=((Below.refl _ _).alloc (Nat.le_refl _) _).trans (hb.mono (by omega))
  have x0:wr.cell? ⟨w.heap.size,0,none⟩=some (.int .i64 p):=(hb.cell (by simp)).trans (by go_simp)
  have x1:wr.cell? ⟨w.heap.size,1,none⟩=some (.int .i64 u):=(hb.cell (by simp)).trans (by go_simp)
  by_cases hlt:k<m
  ·have hlt2:(k:Int)<(m:Int):=by omega
   obtain⟨b,o,rfl,c0,c1⟩:=(HH.out.below hB0) k (by rw[HM.out];exact hlt)
   generalize hy:hs.getD k (0,0)=y at *
   obtain⟨yp,yu⟩:=y
   dsimp only at c0 c1
   have HY:Hid _:=hy
   clear hy
   by_cases e1:p=yp
   ·by_cases e2:u=yu
    ·subst e1
     subst e2
     have Z:Hid _:=IN.out k hlt HY.out
     go_wp2_with fail
     go_quiet (fail)
     go_wp2
     go_ret
     exact⟨k,rfl,Below.drewNs hB0 _,fun _=>Z.out,fun _=>by omega⟩
    ·have e3:(u == yu)=false:=beq_eq_false_iff_ne.2 e2
     have NE:Hid ((yp,yu)≠(p,u)):=fun h=>e2 (by cases h;rfl)
     subst e1
     go_wp2_with fail
     go_quiet (fail)
     go_wp2
     go_roundg (m-(k+1))
     case measure=>omega
     case rel =>
      refine⟨k+1,by omega,by omega,by go_num,Below.drewNs hb _,(show Hid _ from fun i hi=>?_)⟩
      by_cases e:i=k
      ·rw[e,HY.out];exact NE.out
      ·exact A.out i (by omega)
   ·have e3:(p == yp)=false:=beq_eq_false_iff_ne.2 e1
    have NE:Hid ((yp,yu)≠(p,u)):=fun h=>e1 (by cases h;rfl)
    go_wp2_with fail
    go_quiet (fail)
    go_wp2
    go_roundg (m-(k+1))
    case measure=>omega
    case rel =>
     refine⟨k+1,by omega,by omega,by go_num,Below.drewNs hb _,(show Hid _ from fun i hi=>?_)⟩
     by_cases e:i=k
     ·rw[e,HY.out];exact NE.out
     ·exact A.out i (by omega)
  ·have:k=m:=by omega
   subst this
   have Z:Hid _:=OUT.out A.out
   go_wp2
   go_ret
   exact⟨-1,rfl,hB0,fun h=>by omega,fun h=>absurd h Z.out⟩
end Go.Proofs.YtojlkdekdbdpoaaGreat

namespace Go.Proofs
open Go.Shelf
def Tryz.lays21_ren:Go.Shelf.Ren:=⟨fun|21=>138|27=>144|28=>145|35=>147|39=>148|n=>n,fun|22=>29|3=>3|4=>4|0=>0|n=>n,fun|n=>n⟩
theorem Tryz.lays21:Go.Proofs.Lays2.n21 Tryz.prog Tryz.lays21_ren:={
 mixed:=by kernel_rfl
 f21:=Tryz.func138.trans (congrArg some (by kernel_rfl))
 f27:=Tryz.func144.trans (congrArg some (by kernel_rfl))
 f28:=Tryz.func145.trans (congrArg some (by kernel_rfl))
 f35:=Tryz.func147.trans (congrArg some (by kernel_rfl))
 f39:=Tryz.func148.trans (congrArg some (by kernel_rfl))
 t0:=Tryz.underlying0
 a0:=Tryz.isAgg0
 z0:=Tryz.sizeOf0
 v0:=Tryz.zeroValue0
 t3:=Tryz.underlying3
 a3:=Tryz.isAgg3
 z3:=Tryz.sizeOf3
 v3:=Tryz.zeroValue3
 t4:=Tryz.underlying4
 a4:=Tryz.isAgg4
 z4:=Tryz.sizeOf4
 v4:=Tryz.zeroValue4
 t22:=Tryz.underlying29
 a22:=Tryz.isAgg29
 z22:=Tryz.sizeOf29
 v22:=Tryz.zeroValue29
 i3:=by kernel_rfl }
end Go.Proofs

namespace Go.Proofs.YtojlkdekdbdpoaaGreat
open Go.RowKit
def ins(ks:List Int)(i:Nat)(c:Int):List Int:=ks.take i++c :: ks.drop i
theorem zdW(ks:List Int)(i:Nat)(c:Int)(h:i≤ks.length):(ins ks i c).length=ks.length+1:=by
 simp[ins];omega
theorem zhf(ks:List Int)(i j:Nat)(c:Int)(h:i≤ks.length)(hj:j<i):(ins ks i c).getD j 0=ks.getD j 0:=by
 simp[ins,List.getD,List.getElem?_append,hj]
 rw[if_pos (by omega)]
theorem zfp(ks:List Int)(i:Nat)(c:Int)(h:i≤ks.length):(ins ks i c).getD i 0=c:=by
 simp[ins,List.getD,Nat.min_eq_left h]
theorem zjJ(ks:List Int)(i j:Nat)(c:Int)(h:i≤ks.length)(hj:i<j):(ins ks i c).getD j 0=ks.getD (j-1) 0:=by
 have e:j-i=(j-1-i)+1:=by omega
 simp[ins,List.getD,List.getElem?_append,Nat.min_eq_left h]
 rw[if_neg (by omega),e,List.getElem?_cons_succ,List.getElem?_drop,show i+(j-1-i)=j-1 by omega]
theorem zbu{b t n:Nat}:∀ (vs:List Value) (o:Nat) (w:World) (F:Nat→Value),w.rowIs b t n F→(w.setCells b o vs).rowIs b t n (fun j=>if o≤j∧j<o+vs.length then vs.getD (j-o) undef else F j)
 | [],o,w,F,h=>h.congr (fun j _=>by rw[if_neg];simp)
 | v :: r,o,w,F,h=>by
  refine(zbu r (o+1) (w.setCell ⟨b,o,none⟩ v) _ (h.set o v)).congr (fun j _=>?_)
  by_cases e:j=o
  ·subst e
   rw[if_neg (by omega),if_pos rfl,if_pos (by simp)]
   simp
  ·by_cases e2:o+1≤j∧j<o+1+r.length
   ·rw[if_pos e2,if_pos (by simp;omega),show j-o=(j-(o+1))+1 by omega]
    simp
   ·rw[if_neg e2,if_neg e,if_neg (by simp;omega)]
theorem zbv{X:Nat→Prop}{b:Nat}(hX:X b):∀ (vs:List Value) (o:Nat) (w:World),Off X w (w.setCells b o vs)
 | [],_,w=>Off.refl _ w
 | v :: r,o,w=>by
  have step:Off X w (w.setCell ⟨b,o,none⟩ v):=⟨rfl,rfl,rfl,by simp,fun k _ hx=>Below.heap_setCell w ⟨b,o,none⟩ v k (fun e=>hx (by rw[e];exact hX))⟩
  exact step.trans (zbv hX r (o+1) (w.setCell ⟨b,o,none⟩ v))
theorem Off.drew{X:Nat→Prop}{w w' : World}(h:Off X w w'):Off X w w'.drew:=⟨h.os,h.tape,h.output,h.size,h.block⟩
theorem Off.mono{X Y:Nat→Prop}{w w' : World}(h:Off X w w')(hxy:∀ k,k<w.heap.size→X k→Y k):Off Y w w' :=⟨h.os,h.tape,h.output,h.size,fun k hk hy=>h.block k hk (fun hx=>hy (hxy k hk hx))⟩
def zeC(w:World)(kb:Nat)(l:List Int)(e:Ending)(w' : World):Prop :=
 ∃ kb' kc', e=.returned (.slice (some ⟨kb', 0,none⟩) l.length kc')∧l.length≤kc' ∧(kb' = kb∨w.heap.size≤kb')∧Off (fun b=>b=kb) w w' ∧ ∃ G,w'.rowIs kb' 3 kc' G∧∀ j,j<l.length→G j=.int .i64 (l.getD j 0)
theorem zhb{ks:List Int}{j:Nat}{v:Value}(h:(ks.map (Value.int .i64))[j]?=some v):j<ks.length∧v=.int .i64 (ks.getD j 0):=by
 obtain⟨hl,hv⟩:=List.getElem?_eq_some_iff.1 h
 have hl' : j<ks.length:=by simpa using hl
 refine⟨hl', ?_⟩
 rw[← hv,List.getElem_map,zad ks 0 hl']
theorem zhz(kb L kc vb i:Nat)(ks:List Int)(ch:Int)(w:World)(hL:ks.length=L)(hi:i<L)(hkc:kc=L)(hsm:L≤1000)(G:Nat→Value)(hG:w.rowIs kb 3 kc G)(hGk:∀ j,j<L→G j=.int .i64 (ks.getD j 0))(hv:w.cell? ⟨vb,0,none⟩=some (.int .i64 ch)) :
  Calls Tryz.prog 138 #[.slice (some ⟨kb,0,none⟩) L kc,.int .i64 i,.slice (some ⟨vb,0,none⟩) 1 1] w (zeC w kb (ins ks i ch)):=by
 have h:=Any2.slices_Insert_int_grow (P:=Tryz.prog) (ρ:=Tryz.lays21_ren) Tryz.lays21 kb 0 L kc i vb 0 1 1 (ks.map (Value.int .i64)) [.int .i64 ch] w hi (by omega) (by omega) (by omega) (by omega) (by simpa using hL) rfl
  (fun j v hj=>by
   obtain⟨h1,rfl⟩:=zhb hj
   rw[Nat.zero_add,hG.cell (by omega),hGk j (by omega)])
  (fun j v hj=>by
   match j,hj with
   | 0,hj=>simp at hj;subst hj;simpa using hv)
  (fun v hv=>by simp at hv;obtain⟨y,_,rfl⟩:=hv;rfl) (fun v hv=>by simp at hv;subst hv;rfl)
 refine Calls.mono (show Calls Tryz.prog 138 _ _ _ from h) ?_
 rintro e w' ⟨rfl,rfl⟩
 have hcap:=grownCap_ge w (L+1) kc (Tryz.lays21_ren.t 3)
 have hl:=zdW ks i ch (by omega)
 generalize grownCap w (L+1) kc (Tryz.lays21_ren.t 3)=cap at *
 refine⟨w.heap.size,cap,by rw[hl,hL],by omega,Or.inr (Nat.le_refl _),?_,?_⟩
 ·refine Off.mono (X:=fun b=>b=w.heap.size) ?_ (fun k hk e=>by omega)
  exact(((Off.of_below ((Below.refl _ _).alloc (Nat.le_refl _) _)).drew.trans (zbv (X:=fun b=>b=w.heap.size) rfl _ _ _)).drew).trans (zbv (X:=fun b=>b=w.heap.size) rfl _ _ _)
 ·have hA:(((ks.map (Value.int .i64)).take i).toArray++Builtin.zeroCells (Value.int .i64 0).cells (L+1-i)++Builtin.zeroCells (Value.int .i64 0).cells (cap-(L+1))).size=cap:=by
   simp[size_zeroCells,Value.cells,hL];omega
  have hlow:∀ j,j<i→(((ks.map (Value.int .i64)).take i).toArray++Builtin.zeroCells (Value.int .i64 0).cells (L+1-i)++Builtin.zeroCells (Value.int .i64 0).cells (cap-(L+1)))[j]?=some (.int .i64 (ks.getD j 0)):=fun j hj=>by
   have hjk:j<ks.length:=by omega
   rw[Array.getElem?_append_left (by simp;omega),Array.getElem?_append_left (by simp;omega)]
   simp[hj,hjk]
  generalize (((ks.map (Value.int .i64)).take i).toArray++Builtin.zeroCells (Value.int .i64 0).cells (L+1-i)++Builtin.zeroCells (Value.int .i64 0).cells (cap-(L+1)))=A at *
  have hr:=World.rowIs_alloc w A 3 (fun j=>A[j]?.getD undef) (fun j hj=>by simp[hj])
  rw[hA] at hr
  have hr2:=zbu [.int .i64 ch] i _ _ hr.drew
  have hr3:=zbu ((ks.map (Value.int .i64)).drop i) (i+1) _ _ hr2.drew
  refine⟨_,hr3,fun j hj=>?_⟩
  rw[hl,hL] at hj
  have hdl:((ks.map (Value.int .i64)).drop i).length=L-i:=by simp[hL]
  by_cases h1:i<j
  ·rw[if_pos (by rw[hdl];omega),zjJ ks i j ch (by omega) h1,zad ks 0 (by omega)]
   have:i+(j-(i+1))=j-1:=by omega
   simp[List.getD,this,show j-1<ks.length by omega]
  ·rw[if_neg (by omega)]
   by_cases h2:j=i
   ·subst h2
    rw[if_pos (by simp),zfp ks j ch (by omega)]
    simp
   ·rw[if_neg (by simp;omega),zhf ks i j ch (by omega) (by omega),hlow j (by omega)]
    rfl
theorem ziX(kb L kc vb:Nat)(ks:List Int)(ch:Int)(w:World)(hL:ks.length=L)(hkc:kc=L)(hsm:L≤1000)(G:Nat→Value)(hG:w.rowIs kb 3 kc G)(hGk:∀ j,j<L→G j=.int .i64 (ks.getD j 0))(hv:w.cell? ⟨vb,0,none⟩=some (.int .i64 ch)) :
  Calls Tryz.prog 138 #[.slice (some ⟨kb,0,none⟩) L kc,.int .i64 L,.slice (some ⟨vb,0,none⟩) 1 1] w (zeC w kb (ins ks L ch)):=by
 have h:=Any2.slices_Insert_int_end_grow (P:=Tryz.prog) (ρ:=Tryz.lays21_ren) Tryz.lays21 (some ⟨kb,0,none⟩) L kc vb 0 1 1 (ks.map (Value.int .i64)) [.int .i64 ch] w (by omega) (by omega) (by omega) (by omega) (by simpa using hL) rfl (fun h=>by cases h)
  (fun a ha j v hj=>by
   cases ha
   obtain⟨h1,rfl⟩:=zhb hj
   rw[Addr.add_lit,Nat.zero_add,hG.cell (by omega),hGk j (by omega)])
  (fun j v hj=>by
   match j,hj with
   | 0,hj=>simp at hj;subst hj;simpa using hv)
  (fun v hv=>by simp at hv;subst hv;rfl)
 refine Calls.mono (show Calls Tryz.prog 138 _ _ _ from h) ?_
 rintro e w' ⟨rfl,rfl⟩
 have hcap:=grownCap_ge w (L+1) kc (Tryz.lays21_ren.t 3)
 have hl:=zdW ks L ch (by omega)
 generalize grownCap w (L+1) kc (Tryz.lays21_ren.t 3)=cap at *
 refine⟨w.heap.size,cap,by rw[hl,hL],by omega,Or.inr (Nat.le_refl _),?_,?_⟩
 ·exact Off.of_below ((Below.refl _ _).drew.alloc (Nat.le_refl _) _)
 ·have hA:((ks.map (Value.int .i64)++[Value.int .i64 ch]).toArray++Builtin.zeroCells (Value.int .i64 0).cells (cap-(L+1))).size=cap:=by
   simp[size_zeroCells,Value.cells,hL];omega
  have hlow:∀ j,j<L+1→((ks.map (Value.int .i64)++[Value.int .i64 ch]).toArray++Builtin.zeroCells (Value.int .i64 0).cells (cap-(L+1)))[j]?=some (.int .i64 ((ins ks L ch).getD j 0)):=fun j hj=>by
   rw[Array.getElem?_append_left (by simp;omega)]
   by_cases e:j=L
   ·rw[e,zfp ks L ch (by omega),← hL]
    simp
   ·have hjk:j<ks.length:=by omega
    rw[zhf ks L j ch (by omega) (by omega)]
    simp[List.getElem?_append,hjk]
  generalize ((ks.map (Value.int .i64)++[Value.int .i64 ch]).toArray++Builtin.zeroCells (Value.int .i64 0).cells (cap-(L+1)))=A at *
  have hr:=World.rowIs_alloc w.drew A 3 (fun j=>A[j]?.getD undef) (fun j hj=>by simp[hj])
  rw[hA] at hr
  refine⟨_,hr,fun j hj=>?_⟩
  rw[hl,hL] at hj
  rw[hlow j hj]
  rfl
end Go.Proofs.YtojlkdekdbdpoaaGreat

namespace Go.Proofs.YtojlkdekdbdpoaaGreat
open Go.RowKit
theorem zhy(kb L kc vb:Nat)(ks:List Int)(ch:Int)(w:World)(hL:ks.length=L)(hkc:L+1≤kc)(hsm:kc≤1000000000)(G:Nat→Value)(hG:w.rowIs kb 3 kc G)(hGk:∀ j,j<L→G j=.int .i64 (ks.getD j 0))(hv:w.cell? ⟨vb,0,none⟩=some (.int .i64 ch)) :
  Calls Tryz.prog 138 #[.slice (some ⟨kb,0,none⟩) L kc,.int .i64 L,.slice (some ⟨vb,0,none⟩) 1 1] w (zeC w kb (ins ks L ch)):=by
 have h:=Any2.slices_Insert_int_end_room (P:=Tryz.prog) (ρ:=Tryz.lays21_ren) Tryz.lays21 kb 0 L kc vb 0 1 1 [.int .i64 ch] w (by omega) (by omega) (by omega) rfl
  (fun j hj=>by rw[hG.cell (by omega)];rfl) (fun j _=>hG.frozen _)
  (fun j v hj=>by
   match j,hj with
   | 0,hj=>simp at hj;subst hj;simpa using hv)
  (fun v hv=>by simp at hv;subst hv;rfl)
 refine Calls.mono (show Calls Tryz.prog 138 _ _ _ from h) ?_
 rintro e w' ⟨rfl,rfl⟩
 have hl:=zdW ks L ch (by omega)
 refine⟨kb,kc,by rw[hl,hL],by omega,Or.inl rfl,zbv (X:=fun b=>b=kb) rfl _ _ _,_,zbu _ _ _ _ hG,fun j hj=>?_⟩
 rw[hl,hL] at hj
 by_cases e:j=L
 ·rw[if_pos (by simp;omega),e,zfp ks L ch (by omega)]
  simp
 ·rw[if_neg (by simp;omega),zhf ks L j ch (by omega) (by omega),hGk j (by omega)]
theorem zgD(kb L kc vb i:Nat)(ks:List Int)(ch:Int)(w:World)(hL:ks.length=L)(hi:i<L)(hkc:L+1≤kc)(hsm:kc≤1000000000)(G:Nat→Value)(hG:w.rowIs kb 3 kc G)(hGk:∀ j,j<L→G j=.int .i64 (ks.getD j 0))(hvb:vb≠kb)(hv:w.heap[vb]?=some (.cells #[.int .i64 ch] 3 (0,0))) :
  Calls Tryz.prog 138 #[.slice (some ⟨kb,0,none⟩) L kc,.int .i64 i,.slice (some ⟨vb,0,none⟩) 1 1] w (zeC w kb (ins ks i ch)):=by
 have hvc:w.cell? ⟨vb,0,none⟩=some (.int .i64 ch):=by simp[World.cell?,hv]
 have hvf:∀ o,w.frozen? ⟨vb,o,none⟩=false:=fun o=>by simp[World.frozen?,hv]
 have hsb:w.shape? kb=some (3,kc):=by
  obtain⟨c,hc,hs,_⟩:=hG
  simp[World.shape?,hc,hs]
 have h:=Any2.slices_Insert_int_shift (P:=Tryz.prog) (ρ:=Tryz.lays21_ren) Tryz.lays21 kb 0 L kc i vb 0 1 1 (ks.map (Value.int .i64)) [.int .i64 ch] w hi (by omega) (by omega) (by omega) hvb (by simpa using hL) rfl
  (fun j v hj=>by
   obtain⟨h1,rfl⟩:=zhb hj
   rw[Nat.zero_add,hG.cell (by omega),hGk j (by omega)])
  (fun j hj=>by rw[hG.cell (by omega)];rfl) (fun j _=>hG.frozen _)
  (fun j v hj=>by
   match j,hj with
   | 0,hj=>simp at hj;subst hj;simpa using hvc)
  (fun v hv=>by simp at hv;obtain⟨y,_,rfl⟩:=hv;rfl) (fun v hv=>by simp at hv;subst hv;rfl)
  3 3 1 kc (by simp[World.shape?,hv]) hsb (by omega) (hvf _) (hvf _)
 refine Calls.mono (show Calls Tryz.prog 138 _ _ _ from h) ?_
 rintro e w' ⟨rfl,rfl⟩
 have hl:=zdW ks i ch (by omega)
 refine⟨kb,kc,by rw[hl,hL],by omega,Or.inl rfl,(Off.refl _ _).drew.trans ((zbv (X:=fun b=>b=kb) rfl _ _ _).trans (zbv (X:=fun b=>b=kb) rfl _ _ _)),_,zbu _ _ _ _ (zbu _ _ _ _ hG.drew),fun j hj=>?_⟩
 rw[hl,hL] at hj
 have hdl:((ks.map (Value.int .i64)).drop i).length=L-i:=by simp[hL]
 by_cases h2:j=i
 ·subst h2
  rw[if_pos (by simp),zfp ks j ch (by omega)]
  simp
 ·rw[if_neg (by simp;omega)]
  by_cases h1:i<j
  ·rw[if_pos (by rw[hdl];omega),zjJ ks i j ch (by omega) h1,zad ks 0 (by omega)]
   simp[List.getD]
   rw[show i+(j-(i+1))=j-1 by omega]
   simp[show j-1<ks.length by omega]
  ·rw[if_neg (by omega),zhf ks i j ch (by omega) (by omega),hGk j (by omega)]
theorem zje(kb L kc vb i:Nat)(ks:List Int)(ch:Int)(w:World)(hL:ks.length=L)(hi:i≤L)(hkc:L≤kc)(hsm:kc≤1000)(G:Nat→Value)(hG:w.rowIs kb 3 kc G)(hGk:∀ j,j<L→G j=.int .i64 (ks.getD j 0))(hvb:vb≠kb)(hv:w.heap[vb]?=some (.cells #[.int .i64 ch] 3 (0,0))) :
  Calls Tryz.prog 138 #[.slice (some ⟨kb,0,none⟩) L kc,.int .i64 i,.slice (some ⟨vb,0,none⟩) 1 1] w (zeC w kb (ins ks i ch)):=by
 have hvc:w.cell? ⟨vb,0,none⟩=some (.int .i64 ch):=by simp[World.cell?,hv]
 by_cases h1:i=L
 ·subst h1
  by_cases h2:kc=i
  ·exact ziX kb i kc vb ks ch w hL h2 (by omega) G hG hGk hvc
  ·exact zhy kb i kc vb ks ch w hL (by omega) (by omega) G hG hGk hvc
 ·by_cases h2:kc=L
  ·exact zhz kb L kc vb i ks ch w hL (by omega) h2 (by omega) G hG hGk hvc
  ·exact zgD kb L kc vb i ks ch w hL (by omega) (by omega) (by omega) G hG hGk hvb hv
end Go.Proofs.YtojlkdekdbdpoaaGreat

namespace Go.Proofs.YtojlkdekdbdpoaaGreat
open Go.RowKit
theorem zlq{w:World}{g:Nat}{S:List Nd}{F:Nat→Value}(hF:w.rowIs g 44 (S.length*8) F)
  (h:∀ i,i<S.length→F (i*8)=.bool (nd S i).u∧F (i*8+1)=.int .i64 (nd S i).n∧F (i*8+2)=.int .i64 (nd S i).t∧F (i*8+3)=.int .i64 (nd S i).m∧F (i*8+4)=.int .i64 (nd S i).p∧(∃ ka kc,F (i*8+5)=.slice ka (nd S i).ks.length kc∧zah w ka (nd S i).ks)∧F (i*8+6)=.int .i64 (nd S i).h∧F (i*8+7)=.bool (nd S i).c) :
  NdsAt w (some ⟨g,0,none⟩) S:=fun i hi=>by
 obtain⟨e0,e1,e2,e3,e4,⟨ka,kc,e5,hk⟩,e6,e7⟩:=h i hi
 refine⟨g,0,rfl,?_⟩
 rw[Nat.zero_add]
 refine⟨?_,?_,?_,?_,?_,⟨ka,kc,?_,hk⟩,?_,?_⟩
 ·rw[hF.cell (by omega),e0]
 ·rw[hF.cell (by omega),e1]
 ·rw[hF.cell (by omega),e2]
 ·rw[hF.cell (by omega),e3]
 ·rw[hF.cell (by omega),e4]
 ·rw[hF.cell (by omega),e5]
 ·rw[hF.cell (by omega),e6]
 ·rw[hF.cell (by omega),e7]
theorem zbI{w:World}{kb kc:Nat}{ks:List Int}{G:Nat→Value}(hG:w.rowIs kb 3 kc G)(hl:ks.length≤kc)(h:∀ j,j<ks.length→G j=.int .i64 (ks.getD j 0)):zah w (some ⟨kb,0,none⟩) ks:=fun j hj =>
 ⟨kb,0,rfl,by rw[Nat.zero_add,hG.cell (by omega),h j hj]⟩
def zdF(S:List Nd)(pa ch i:Nat)(j:Nat):Nd :=
 if j=ch then ⟨(nd S ch).u,(nd S ch).n,(nd S ch).t,(nd S ch).m,pa,(nd S ch).ks,(nd S ch).h,(nd S ch).c⟩
 else if j=pa then ⟨(nd S pa).u,(nd S pa).n,(nd S pa).t,(nd S pa).m,(nd S pa).p,ins (nd S pa).ks i ch,(nd S pa).h,(nd S pa).c⟩
 else nd S j
def zaJ(S:List Nd)(pa ch i:Nat):List Nd:=(List.range S.length).map (zdF S pa ch i)
theorem zaB(S:List Nd)(pa ch i:Nat):(zaJ S pa ch i).length=S.length:=by simp[zaJ]
theorem zcL(S:List Nd)(pa ch i j:Nat)(hj:j<S.length):nd (zaJ S pa ch i) j=zdF S pa ch i j:=by
 rw[zaF (by rw[zaB];exact hj)]
 simp[zaJ]
def atS(ks:List Int):List (Int × Int)→Int
 | []=>ks.length
 | h :: _=>idx ks h.1
theorem ziC{w w2:World}{B g:Nat}{S:List Nd}{kb kc:Nat→Nat}(hO:Own w B g S kb kc S.length){W:World}(hb:Below w.heap.size w W){pa ch i kb' kc' : Nat}(hpa:pa<S.length)(hch:ch<S.length)(hne:pa≠ch)
  (hi:i≤(nd S pa).ks.length) (hkb:kb' = kb pa∨W.heap.size≤kb') (hoff:Off (fun b=>b=kb pa) W w2) {G:Nat→Value} (hG:w2.rowIs kb' 3 kc' G) (hkc:(ins (nd S pa).ks i ch).length≤kc') (hGk:∀ j,j<(ins (nd S pa).ks i ch).length→G j=.int .i64 ((ins (nd S pa).ks i ch).getD j 0)) :
  ∀ w3:World,(∀ b,g≤b→w3.heap[b]?=((w2.setCell ⟨g,pa*8+5,none⟩ (.slice (some ⟨kb', 0,none⟩) (ins (nd S pa).ks i ch).length kc')).setCell ⟨g,ch*8+4,none⟩ (.int .i64 pa)).heap[b]?)→NdsAt w3 (some ⟨g,0,none⟩) (zaJ S pa ch i):=by
 intro w3 hup
 obtain⟨_,F,hF,hN,hg,hd⟩:=hO
 have hgl:=hF.lt
 have hW:∀ b,b<w.heap.size→b≠kb pa→w2.heap[b]?=w.heap[b]?:=fun b h1 h2=>(hoff.block b (Nat.lt_of_lt_of_le h1 hb.size) h2).trans (hb.block b h1)
 have hgk:g≠kb pa:=by have:=hg pa hpa;omega
 have hF2:=(((hF.of_block (hW g hgl hgk)).set (pa*8+5) (.slice (some ⟨kb', 0,none⟩) (ins (nd S pa).ks i ch).length kc')).set (ch*8+4) (.int .i64 pa)).of_block (hup g (Nat.le_refl _))
 have hkb'g:kb' ≠ g:=by
  rcases hkb with h|h
  ·rw[h];exact fun e=>hgk e.symm
  ·have:=hb.size;omega
 have hkb'2:g≤kb' := by
  rcases hkb with h|h
  ·rw[h];exact Nat.le_of_lt (hg pa hpa)
  ·have:=hb.size;omega
 rw[← zaB S pa ch i] at hF2
 refine zlq hF2 (fun j hj=>?_)
 rw[zaB] at hj
 rw[zcL S pa ch i j hj]
 obtain⟨e0,e1,e2,e3,e4,e5,e6,e7,e8,e8b,G0,hG0,e9⟩:=hN j hj
 unfold zdF
 by_cases h1:j=ch
 ·subst h1
  rw[if_pos rfl]
  have hr:w3.rowIs (kb j) 3 (kc j) G0 :=
   (((hG0.of_block (hW (kb j) hG0.lt (fun e=>hne (hd pa hpa j hj e.symm)))).setOther (by have:=hg j hj;simp;omega) _).setOther (by have:=hg j hj;simp;omega) _).of_block (hup (kb j) (Nat.le_of_lt (hg j hj)))
  refine⟨?_,?_,?_,?_,?_,⟨some ⟨kb j,0,none⟩,kc j,?_,zbI hr e8 e9⟩,?_,?_⟩
  all_goals dsimp only
  ·rw[if_neg (by omega),if_neg (by omega),e0]
  ·rw[if_neg (by omega),if_neg (by omega),e1]
  ·rw[if_neg (by omega),if_neg (by omega),e2]
  ·rw[if_neg (by omega),if_neg (by omega),e3]
  ·rw[if_pos rfl]
  ·rw[if_neg (by omega),if_neg (by omega),e5]
  ·rw[if_neg (by omega),if_neg (by omega),e6]
  ·rw[if_neg (by omega),if_neg (by omega),e7]
 ·rw[if_neg h1]
  by_cases h2:j=pa
  ·subst h2
   rw[if_pos rfl]
   have hr:=((hG.setOther (a:=⟨g,j*8+5,none⟩) (by simp;omega) (.slice (some ⟨kb', 0,none⟩) (ins (nd S j).ks i ch).length kc')).setOther (a:=⟨g,ch*8+4,none⟩) (by simp;omega) (.int .i64 j)).of_block (hup kb' hkb'2)
   refine⟨?_,?_,?_,?_,?_,⟨some ⟨kb', 0,none⟩,kc', ?_,zbI hr hkc hGk⟩,?_,?_⟩
   all_goals dsimp only
   ·rw[if_neg (by omega),if_neg (by omega),e0]
   ·rw[if_neg (by omega),if_neg (by omega),e1]
   ·rw[if_neg (by omega),if_neg (by omega),e2]
   ·rw[if_neg (by omega),if_neg (by omega),e3]
   ·rw[if_neg (by omega),if_neg (by omega),e4]
   ·rw[if_neg (by omega),if_pos rfl]
   ·rw[if_neg (by omega),if_neg (by omega),e6]
   ·rw[if_neg (by omega),if_neg (by omega),e7]
  ·rw[if_neg h2]
   have hr:w3.rowIs (kb j) 3 (kc j) G0 :=
    (((hG0.of_block (hW (kb j) hG0.lt (fun e=>h2 (hd j hj pa hpa e)))).setOther (by have:=hg j hj;simp;omega) _).setOther (by have:=hg j hj;simp;omega) _).of_block (hup (kb j) (Nat.le_of_lt (hg j hj)))
   refine⟨?_,?_,?_,?_,?_,⟨some ⟨kb j,0,none⟩,kc j,?_,zbI hr e8 e9⟩,?_,?_⟩
   all_goals
    rw[if_neg (by omega),if_neg (by omega)]
    assumption
end Go.Proofs.YtojlkdekdbdpoaaGreat
