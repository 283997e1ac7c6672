/-
  x
-/
import Derived.Test.YtojlkdekdbdpoaaGreatJDbDcDwhDe
import Derived.Test.YtojlkdekdbdpoaaGreatJDfRaRbRh
import Derived.Test.YtojlkdekdbdpoaaGreatJCbDa
import Derived.WalkKit
import Derived.ProofKit
import Derived.OpenShut
import Derived.ChangeOld
import Derived.Below
import Derived.Deep.Slices
import Derived.Lib.SmallJoins
import Derived.Test.YtojlkdekdbdpoaaGreatJTbSpTcTd
import Derived.Test.YtojlkdekdbdpoaaGreatJSfSgBa
namespace Go.Proofs.YtojlkdekdbdpoaaGreat
set_option maxRecDepth 100000
set_option maxHeartbeats 4000000
open Go.RowKit
set_option linter.unusedVariables false
def zpQ:Ac:=⟨0,0,0,0,0⟩
def ac(X:List Ac)(i:Nat):Ac:=X.getD i zpQ
def zmb(w:World)(a:Option Addr)(X:List Ac):Prop :=
 ∀ i,i<X.length→∃ b o,a=some ⟨b,o,none⟩∧w.cell? ⟨b,o+i*5,none⟩=some (.int .i64 (ac X i).k)∧w.cell? ⟨b,o+i*5+1,none⟩=some (.int .i64 (ac X i).a)∧w.cell? ⟨b,o+i*5+2,none⟩=some (.int .i64 (ac X i).b)∧w.cell? ⟨b,o+i*5+3,none⟩=some (.int .i64 (ac X i).c)∧w.cell? ⟨b,o+i*5+4,none⟩=some (.int .i64 (ac X i).n)
theorem zmb.below{w w' : World}{a:Option Addr}{X:List Ac}(h:zmb w a X)(hb:Below w.heap.size w w'):zmb w' a X:=fun i hi=>by
 obtain⟨b,o,e,c0,c1,c2,c3,c4⟩:=h i hi
 exact⟨b,o,e,keepC c0 hb,keepC c1 hb,keepC c2 hb,keepC c3 hb,keepC c4 hb⟩
def zpd(f:Nat):Prop:=∀ (S:List Nd) (p u:Int) (a:Option Addr) (c:Nat) (W:World),WF S→NdsAt W a S →
 Calls Tryz.prog f #[.agg #[.slice a S.length c],.agg #[.int .i64 p,.int .i64 u]] W fun e w' => ∃ (x:Nd) (ka:Option Addr) (kl kc:Nat),e=.returned (.tuple #[.agg #[.bool x.u,.int .i64 x.n,.int .i64 x.t,.int .i64 x.m,.int .i64 x.p,.slice ka kl kc,.int .i64 x.h,.bool x.c],.int .i64 (findE S p u)])∧Below W.heap.size W w' ∧(findE S p u=0→x=nd S p.toNat)∧(findE S p u≠0→x=zcC)
theorem zfo:zpd 87:=fun S p u a c W wf hW=>by
 have hN:S.length≤9223372036854775807:=by have:=wf.small;omega
 by_cases hE:findE S p u=0
 ·obtain⟨_,k,e,hk,hu,hkn⟩:=zbm hE
  subst e
  rw[Int.toNat_natCast,hE]
  exact(find_ok a c S k u W hN wf.big hW hk hE (by have:=zbb wf k hk;omega)).mono (fun e w' ⟨g,e1,hb,hi⟩=>⟨nd S k,_,_,_,e1,hb,fun _=>rfl,fun h=>absurd rfl h⟩)
 ·exact(zfk a c S p u _ W hN wf.big hW rfl hE).mono (fun e w' ⟨e1,hb⟩=>⟨zcC,_,_,_,e1,hb,fun h=>absurd h hE,fun _=>rfl⟩)
theorem zbS{W:World}{b t:Nat}{v0 v1:Value}(h:W.heap[b]?=some (.cells #[v0,v1] t (0,0))):W.cell? ⟨b,0,none⟩=some v0∧W.cell? ⟨b,1,none⟩=some v1∧b<W.heap.size :=
 ⟨by simp[World.cell?,h],by simp[World.cell?,h],zaz h⟩
end Go.Proofs.YtojlkdekdbdpoaaGreat

namespace Go.Proofs.YtojlkdekdbdpoaaGreat
set_option maxRecDepth 100000
set_option maxHeartbeats 4000000
open Go.ChangeShapes Go.WideShapes Go.ChangeAt Go.RowKit
set_option linter.unusedVariables false
variable {H:Type} {enc:TypeId × Value→H} {w:World} {base:Nat} {spare:Nat→Bool} {held:Bool}
theorem zmj:Tryz.prog.cellsOf 3=1:=by kernel_rfl
theorem zeM:Tryz.prog.cellsOf 73=2:=by kernel_rfl
theorem zgu{fuel:Nat}{cs:List Value}{x:DataW H × List MemPlace}(h:DataW.trod enc Tryz.prog w base spare held fuel 29 cs=some x) :
  ∃ ka kc,∃ ks:List Int,cs=[.slice ka ks.length kc]∧ks.length≤kc∧kc≤9223372036854775807∧zah w ka ks:=by
 rcases open_ints Tryz.underlying29 Tryz.underlying3 zmj h with ⟨rfl,_⟩ |⟨a,len,cap,zs,rfl,_,hl,hm,hz,_,hcell,_⟩
 ·exact⟨none,0,[],rfl,by simp,by omega,fun i hi=>absurd hi (Nat.not_lt_zero _)⟩
 ·have hlz:len≤zs.length:=by rw[hz];split <;> omega
  have htl:(zs.take len).length=len:=by rw[List.length_take];omega
  refine⟨some a,cap,zs.take len,by rw[htl],by rw[htl];exact hl,by unfold maxLen at hm;omega,fun i hi=>?_⟩
  rw[htl] at hi
  obtain⟨b,off,rfl,hc⟩:=ints_at hcell (by omega)
  refine⟨b,off,rfl,?_⟩
  rw[hc i (by omega),zad zs 0 (by omega),zad (zs.take len) 0 (by omega),List.getElem_take]
theorem zmw{fuel b o:Nat}{cs:List Value}{x:DataW H × List MemPlace}(h:DataW.trod enc Tryz.prog w base spare held fuel 73 cs=some x)(hc:∀ j,j<2→w.cell? ⟨b,o+j,none⟩=cs[j]?) :
  ∃ y:Cl,ClAt w b o y∧y.ks.length≤9223372036854775807:=by
 obtain⟨xs,n,_,_,hl,hxl,hf⟩:=DataW.trod_struct Tryz.underlying73 h
 rw[zeM] at hl
 match cs,hl with
 | [a0,a1],_ =>
  match xs,hxl with
  | [x0,x1],_ =>
   have g0:=hf 0 _ rfl
   have g1:=hf 1 _ rfl
   obtain⟨n1,e1,_⟩:=DataW.trod_int Tryz.underlying3 g0
   obtain⟨ka,kc,ks,e5,hk1,hk2,hI⟩:=zgu g1
   cases e1;cases e5
   exact⟨⟨n1,ks⟩,⟨hc 0 (by omega),ka,kc,hc 1 (by omega),hI⟩,by show ks.length≤_;omega⟩
theorem znE(len:Nat)(P:Nat→Cl→Prop)(h:∀ i,i<len→∃ x,P i x):∃ S:List Cl,S.length=len∧∀ i,i<len→P i (cl S i):=by
 induction len with
 | zero=>exact⟨[],rfl,fun i hi=>absurd hi (Nat.not_lt_zero _)⟩
 | succ n ih =>
  obtain⟨S,hl,hS⟩:=ih (fun i hi=>h i (by omega))
  obtain⟨x,hx⟩:=h n (by omega)
  refine⟨S++[x],by simp[hl],fun i hi=>?_⟩
  by_cases e:i=n
  ·subst e
   rw[zeL (by simp[hl])]
   simpa [hl] using hx
  ·have hi' : i<S.length:=by omega
   have:=hS i (by omega)
   rw[zeL hi'] at this
   rw[zeL (by simp;omega),List.getElem_append_left hi']
   exact this
theorem zkG{fuel:Nat}{cs:List Value}{x:DataW H × List MemPlace}(h:DataW.trod enc Tryz.prog w base spare held fuel 26 cs=some x) :
  ∃ a c,∃ S:List Cl,cs=[.slice a S.length c]∧S.length≤9223372036854775807∧BigC S∧ClsAt w a S:=by
 rcases Go.Deep.open_slice Tryz.underlying26 h with ⟨rfl,_⟩ |⟨a,len,cap,m,n,D,Pl,rfl,_,hl,hm,hmm,_,hx⟩
 ·exact⟨none,0,[],rfl,by simp,fun i hi=>absurd hi (Nat.not_lt_zero _),fun i hi=>absurd hi (Nat.not_lt_zero _)⟩
 ·have hlm:len≤m:=by rw[hmm];split <;> omega
  obtain⟨ab,ao,spot⟩:=a
  by_cases h0:len=0
  ·subst h0
   exact⟨_,cap,[],rfl,by simp,fun i hi=>absurd hi (Nat.not_lt_zero _),fun i hi=>absurd hi (Nat.not_lt_zero _)⟩
  ·have hsp:spot=none:=by
    obtain⟨cs', hc,ht⟩:=hx 0 (by omega)
    rw[zeM] at hc
    obtain⟨_,hl8,hce⟩:=World.cells?_some hc
    have h1:=hce 0 (by omega)
    rw[List.getElem?_eq_getElem (by omega)] at h1
    simpa [Addr.add] using World.cell?_spot h1
   subst hsp
   obtain⟨S,hS1,hS2⟩:=znE len (fun i x=>ClAt w ab (ao+i*2) x∧x.ks.length≤9223372036854775807) (fun i hi=>by
    obtain⟨cs', hc,ht⟩:=hx i (by omega)
    rw[zeM] at hc
    obtain⟨_,hl8,hce⟩:=World.cells?_some hc
    refine zmw ht (fun j hj=>?_)
    have h1:=hce j hj
    rwa [add_plain,add_plain] at h1)
   exact⟨some ⟨ab,ao,none⟩,cap,S,by rw[hS1],by rw[hS1];unfold maxLen at hm;omega,fun i hi=>(hS2 i (by omega)).2,fun i hi=>⟨ab,ao,rfl,(hS2 i (by omega)).1⟩⟩
end Go.Proofs.YtojlkdekdbdpoaaGreat

namespace Go.Proofs.YtojlkdekdbdpoaaGreat
set_option maxRecDepth 100000
set_option maxHeartbeats 4000000
open Go.ChangeShapes Go.WideShapes Go.ChangeAt Go.RowKit
set_option linter.unusedVariables false
variable {H:Type} {enc:TypeId × Value→H} {w:World} {base:Nat} {spare:Nat→Bool} {held:Bool}
theorem zpk:Tryz.prog.cellsOf 3=1:=by kernel_rfl
theorem zha:Tryz.prog.cellsOf 44=8:=by kernel_rfl
theorem zkP{fuel:Nat}{cs:List Value}{x:DataW H × List MemPlace}(h:DataW.trod enc Tryz.prog w base spare held fuel 29 cs=some x) :
  ∃ ka kc,∃ ks:List Int,cs=[.slice ka ks.length kc]∧ks.length≤9223372036854775807∧zah w ka ks:=by
 rcases open_ints Tryz.underlying29 Tryz.underlying3 zpk h with ⟨rfl,_⟩ |⟨a,len,cap,zs,rfl,_,hl,hm,hz,_,hcell,_⟩
 ·exact⟨none,0,[],rfl,by simp,fun i hi=>absurd hi (Nat.not_lt_zero _)⟩
 ·have hlz:len≤zs.length:=by rw[hz];split <;> omega
  have htl:(zs.take len).length=len:=by rw[List.length_take];omega
  refine⟨some a,cap,zs.take len,by rw[htl],by rw[htl];unfold maxLen at hm;omega,fun i hi=>?_⟩
  rw[htl] at hi
  obtain⟨b,off,rfl,hc⟩:=ints_at hcell (by omega)
  refine⟨b,off,rfl,?_⟩
  rw[hc i (by omega),zad zs 0 (by omega),zad (zs.take len) 0 (by omega),List.getElem_take]
theorem zkE{fuel b o:Nat}{cs:List Value}{x:DataW H × List MemPlace}(h:DataW.trod enc Tryz.prog w base spare held fuel 44 cs=some x)(hc:∀ j,j<8→w.cell? ⟨b,o+j,none⟩=cs[j]?) :
  ∃ nd:Nd,NdAt w b o nd∧nd.ks.length≤9223372036854775807:=by
 obtain⟨xs,n,_,_,hl,hxl,hf⟩:=DataW.trod_struct Tryz.underlying44 h
 rw[zha] at hl
 match cs,hl with
 | [a0,a1,a2,a3,a4,a5,a6,a7],_ =>
  match xs,hxl with
  | [x0,x1,x2,x3,x4,x5,x6,x7],_ =>
   have g0:=hf 0 _ rfl
   have g1:=hf 1 _ rfl
   have g2:=hf 2 _ rfl
   have g3:=hf 3 _ rfl
   have g4:=hf 4 _ rfl
   have g5:=hf 5 _ rfl
   have g6:=hf 6 _ rfl
   have g7:=hf 7 _ rfl
   obtain⟨u,e0,_⟩:=DataW.trod_bool Tryz.underlying4 g0
   obtain⟨n1,e1,_⟩:=DataW.trod_int Tryz.underlying3 g1
   obtain⟨n2,e2,_⟩:=DataW.trod_int Tryz.underlying3 g2
   obtain⟨n3,e3,_⟩:=DataW.trod_int Tryz.underlying3 g3
   obtain⟨n4,e4,_⟩:=DataW.trod_int Tryz.underlying3 g4
   obtain⟨ka,kc,ks,e5,hks,hI⟩:=zkP g5
   obtain⟨n6,e6,_⟩:=DataW.trod_int Tryz.underlying3 g6
   obtain⟨u7,e7,_⟩:=DataW.trod_bool Tryz.underlying4 g7
   cases e0;cases e1;cases e2;cases e3;cases e4;cases e5;cases e6;cases e7
   refine⟨⟨u,n1,n2,n3,n4,ks,n6,u7⟩,⟨?_,?_,?_,?_,?_,⟨ka,kc,?_,hI⟩,?_,?_⟩,hks⟩
   ·exact hc 0 (by omega)
   ·exact hc 1 (by omega)
   ·exact hc 2 (by omega)
   ·exact hc 3 (by omega)
   ·exact hc 4 (by omega)
   ·exact hc 5 (by omega)
   ·exact hc 6 (by omega)
   ·exact hc 7 (by omega)
theorem znD(len:Nat)(P:Nat→Nd→Prop)(h:∀ i,i<len→∃ x,P i x):∃ S:List Nd,S.length=len∧∀ i,i<len→P i (nd S i):=by
 induction len with
 | zero=>exact⟨[],rfl,fun i hi=>absurd hi (Nat.not_lt_zero _)⟩
 | succ n ih =>
  obtain⟨S,hl,hS⟩:=ih (fun i hi=>h i (by omega))
  obtain⟨x,hx⟩:=h n (by omega)
  refine⟨S++[x],by simp[hl],fun i hi=>?_⟩
  by_cases e:i=n
  ·subst e
   rw[zaF (by simp[hl])]
   simpa [hl] using hx
  ·have hi' : i<S.length:=by omega
   have:=hS i (by omega)
   rw[zaF hi'] at this
   rw[zaF (by simp;omega),List.getElem_append_left hi']
   exact this
theorem ziy{fuel:Nat}{cs:List Value}{x:DataW H × List MemPlace}(h:DataW.trod enc Tryz.prog w base spare held fuel 22 cs=some x) :
  ∃ a c,∃ S:List Nd,cs=[.slice a S.length c]∧S.length≤9223372036854775807∧Big S∧NdsAt w a S:=by
 rcases Go.Deep.open_slice Tryz.underlying22 h with ⟨rfl,_⟩ |⟨a,len,cap,m,n,D,Pl,rfl,_,hl,hm,hmm,_,hx⟩
 ·exact⟨none,0,[],rfl,by simp,fun i hi=>absurd hi (Nat.not_lt_zero _),fun i hi=>absurd hi (Nat.not_lt_zero _)⟩
 ·have hlm:len≤m:=by rw[hmm];split <;> omega
  obtain⟨ab,ao,spot⟩:=a
  by_cases h0:len=0
  ·subst h0
   exact⟨_,cap,[],rfl,by simp,fun i hi=>absurd hi (Nat.not_lt_zero _),fun i hi=>absurd hi (Nat.not_lt_zero _)⟩
  ·have hsp:spot=none:=by
    obtain⟨cs', hc,ht⟩:=hx 0 (by omega)
    rw[zha] at hc
    obtain⟨_,hl8,hce⟩:=World.cells?_some hc
    have h1:=hce 0 (by omega)
    rw[List.getElem?_eq_getElem (by omega)] at h1
    simpa [Addr.add] using World.cell?_spot h1
   subst hsp
   obtain⟨S,hS1,hS2⟩:=znD len (fun i x=>NdAt w ab (ao+i*8) x∧x.ks.length≤9223372036854775807) (fun i hi=>by
    obtain⟨cs', hc,ht⟩:=hx i (by omega)
    rw[zha] at hc
    obtain⟨_,hl8,hce⟩:=World.cells?_some hc
    refine zkE ht (fun j hj=>?_)
    have h1:=hce j hj
    rwa [add_plain,add_plain] at h1)
   exact⟨some ⟨ab,ao,none⟩,cap,S,by rw[hS1],by rw[hS1];unfold maxLen at hm;omega,fun i hi=>(hS2 i (by omega)).2,fun i hi=>⟨ab,ao,rfl,(hS2 i (by omega)).1⟩⟩
theorem zgj:Tryz.prog.cellsOf 60=2:=by kernel_rfl
theorem znm(len:Nat)(P:Nat→Int × Int→Prop)(h:∀ i,i<len→∃ x,P i x):∃ S:List (Int × Int),S.length=len∧∀ i,i<len→P i (S.getD i (0,0)):=by
 induction len with
 | zero=>exact⟨[],rfl,fun i hi=>absurd hi (Nat.not_lt_zero _)⟩
 | succ n ih =>
  obtain⟨S,hl,hS⟩:=ih (fun i hi=>h i (by omega))
  obtain⟨x,hx⟩:=h n (by omega)
  refine⟨S++[x],by simp[hl],fun i hi=>?_⟩
  by_cases e:i=n
  ·subst e
   rw[zad _ _ (by simp[hl])]
   simpa [hl] using hx
  ·have hi' : i<S.length:=by omega
   have:=hS i (by omega)
   rw[zad _ _ hi'] at this
   rw[zad _ _ (by simp;omega),List.getElem_append_left hi']
   exact this
theorem zji:Tryz.prog.cellsOf 31=4:=by kernel_rfl
theorem zni:Tryz.prog.cellsOf 33=5:=by kernel_rfl
theorem zjf{fuel:Nat}{cs:List Value}{x:DataW H × List MemPlace}(h:DataW.trod enc Tryz.prog w base spare held fuel 25 cs=some x) :
  ∃ a c,∃ S:List (Int × Int),cs=[.slice a S.length c]∧S.length≤9223372036854775807∧zak w a S:=by
 rcases Go.Deep.open_slice Tryz.underlying25 h with ⟨rfl,_⟩ |⟨a,len,cap,m,n,D,Pl,rfl,_,hl,hm,hmm,_,hx⟩
 ·exact⟨none,0,[],rfl,by simp,fun i hi=>absurd hi (Nat.not_lt_zero _)⟩
 ·have hlm:len≤m:=by rw[hmm];split <;> omega
  obtain⟨ab,ao,spot⟩:=a
  by_cases h0:len=0
  ·subst h0
   exact⟨_,cap,[],rfl,by simp,fun i hi=>absurd hi (Nat.not_lt_zero _)⟩
  ·have hsp:spot=none:=by
    obtain⟨cs', hc,ht⟩:=hx 0 (by omega)
    rw[zgj] at hc
    obtain⟨_,hl8,hce⟩:=World.cells?_some hc
    have h1:=hce 0 (by omega)
    rw[List.getElem?_eq_getElem (by omega)] at h1
    simpa [Addr.add] using World.cell?_spot h1
   subst hsp
   obtain⟨S,hS1,hS2⟩:=znm len (fun i x=>w.cell? ⟨ab,ao+i*2,none⟩=some (.int .i64 x.1)∧w.cell? ⟨ab,ao+i*2+1,none⟩=some (.int .i64 x.2)) (fun i hi=>by
    obtain⟨cs', hc,ht⟩:=hx i (by omega)
    rw[zgj] at hc
    obtain⟨_,hl2,hce⟩:=World.cells?_some hc
    obtain⟨xs,n', _,_,hl', hxl,hf'⟩:=DataW.trod_struct Tryz.underlying60 ht
    match cs', hl2 with
    | [a0,a1],_ =>
     match xs,hxl with
     | [x0,x1],_ =>
      have g0:=hf' 0 _ rfl
      have g1:=hf' 1 _ rfl
      obtain⟨n0,e0,_⟩:=DataW.trod_int Tryz.underlying3 g0
      obtain⟨n1,e1,_⟩:=DataW.trod_int Tryz.underlying3 g1
      cases e0;cases e1
      refine⟨(n0,n1),?_,?_⟩
      ·have h1:=hce 0 (by omega)
       rwa [add_plain,add_plain] at h1
      ·have h1:=hce 1 (by omega)
       rwa [add_plain,add_plain] at h1)
   exact⟨some ⟨ab,ao,none⟩,cap,S,by rw[hS1],by rw[hS1];unfold maxLen at hm;omega,fun i hi=>⟨ab,ao,rfl,(hS2 i (by omega)).1,(hS2 i (by omega)).2⟩⟩
theorem zmJ{fuel:Nat}{cs:List Value}{x:DataW H × List MemPlace}(h:DataW.trod enc Tryz.prog w base spare held fuel 33 cs=some x) :
  ∃ y:Ac,cs=[.int .i64 y.k,.int .i64 y.a,.int .i64 y.b,.int .i64 y.c,.int .i64 y.n]:=by
 obtain⟨xs,n,_,_,hl,hxl,hf⟩:=DataW.trod_struct Tryz.underlying33 h
 rw[zni] at hl
 match cs,hl with
 | [a0,a1,a2,a3,a4],_ =>
  match xs,hxl with
  | [x0,x1,x2,x3,x4],_ =>
   obtain⟨n0,e0,_⟩:=DataW.trod_int Tryz.underlying3 (hf 0 _ rfl)
   obtain⟨n1,e1,_⟩:=DataW.trod_int Tryz.underlying3 (hf 1 _ rfl)
   obtain⟨n2,e2,_⟩:=DataW.trod_int Tryz.underlying3 (hf 2 _ rfl)
   obtain⟨n3,e3,_⟩:=DataW.trod_int Tryz.underlying3 (hf 3 _ rfl)
   obtain⟨n4,e4,_⟩:=DataW.trod_int Tryz.underlying3 (hf 4 _ rfl)
   cases e0;cases e1;cases e2;cases e3;cases e4
   exact⟨⟨n0,n1,n2,n3,n4⟩,rfl⟩
theorem ziq{fuel:Nat}{cs:List Value}{x:DataW H × List MemPlace}(h:DataW.trod enc Tryz.prog w base spare held fuel 31 cs=some x) :
  ∃ (A:RA) (R:Rl),cs=[.slice A.a0 R.s.length A.c0,.slice A.a1 R.hs.length A.c1,.slice A.a2 R.i.length A.c2,.slice A.a3 R.t.length A.c3]∧BigR R∧RlAt w A R:=by
 obtain⟨xs,n,_,_,hl,hxl,hf⟩:=DataW.trod_struct Tryz.underlying31 h
 rw[zji] at hl
 match cs,hl with
 | [v0,v1,v2,v3],_ =>
  match xs,hxl with
  | [x0,x1,x2,x3],_ =>
   have g0:=hf 0 _ rfl
   have g1:=hf 1 _ rfl
   have g2:=hf 2 _ rfl
   have g3:=hf 3 _ rfl
   obtain⟨_,_,_,_,s0⟩:=trod_struct1 Tryz.underlying24 g0
   obtain⟨_,_,_,_,s2⟩:=trod_struct1 Tryz.underlying28 g2
   obtain⟨a0,c0,S,e0,n0,b0,h0⟩:=ziy s0
   obtain⟨a1,c1,HS,e1,n1,h1⟩:=zjf g1
   obtain⟨a2,c2,I,e2,n2,b2,h2⟩:=zkG s2
   obtain⟨a3,c3,O,e3,n3,m3,h3⟩:=zgu g3
   cases e0;cases e1;cases e2;cases e3
   exact⟨⟨a0,a1,a2,a3,c0,c1,c2,c3⟩,⟨S,HS,I,O⟩,rfl,⟨n0,b0,n1,n2,b2,by show O.length≤_;omega⟩,h0,h1,h2,h3⟩
theorem zgk{r:Reach}{b0:Nat}{v:Value}{d:DataW H}{p:List MemPlace}(hv:Value.okWide Tryz.prog w r b0 31 v)(h:DataW.Trod enc Tryz.prog w base spare held 31 v d p) :
  ∃ (A:RA) (R:Rl),v=rlV A R∧BigR R∧RlAt w A R:=by
 obtain⟨cs,rfl,hsz⟩:=okWide_struct Tryz.underlying31 hv
 obtain⟨fuel,hf⟩:=h
 obtain⟨A,R,e,hB,hR⟩:=ziq hf
 refine⟨A,R,?_,hB,hR⟩
 have e2:cs.toList=_:=e
 rw[show cs=cs.toList.toArray from by simp,e2]
theorem zoI{r:Reach}{b0:Nat}{v:Value}{d:DataW H}{p:List MemPlace}(hv:Value.okWide Tryz.prog w r b0 33 v)(h:DataW.Trod enc Tryz.prog w base spare held 33 v d p) :
  ∃ y:Ac,v=acV y:=by
 obtain⟨cs,rfl,hsz⟩:=okWide_struct Tryz.underlying33 hv
 obtain⟨fuel,hf⟩:=h
 obtain⟨y,e⟩:=zmJ hf
 refine⟨y,?_⟩
 have e2:cs.toList=_:=e
 rw[show cs=cs.toList.toArray from by simp,e2]
end Go.Proofs.YtojlkdekdbdpoaaGreat

namespace Go.Proofs.YtojlkdekdbdpoaaGreat
set_option maxRecDepth 100000
set_option maxHeartbeats 4000000
open Go.RowKit
set_option linter.unusedVariables false
theorem natH{x:Int}(h:isH x):∃ p:Nat,x=p∧p<16:=⟨x.toNat,by have:=h.1;omega,by have:=h.2;have:=h.1;omega⟩
theorem zcP{w W:World}{t:Nat}{v0 v1 v2 v3:Value}(hb:Below (w.heap.size+1) (w.alloc (.cells #[v0,v1,v2,v3] t)) W):W.heap[w.heap.size]?=some (.cells #[v0,v1,v2,v3] t (0,0)):=(hb.block _ (Nat.lt_succ_self _)).trans (zbE _ _ _ _ _ _)
theorem zcM:zhF:=fun A R w hB hW=>by
 obtain⟨a0,a1,a2,a3,c0,c1,c2,c3⟩:=A
 obtain⟨hN,hBS,hH,hI,hBC,hT⟩:=hB
 obtain⟨w0,w1,w2,w3⟩:=hW
 have D0:Hid (∀ o1,_):=fun o1=>zcO a0 c0 R.s (w.alloc o1) hN hBS (w0.below (zab _ _))
 have D1:Hid (∀ W,Below w.heap.size w W→_):=fun W hW=>zkt a2 c2 R.i W hI hBC (w2.below hW)
 clear w0 w1 w2 w3 hBS hBC
 dsimp only[rlV]
 unfold zay
 obtain⟨E0,h0⟩:∃ E,zaA R.s=E:=⟨_,rfl⟩
 obtain⟨E1,h1⟩:∃ E,zbB R.i=E:=⟨_,rfl⟩
 rw[h0] at D0 ⊢
 rw[h1] at D1 ⊢
 clear h0 h1
 generalize R.s.length=n0 at *
 generalize R.i.length=n2 at *
 generalize R.t.length=n3 at *
 generalize R.hs.length=n1 at *
 by_cases e0:E0=0
 ·subst e0
  rw[if_pos rfl]
  by_cases e1:n1=16
  ·subst e1
   rw[if_pos rfl]
   by_cases e2:E1=0
   ·subst e2
    rw[if_pos rfl]
    by_cases e3:4800<n3
    ·rw[if_pos e3]
     have e3' :(4800:Int)<(n3:Int):=by omega
     go_enter Tryz.func8,Tryz.ntmps8
     go_wp2_with fail
     refine Calls.mono (D0.out _) ?_
     rintro e V ⟨rfl,hb⟩
     have HB:Hid (Below w.heap.size w V):=(zab w _).trans (hb.mono (by simp))
     simp only[World.size_alloc] at hb
     have HX:Hid _:=zcP hb
     obtain⟨l0,l1,l2,l3,fz,lt⟩:=zaa HX.out
     clear hb D0
     go_wp2_with fail
     refine Calls.mono (D1.out _ HB.out) ?_
     rintro e V2 ⟨rfl,hb⟩
     have HB2:Hid (Below w.heap.size w V2):=HB.out.trans (hb.mono HB.out.size)
     have HX2:Hid _:=keepB HX.out hb
     clear l0 l1 l2 l3 fz lt
     obtain⟨l0,l1,l2,l3,fz,lt⟩:=zaa HX2.out
     clear hb D1
     go_wp2
     go_ret
     exact⟨rfl,HB2.out⟩
    ·rw[if_neg e3]
     have e3' : ¬ (4800:Int)<(n3:Int):=by omega
     go_enter Tryz.func8,Tryz.ntmps8
     go_wp2_with fail
     refine Calls.mono (D0.out _) ?_
     rintro e V ⟨rfl,hb⟩
     have HB:Hid (Below w.heap.size w V):=(zab w _).trans (hb.mono (by simp))
     simp only[World.size_alloc] at hb
     have HX:Hid _:=zcP hb
     obtain⟨l0,l1,l2,l3,fz,lt⟩:=zaa HX.out
     clear hb D0
     go_wp2_with fail
     refine Calls.mono (D1.out _ HB.out) ?_
     rintro e V2 ⟨rfl,hb⟩
     have HB2:Hid (Below w.heap.size w V2):=HB.out.trans (hb.mono HB.out.size)
     have HX2:Hid _:=keepB HX.out hb
     clear l0 l1 l2 l3 fz lt
     obtain⟨l0,l1,l2,l3,fz,lt⟩:=zaa HX2.out
     clear hb D1
     go_wp2
     go_ret
     exact⟨rfl,HB2.out⟩
   ·rw[if_neg e2]
    have hz:(E1 == 0)=false:=by simp[e2]
    go_enter Tryz.func8,Tryz.ntmps8
    go_wp2_with fail
    refine Calls.mono (D0.out _) ?_
    rintro e V ⟨rfl,hb⟩
    have HB:Hid (Below w.heap.size w V):=(zab w _).trans (hb.mono (by simp))
    simp only[World.size_alloc] at hb
    have HX:Hid _:=zcP hb
    obtain⟨l0,l1,l2,l3,fz,lt⟩:=zaa HX.out
    clear hb D0
    go_wp2_with fail
    refine Calls.mono (D1.out _ HB.out) ?_
    rintro e V2 ⟨rfl,hb⟩
    have HB2:Hid (Below w.heap.size w V2):=HB.out.trans (hb.mono HB.out.size)
    clear l0 l1 l2 l3 fz lt hb D1
    go_wp2
    go_ret
    exact⟨rfl,HB2.out⟩
  ·rw[if_neg e1]
   have e1' : ¬ ((n1:Int)=16):=by omega
   have hz:((n1:Int) == 16)=false:=by simp[e1']
   go_enter Tryz.func8,Tryz.ntmps8
   go_wp2_with fail
   refine Calls.mono (D0.out _) ?_
   rintro e V ⟨rfl,hb⟩
   have HB:Hid (Below w.heap.size w V):=(zab w _).trans (hb.mono (by simp))
   simp only[World.size_alloc] at hb
   have HX:Hid _:=zcP hb
   obtain⟨l0,l1,l2,l3,fz,lt⟩:=zaa HX.out
   clear hb D0 D1
   go_wp2
   go_ret
   exact⟨rfl,HB.out⟩
 ·rw[if_neg e0]
  have hz:(E0 == 0)=false:=by simp[e0]
  go_enter Tryz.func8,Tryz.ntmps8
  go_wp2_with fail
  refine Calls.mono (D0.out _) ?_
  rintro e V ⟨rfl,hb⟩
  have HB:Hid (Below w.heap.size w V):=(zab w _).trans (hb.mono (by simp))
  clear hb D0 D1
  go_wp2
  go_ret
  exact⟨rfl,HB.out⟩
theorem zpy(p:Int)(w:World)(hp:p<0∨24<p) :
  Calls Tryz.prog 13 #[.int .i64 p] w fun e w' => e=.returned (.tuple #[.agg #[.slice none 0 0],.int .i64 2])∧Below w.heap.size w w' := by
 go_enter Tryz.func13,Tryz.ntmps13
 go_wp2_with (go_at_call 39;refine(zeu _ _ _ _ hp).mono ?_;rintro e w' ⟨rfl,rfl⟩)
 first
  |(go_ret;exact⟨rfl,Below.refl _ _⟩)
  |(go_ret;exact⟨rfl,(Below.refl _ _).alloc (Nat.le_refl _) _⟩)
  |(refine bodyPost_ret (v:=.tuple #[.agg #[.slice none 0 0],.int .i64 2]) (by simp[results,Tryz.results13,go_sem]) rfl ⟨rfl,?_⟩;first|exact(Below.refl _ _).alloc (Nat.le_refl _) _|exact((Below.refl _ _).alloc (Nat.le_refl _) _).setCell (by simp) _|exact(((Below.refl _ _).alloc (Nat.le_refl _) _).setCell (by simp) _).drew)
theorem zpz:zjX:=fun p w=>by
 by_cases hp:0≤p∧p≤24
 ·have e1:newR p=⟨List.replicate p.toNat zaM,List.replicate 16 (0,0),[],[]⟩:=if_pos hp
  have e2:newE p=0:=if_pos hp
  rw[e1,e2]
  clear e1 e2
  obtain⟨n,rfl⟩:∃ n:Nat,p=n:=⟨p.toNat,by omega⟩
  rw[Int.toNat_natCast]
  have D:Hid (∀ o1,_):=fun o1=>zoX n (w.alloc o1) (by omega)
  clear hp
  have hmk:=zej
  go_enter Tryz.func4,Tryz.ntmps4
  go_wp2_with fail
  refine Calls.mono (D.out _) ?_
  rintro e V ⟨g,rfl,hb,hn⟩
  have HB:Hid (Below w.heap.size w V):=(zab w _).trans (hb.mono (by simp))
  have HN:Hid (NdsAt V (some ⟨g,0,none⟩) (List.replicate n zaM)):=hn
  simp only[World.size_alloc] at hb
  have HX:Hid _:=zcP hb
  obtain⟨l0,l1,l2,l3,fz,lt⟩:=zaa HX.out
  clear hb D hn
  go_wp2_with fail
  go_region
  go_wp2
  have SL:Hid (SlB V w.heap.size):=zgl HX.out ⟨_,_,_,rfl⟩ ⟨_,_,_,rfl⟩ ⟨_,_,_,rfl⟩ ⟨_,_,_,rfl⟩
  obtain⟨X,hX⟩:∃ X,(((V.setCell ⟨w.heap.size,0,none⟩ (.slice (some ⟨g,0,none⟩) n n)).setCell ⟨w.heap.size,1,none⟩ (.slice (some ⟨V.heap.size+1,0,none⟩) 16 16)).setCell ⟨w.heap.size,2,none⟩ (.slice none 0 0)).setCell ⟨w.heap.size,3,none⟩ (.slice none 0 0)=X:=⟨_,rfl⟩
  have x0:X.heap[w.heap.size]?=some (.cells #[.slice (some ⟨g,0,none⟩) n n,.slice (some ⟨V.heap.size+1,0,none⟩) 16 16,.slice none 0 0,.slice none 0 0] 31 (0,0)):=by rw[← hX];exact zbc HX.out
  have x1:NdsAt X (some ⟨g,0,none⟩) (List.replicate n zaM):=by rw[← hX];exact HN.out.offB SL.out (OffB.refl _ _).set.set.set.set
  have x2:X.heap.size=V.heap.size:=by rw[← hX];simp
  have x3:Below w.heap.size w X:=by rw[← hX];exact(((HB.out.setCell (Nat.le_refl _) _).setCell (Nat.le_refl _) _).setCell (Nat.le_refl _) _).setCell (Nat.le_refl _) _
  rw[hX]
  clear hX
  have x4:=zdM (X.alloc (Obj.cells #[Value.slice (some ⟨g,0,none⟩) n n] 24))
  rw[World.size_alloc,x2] at x4
  have b2:=(zaf X (Obj.cells #[Value.slice (some ⟨g,0,none⟩) n n] 24) (Obj.cells (madeCells #[Value.int IntKind.i64 0,Value.int IntKind.i64 0] 32) 60)).drew
  have x5:=keepB x0 b2
  obtain⟨m0,m1,m2,m3,mf,ml⟩:=zaa x5
  refine bodyPost_ret (v:=.tuple #[.agg #[.slice (some ⟨g,0,none⟩) n n,.slice (some ⟨V.heap.size+1,0,none⟩) 16 16,.slice none 0 0,.slice none 0 0],.int .i64 0]) (by simp[results,Tryz.results4,go_sem,m0,m1,m2,m3]) rfl ⟨⟨some ⟨g,0,none⟩,some ⟨V.heap.size+1,0,none⟩,none,none,n,16,0,0⟩,by simp[rlV],x3.trans (b2.mono x3.size),x1.below b2,x4.below (Below.refl _ _).drew,fun _ h=>absurd h (Nat.not_lt_zero _),fun _ h=>absurd h (Nat.not_lt_zero _)⟩
 ·have e1:newR p=zaR:=if_neg hp
  have e2:newE p=2:=if_neg hp
  rw[e1,e2]
  clear e1 e2
  have D:Hid (∀ o1,_):=fun o1=>zpy p (w.alloc o1) (by omega)
  clear hp
  go_enter Tryz.func4,Tryz.ntmps4
  go_wp2_with fail
  refine Calls.mono (D.out _) ?_
  rintro e V ⟨rfl,hb⟩
  have HB:Hid (Below w.heap.size w V):=(zab w _).trans (hb.mono (by simp))
  simp only[World.size_alloc] at hb
  have HX:Hid _:=zcP hb
  obtain⟨l0,l1,l2,l3,fz,lt⟩:=zaa HX.out
  clear hb D
  go_wp2
  obtain⟨X,hX⟩:∃ X,(((V.setCell ⟨w.heap.size,0,none⟩ (.slice none 0 0)).setCell ⟨w.heap.size,1,none⟩ (.slice none 0 0)).setCell ⟨w.heap.size,2,none⟩ (.slice none 0 0)).setCell ⟨w.heap.size,3,none⟩ (.slice none 0 0)=X:=⟨_,rfl⟩
  have x0:X.heap[w.heap.size]?=some (.cells #[.slice none 0 0,.slice none 0 0,.slice none 0 0,.slice none 0 0] 31 (0,0)):=by rw[← hX];exact zbc HX.out
  have x3:Below w.heap.size w X:=by rw[← hX];exact(((HB.out.setCell (Nat.le_refl _) _).setCell (Nat.le_refl _) _).setCell (Nat.le_refl _) _).setCell (Nat.le_refl _) _
  rw[hX]
  clear hX
  have b2:=zab X (Obj.cells #[Value.slice none 0 0] 24)
  have x5:=keepB x0 b2
  obtain⟨m0,m1,m2,m3,mf,ml⟩:=zaa x5
  refine bodyPost_ret (v:=.tuple #[.agg #[.slice none 0 0,.slice none 0 0,.slice none 0 0,.slice none 0 0],.int .i64 2]) (by simp[results,Tryz.results4,go_sem,m0,m1,m2,m3]) rfl ⟨⟨none,none,none,none,0,0,0,0⟩,rfl,x3.trans (b2.mono x3.size),zaI _ _⟩
theorem zcf(A:RA)(R:Rl)(k:Int)(w:World)(hl:R.hs.length=16) :
  Calls Tryz.prog 14 #[rlV A R,.int .i64 k] w fun e w' => e=.returned (.bool (decide (isH k)))∧Below w.heap.size w w' := by
 dsimp only[rlV]
 rw[hl]
 have D:Hid (∀ W,Calls _ _ _ _ _):=fun W=>zaU k 0 15 W
 have hd:decide (0≤k∧k≤15)=decide (isH k):=rfl
 rw[hd] at D
 clear hd hl
 generalize decide (isH k)=r at *
 go_enter Tryz.func14,Tryz.ntmps14
 go_wp2_with fail
 refine Calls.mono (D.out _) ?_
 rintro e V ⟨rfl,hw⟩
 subst hw
 go_wp2
 go_ret
 exact⟨rfl,zab _ _⟩
end Go.Proofs.YtojlkdekdbdpoaaGreat

namespace Go.Proofs.YtojlkdekdbdpoaaGreat
open Go.RowKit Go.ChangeShapes Go.WideShapes
set_option linter.unusedVariables false
structure OffX (X:Nat→Prop) (w w' : World):Prop where
 size:w.heap.size≤w'.heap.size
 block:∀ b,b<w.heap.size→¬ X b→w'.heap[b]?=w.heap[b]?
theorem OffX.refl(X:Nat→Prop)(w:World):OffX X w w:=⟨Nat.le_refl _,fun _ _ _=>rfl⟩
theorem OffX.of_below{X:Nat→Prop}{w w' : World}(h:Below w.heap.size w w'):OffX X w w' :=⟨h.size,fun b hb _=>h.block b hb⟩
theorem OffX.trans{X:Nat→Prop}{w w' w'' : World}(h:OffX X w w')(k:OffX X w' w''):OffX X w w'' :=⟨Nat.le_trans h.size k.size,fun b hb hx=>(k.block b (Nat.lt_of_lt_of_le hb h.size) hx).trans (h.block b hb hx)⟩
theorem OffX.set{X:Nat→Prop}(w:World){b o:Nat}(v:Value)(h:X b):OffX X w (w.setCell ⟨b,o,none⟩ v):=⟨by simp,fun k _ hk=>Below.heap_setCell _ _ _ _ (fun e=>hk (by rw[e];exact h))⟩
theorem OffX.grown{X:Nat→Prop}{w w' : World}{r:Option Nat}(h:w.grownBy w' r)(hx:∀ b,r=some b→X b):OffX X w w' :=⟨h.size,fun k hk hn=>h.block k hk (fun e=>hn (hx k e.symm))⟩
def ClsSt(X:Nat→Prop)(w:World)(a:Option Addr)(G:List Cl):Prop:=∀ w', OffX X w w' → ClsAt w' a G
theorem ClsSt.at{X:Nat→Prop}{w:World}{a:Option Addr}{G:List Cl}(h:ClsSt X w a G):ClsAt w a G:=h w (OffX.refl X w)
theorem ClsSt.off{X:Nat→Prop}{w w' : World}{a:Option Addr}{G:List Cl}(h:ClsSt X w a G)(ho:OffX X w w'):ClsSt X w' a G:=fun w'' h2=>h w'' (ho.trans h2)
theorem zjo{X Y:Nat→Prop}{w w1 w' : World}(hs:w.heap.size≤w1.heap.size)(hb:∀ b,b<w.heap.size→¬ X b→w1.heap[b]?=w.heap[b]?)(hY:∀ b,b<w.heap.size→Y b→X b)(h:OffX Y w1 w'):OffX X w w' :=⟨Nat.le_trans hs h.size,fun b h1 h2=>(h.block b (Nat.lt_of_lt_of_le h1 hs) (fun hy=>h2 (hY b h1 hy))).trans (hb b h1 h2)⟩
theorem ClsSt.grow{X Y:Nat→Prop}{w w1:World}{a:Option Addr}{G:List Cl}(h:ClsSt X w a G)(ho:OffX X w w1)(hY:∀ b,b<w.heap.size→Y b→X b):ClsSt Y w1 a G:=fun w' h2=>h w' (zjo ho.size ho.block hY h2)
theorem OffX.mono{X Y:Nat→Prop}{w w' : World}(h:OffX X w w')(hXY:∀ b,X b→Y b):OffX Y w w' :=⟨h.size,fun b hb hy=>h.block b hb (fun hx=>hy (hXY b hx))⟩
def St(X:Nat→Prop)(P:World→Prop)(w:World):Prop:=∀ w', OffX X w w' → P w'
theorem St.off{X:Nat→Prop}{P:World→Prop}{w w' : World}(h:St X P w)(ho:OffX X w w'):St X P w' := fun w'' h2=>h w'' (ho.trans h2)
theorem St.at{X:Nat→Prop}{P:World→Prop}{w:World}(h:St X P w):P w:=h w (OffX.refl X w)
theorem St.less{X Y:Nat→Prop}{P:World→Prop}{w:World}(h:St Y P w)(hXY:∀ b,X b→Y b):St X P w:=fun w' ho=>h w' (ho.mono hXY)
end Go.Proofs.YtojlkdekdbdpoaaGreat
