/-
  x
-/
import Derived.Test.YtojlkdekdbdpoaaGreatJShSiSj
import Derived.Laws.AppendOwn
import Derived.Laws.EntriesVeiled
import Derived.Test.YtojlkdekdbdpoaaGreatJSfSgBa
namespace Go.Proofs.YtojlkdekdbdpoaaGreat
set_option maxRecDepth 100000
set_option maxHeartbeats 4000000
open Go.RowKit
def holdX(x:Nd)(u:Int):Int:=if decide (1≤u∧u≤x.n) then (if x.u then (if x.n=u then 0 else 5) else 5) else 4
def zbV(S:List Nd)(p u:Int):Int:=if isPl S.length p then holdX (nd S p.toNat) u else 4
theorem zdD{w w1:World}{v:Value}{p u:Int}(hb:Below (w.heap.size+1+1) ((w.alloc (.cells #[v] 24)).alloc (.cells #[.int .i64 p,.int .i64 u] 60)) w1) :
  w1.cell? ⟨w.heap.size,0,none⟩=some v∧w1.cell? ⟨w.heap.size+1,0,none⟩=some (.int .i64 p)∧w1.cell? ⟨w.heap.size+1,1,none⟩=some (.int .i64 u)∧Below w.heap.size w w1 :=
 ⟨(hb.cell (by simp;omega)).trans (by go_simp),(hb.cell (by simp)).trans (by go_simp),(hb.cell (by simp)).trans (by go_simp),(((Below.refl _ _).alloc (Nat.le_refl _) _).alloc (by simp) _).trans (hb.mono (by omega))⟩
theorem zfG(a:Option Addr)(c:Nat)(S:List Nd)(p u:Int)(w:World)(hN:S.length≤9223372036854775807)(hS:NdsAt w a S) :
  Calls Tryz.prog 111 #[.agg #[.slice a S.length c],.agg #[.int .i64 p,.int .i64 u]] w fun e w' => e=.returned (.int .i64 (zbV S p u))∧Below w.heap.size w w' := by
 unfold zbV
 have d1:=fun W=>zeh a c S.length p W hN
 cases hq:isPl S.length p with
 | false =>
  rw[hq] at d1
  simp only[Bool.false_eq_true,if_false]
  generalize S.length=n at *
  clear hS
  go_enter Tryz.func111,Tryz.ntmps111
  go_wp2_with (go_at_call 128;refine(d1 _).mono ?_;rintro e w' ⟨rfl,hb⟩)
  go_ret
  simp only[World.size_alloc] at hb
  exact⟨rfl,(zdD hb).2.2.2⟩
 | true =>
  rw[hq] at d1
  simp only[if_true]
  have hq' : 0≤p∧p≤(S.length:Int)-1:=of_decide_eq_true hq
  clear hq
  obtain⟨k,rfl⟩:∃ k:Nat,p=(k:Int):=⟨p.toNat,by omega⟩
  have hk:k<S.length:=by omega
  have hk2:(k:Int)<(S.length:Int):=by omega
  simp only[Int.toNat_natCast]
  obtain⟨b,o,rfl,hnd⟩:=hS k hk
  have NX:Hid (∀ w1,Below w.heap.size w w1→NdAt w1 b (o+k*8) (nd S k)):=fun w1 h1=>hnd.below h1
  clear hS hq' hnd
  generalize nd S k=x at *
  unfold holdX
  obtain⟨xu,xn,xt,xm,xp,xks,xh,xc⟩:=x
  unfold NdAt at NX
  dsimp only at *
  generalize xks.length=kl at *
  generalize S.length=n at *
  have d2:=zaU u 1 xn
  generalize hb1:decide (1≤u∧u≤xn)=b1 at *
  have B1:Hid (decide (1≤u∧u≤xn)=b1):=hb1
  clear hb1
  cases b1 with
  | false =>
   simp only[Bool.false_eq_true,if_false]
   go_enter Tryz.func111,Tryz.ntmps111
   go_wp2_with (first|(go_at_call 128;refine(d1 _).mono ?_;rintro e w1 ⟨rfl,hb⟩;simp only[World.size_alloc] at hb;obtain⟨l0,l1,l2,l3⟩:=zdD hb;obtain⟨c0,c1,c2,c3,c4,⟨ka,kc,c5,_⟩,c6,c7⟩:=NX.out _ l3;have hbw:=World.block_lt_of_cell? w1 _ c0;have hbl:=World.block_lt_of_cell? w1 _ l1;have hbm:=World.block_lt_of_cell? w1 _ l0;have HB:Hid _:=l3;clear hb l3)|(go_at_call 39;refine(d2 _).mono ?_;rintro e w' ⟨rfl,rfl⟩))
   go_ret
   exact⟨rfl,HB.out.alloc HB.out.size _⟩
  | true =>
   simp only[if_true]
   cases xu with
   | false =>
    simp only[Bool.false_eq_true,if_false]
    go_enter Tryz.func111,Tryz.ntmps111
    go_wp2_with (first|(go_at_call 128;refine(d1 _).mono ?_;rintro e w1 ⟨rfl,hb⟩;simp only[World.size_alloc] at hb;obtain⟨l0,l1,l2,l3⟩:=zdD hb;obtain⟨c0,c1,c2,c3,c4,⟨ka,kc,c5,_⟩,c6,c7⟩:=NX.out _ l3;have hbw:=World.block_lt_of_cell? w1 _ c0;have hbl:=World.block_lt_of_cell? w1 _ l1;have hbm:=World.block_lt_of_cell? w1 _ l0;have HB:Hid _:=l3;clear hb l3)|(go_at_call 39;refine(d2 _).mono ?_;rintro e w' ⟨rfl,rfl⟩))
    go_ret
    exact⟨rfl,HB.out.alloc HB.out.size _⟩
   | true =>
    simp only[if_true]
    by_cases he:xn=u
    ·subst he
     simp only[if_true]
     go_enter Tryz.func111,Tryz.ntmps111
     go_wp2_with (first|(go_at_call 128;refine(d1 _).mono ?_;rintro e w1 ⟨rfl,hb⟩;simp only[World.size_alloc] at hb;obtain⟨l0,l1,l2,l3⟩:=zdD hb;obtain⟨c0,c1,c2,c3,c4,⟨ka,kc,c5,_⟩,c6,c7⟩:=NX.out _ l3;have hbw:=World.block_lt_of_cell? w1 _ c0;have hbl:=World.block_lt_of_cell? w1 _ l1;have hbm:=World.block_lt_of_cell? w1 _ l0;have HB:Hid _:=l3;clear hb l3)|(go_at_call 39;refine(d2 _).mono ?_;rintro e w' ⟨rfl,rfl⟩))
     go_ret
     exact⟨rfl,HB.out.alloc HB.out.size _⟩
    ·simp only[if_neg he]
     have he2:(xn == u)=false:=by simp[he]
     go_enter Tryz.func111,Tryz.ntmps111
     go_wp2_with (first|(go_at_call 128;refine(d1 _).mono ?_;rintro e w1 ⟨rfl,hb⟩;simp only[World.size_alloc] at hb;obtain⟨l0,l1,l2,l3⟩:=zdD hb;obtain⟨c0,c1,c2,c3,c4,⟨ka,kc,c5,_⟩,c6,c7⟩:=NX.out _ l3;have hbw:=World.block_lt_of_cell? w1 _ c0;have hbl:=World.block_lt_of_cell? w1 _ l1;have hbm:=World.block_lt_of_cell? w1 _ l0;have HB:Hid _:=l3;clear hb l3)|(go_at_call 39;refine(d2 _).mono ?_;rintro e w' ⟨rfl,rfl⟩))
     go_ret
     exact⟨rfl,HB.out.alloc HB.out.size _⟩
def zak(w:World)(a:Option Addr)(hs:List (Int × Int)):Prop :=
 ∀ i,i<hs.length→∃ b o,a=some ⟨b,o,none⟩∧w.cell? ⟨b,o+i*2,none⟩=some (.int .i64 (hs.getD i (0,0)).1)∧w.cell? ⟨b,o+i*2+1,none⟩=some (.int .i64 (hs.getD i (0,0)).2)
theorem zak.below{w w' : World}{a:Option Addr}{hs:List (Int × Int)}(h:zak w a hs)(hb:Below w.heap.size w w'):zak w' a hs:=fun i hi=>by
 obtain⟨b,o,e,h1,h2⟩:=h i hi
 exact⟨b,o,e,(hb.cell (World.block_lt_of_cell? w ⟨b,o+i*2,none⟩ h1)).trans h1,(hb.cell (World.block_lt_of_cell? w ⟨b,o+i*2+1,none⟩ h2)).trans h2⟩
def zdn(S:List Nd):List (Int × Int)→Int
 | []=>0
 | h :: r=>if zbV S h.1 h.2=0 then zdn S r else zbV S h.1 h.2
def zao(S:List Nd)(hs:List (Int × Int)):Int:=if zaA S=0 then zdn S hs else zaA S
theorem zen{α:Type}{l:List α}{d:α}{k:Nat}(h:k<l.length):l.drop k=l.getD k d :: l.drop (k+1):=by
 rw[zad l d h];exact List.drop_eq_getElem_cons h
theorem zco(a:Option Addr)(c:Nat)(S:List Nd)(ha:Option Addr)(hc:Nat)(hs:List (Int × Int))(w:World)(hN:S.length≤9223372036854775807)(hB:Big S)(hS:NdsAt w a S)(hL:hs.length≤9223372036854775807)(hH:zak w ha hs) :
  Calls Tryz.prog 90 #[.agg #[.slice a S.length c],.slice ha hs.length hc] w fun e w' => e=.returned (.int .i64 (zao S hs))∧Below w.heap.size w w' := by
 have R0:Hid (zaA S=0→zao S hs=zdn S (hs.drop 0)):=fun h=>by unfold zao;rw[if_pos h];rfl
 have R1:Hid (zaA S≠0→zao S hs=zaA S):=fun h=>by unfold zao;rw[if_neg h]
 have dc:=fun(W:World) (hW:NdsAt W a S)=>zcO a c S W hN hB hW
 have dh:=fun(p u:Int) (W:World) (hW:NdsAt W a S)=>zfG a c S p u W hN hW
 have DH:Hid _:=dh
 have HS:Hid (NdsAt w a S):=hS
 have HH:Hid (zak w ha hs):=hH
 clear hS hH dh hB
 generalize zao S hs=RES at *
 generalize hn:S.length=n at *
 generalize hm:hs.length=m at *
 have HM:Hid (hs.length=m):=hm
 clear hm hn
 by_cases hz:zaA S=0
 ·rw[hz] at dc
  have R2:Hid _:=R0.out hz
  clear R0 R1 hz
  go_enter Tryz.func90,Tryz.ntmps90
  go_wp2_with (go_at_call 19;refine(dc _ (HS.out.below ((Below.refl _ _).alloc (Nat.le_refl _) _))).mono ?_;rintro e w1 ⟨rfl,hb1⟩)
  have lb:w1.cell? ⟨w.heap.size,0,none⟩=some (.slice a n c):=zfP (by simpa using hb1)
  have hB1:Below w.heap.size w w1:=((Below.refl _ _).alloc (Nat.le_refl _) _).trans (hb1.mono (by simp))
  clear hb1 dc
  go_loopg [16] m (fun g s16 wr=>∃ k:Nat,k≤m∧m-k≤g∧s16=.int .i64 k∧Below w.heap.size w wr∧wr.cell? ⟨w.heap.size,0,none⟩=some (.slice a n c)∧Hid (RES=zdn S (hs.drop k)))
  case atStart=>exact⟨0,by omega,by omega,rfl,hB1,lb,R2⟩
  case round =>
   obtain⟨k,hk,hg,rfl,hb,lb2,A⟩:=hrel
   have hlb:=World.block_lt_of_cell? _ _ lb2
   clear lb hB1 R2
   by_cases hlt:k<m
   ·obtain⟨b,o,rfl,c0,c1⟩:=(HH.out.below hb) k (by rw[HM.out];exact hlt)
    have hbw:=World.block_lt_of_cell? _ _ c0
    have EQ:=A.out
    rw[zen (d:=(0,0)) (by rw[HM.out];exact hlt)] at EQ
    simp only[zdn] at EQ
    generalize (hs.getD k (0,0)).1=p at *
    generalize (hs.getD k (0,0)).2=u at *
    have d1:=fun W hW=>DH.out p u W hW
    have HB:Hid (∀ o1,NdsAt (wr.alloc o1) a S):=fun o1=>(HS.out.below hb).below ((Below.refl _ _).alloc (Nat.le_refl _) _)
    generalize zbV S p u=ev at *
    by_cases hz:ev=0
    ·subst hz
     rw[if_pos rfl] at EQ
     have E2:Hid _:=EQ
     clear EQ
     go_wp2_with (go_at_call 111;refine(d1 _ (HB.out _)).mono ?_;rintro e w2 ⟨rfl,hb2⟩)
     go_roundg (m-(k+1))
     case measure=>omega
     case rel =>
      have hb3:Below wr.heap.size wr w2:=((Below.refl _ _).alloc (Nat.le_refl _) _).trans (hb2.mono (by simp))
      exact⟨k+1,by omega,by omega,by go_num,hb.trans (hb3.mono hb.size),(hb3.cell hlb).trans lb2,E2⟩
    ·rw[if_neg hz] at EQ
     have hz2:(ev == 0)=false:=by simp[hz]
     have E2:Hid _:=EQ
     clear EQ
     go_wp2_with (go_at_call 111;refine(d1 _ (HB.out _)).mono ?_;rintro e w2 ⟨rfl,hb2⟩)
     go_ret
     have hb3:Below wr.heap.size wr w2:=((Below.refl _ _).alloc (Nat.le_refl _) _).trans (hb2.mono (by simp))
     exact⟨by rw[E2.out];rfl,hb.trans (hb3.mono hb.size)⟩
   ·have:k=m:=by omega
    subst this
    have EQ:=A.out
    rw[← HM.out,List.drop_length] at EQ
    have E2:Hid _:=EQ
    clear EQ
    go_wp2
    go_ret
    exact⟨by rw[E2.out];rfl,hb⟩
 ·have R2:Hid _:=R1.out hz
  clear R0 R1
  generalize zaA S=ev at *
  have hz2:(ev == 0)=false:=by simp[hz]
  go_enter Tryz.func90,Tryz.ntmps90
  go_wp2_with (go_at_call 19;refine(dc _ (HS.out.below ((Below.refl _ _).alloc (Nat.le_refl _) _))).mono ?_;rintro e w1 ⟨rfl,hb1⟩)
  go_ret
  exact⟨by rw[R2.out];rfl,((Below.refl _ _).alloc (Nat.le_refl _) _).trans (hb1.mono (by simp))⟩
end Go.Proofs.YtojlkdekdbdpoaaGreat

namespace Go.Proofs.YtojlkdekdbdpoaaGreat
set_option maxRecDepth 100000
set_option maxHeartbeats 4000000
open Go.RowKit
def zat(S:List Nd):Nat→Nat→List Int
 | 0,p=>[(p:Int)]
 | f+1,p=>(p:Int) ::(nd S p).ks.flatMap fun k=>zat S f k.toNat
def Deep(S:List Nd):Nat→Nat→Prop
 | 0,p=>(nd S p).ks=[]
 | f+1,p=>∀ k ∈ (nd S p).ks,(0≤k∧k<S.length)∧Deep S f k.toNat
def zbs(ks:Nat→List Int):Nat→Nat→List Int
 | 0,p=>[(p:Int)]
 | f+1,p=>(p:Int) ::(ks p).flatMap fun k=>zbs ks f k.toNat
def DeepG(ks:Nat→List Int)(n:Nat):Nat→Nat→Prop
 | 0,p=>ks p=[]
 | f+1,p=>∀ k ∈ ks p,(0≤k∧k<n)∧DeepG ks n f k.toNat
theorem zfL(S:List Nd):∀ f p,zbs (fun p=>(nd S p).ks) f p=zat S f p
 | 0,_=>rfl
 | f+1,p=>by
  simp only[zbs,zat]
  congr 1
  congr 1
  funext k
  exact zfL S f k.toNat
theorem zjN{S:List Nd}:∀ {f p:Nat},Deep S f p→DeepG (fun p=>(nd S p).ks) S.length f p
 | 0,_,h=>h
 | _+1,_,h=>fun k hk=>⟨(h k hk).1,zjN (h k hk).2⟩
def OrdI(W:World)(bo:Nat)(l:List Int)(w1:World):Prop :=
 Off (fun k=>k=bo) W w1∧∃ v,w1.cell? ⟨bo,0,none⟩=some v∧w1.frozen? ⟨bo,0,none⟩=false∧w1.ownsRow W.heap.size 3 1 v l.length (l.map (Value.int .i64))
theorem grownBy_setCell(w:World)(a:Addr)(v:Value):w.grownBy (w.setCell a v) (some a.block) :=
 ⟨rfl,rfl,rfl,by simp[World.setCell],fun k _ hne=>Below.heap_setCell _ _ _ _ (fun e=>hne (by rw[e]))⟩
theorem OrdI.step{W w1 w2:World}{bo:Nat}{l:List Int}{p:Int}{v v' : Value}(hbo:bo<W.heap.size)(hO:Off (fun k=>k=bo) W w1)(hc:w1.cell? ⟨bo,0,none⟩=some v)(hf:w1.frozen? ⟨bo,0,none⟩=false)
  (hown:w1.ownsRow W.heap.size 3 1 v l.length (l.map (Value.int .i64))) (o1:Obj)
  (hown' : w2.ownsRow W.heap.size 3 1 v' (l.length+1) (l.map (Value.int .i64)++[.int .i64 p])) (hg:(w1.alloc o1).grownBy w2 v.ownBlock) :
  w2.cell? ⟨bo,0,none⟩=some v∧w2.frozen? ⟨bo,0,none⟩=false∧OrdI W bo (l++[p]) (w2.setCell ⟨bo,0,none⟩ v'):=by
 have hrow:∀ k,v.ownBlock=some k→W.heap.size≤k:=fun k hk=>(hown.lt k hk).1
 have hbw:bo<w1.heap.size:=Nat.lt_of_lt_of_le hbo hO.size
 have hblk:∀ k,k<W.heap.size→w2.heap[k]?=w1.heap[k]?:=fun k hk =>
  (hg.block k (by have:=hO.size;simp;omega) (fun e=>by have:=hrow k e.symm;omega)).trans (Below.heap_alloc _ _ _ (by have:=hO.size;omega))
 have hc2:w2.cell? ⟨bo,0,none⟩=some v:=(World.cell?_of_block (hblk bo hbo)).trans hc
 refine⟨hc2,(World.frozen?_of_block (hblk bo hbo)).trans hf,?_,v', World.cell?_setCell_same _ _ _ hc2,?_,?_⟩
 ·refine⟨?_,?_,?_,?_,fun k hk hx=>?_⟩
  ·exact hg.os.trans hO.os
  ·exact hg.tape.trans hO.tape
  ·exact hg.output.trans hO.output
  ·have:=hg.size;have h2:=hO.size;simp[World.setCell] at *;omega
  ·rw[Below.heap_setCell _ _ _ _ (by exact hx),hblk k hk];exact hO.block k hk hx
 ·rw[World.frozen?_setCell];exact(World.frozen?_of_block (hblk bo hbo)).trans hf
 ·have h3:=hown'.kept (grownBy_setCell w2 ⟨bo,0,none⟩ v') (by
   cases hb:v'.ownBlock with
   | none=>exact Or.inl rfl
   | some k=>right;intro e;have:=(hown'.lt k hb).1;simp at e;omega)
  simpa using h3
theorem OrdI.below{W w1 w2:World}{bo:Nat}{l:List Int}(h:OrdI W bo l w1)(hbo:bo<W.heap.size)(hb:Below w1.heap.size w1 w2):OrdI W bo l w2:=by
 obtain⟨hO,v,hc,hf,hown⟩:=h
 have hbw:bo<w1.heap.size:=Nat.lt_of_lt_of_le hbo hO.size
 exact⟨hO.trans (Off.of_below hb),v,(hb.cell (by exact hbw)).trans hc,(hb.frozen (by exact hbw)).trans hf,hown.kept (row:=none) ⟨hb.os,hb.tape,hb.output,hb.size,fun k hk _=>hb.block k hk⟩ (by
  cases hv:v.ownBlock with
  | none=>exact Or.inl rfl
  | some k=>exact Or.inr (fun e=>by cases e))⟩
theorem zfM(ks:List Int)(sub:Int→List Int)(q:Nat)(hq:q<ks.length):(ks.take (q+1)).flatMap sub=(ks.take q).flatMap sub++sub (ks.getD q 0):=by
 rw[List.take_succ_eq_append_getElem hq,List.flatMap_append,zad ks 0 hq]
 simp
theorem zdw(ks:List Int)(sub:Int→List Int)(q:Nat):((ks.take q).flatMap sub).length≤(ks.flatMap sub).length:=by
 have h:=List.take_append_drop q ks
 have:(ks.flatMap sub).length=((ks.take q).flatMap sub).length+((ks.drop q).flatMap sub).length:=by
  rw[← List.length_append,← List.flatMap_append,h]
 omega
theorem zio(ks:Nat→List Int)(n:Nat)(K:Nat)(caps:Array Value)(W:World)(bo bb bw:Nat)(hbo:bo<W.heap.size)(hbb:bb<W.heap.size)(hbw:bw<W.heap.size)(hob:bb≠bo)(how:bw≠bo)
  (eg:∀ args w,(callFunc K args).run Tryz.prog w=.ok (.enter K args) w)
  (hcb:W.cell? ⟨bb,0,none⟩=some (.func (.func K) #[] caps)) (hcw:W.cell? ⟨bw,0,none⟩=some (.func (.func 136) #[] #[.pointer (some ⟨bo,0,none⟩),.pointer (some ⟨bb,0,none⟩),.pointer (some ⟨bw,0,none⟩)]))
  (hrow:∀ p,p<n→∃ ka kc,(ks p).length≤9223372036854775807∧(∀ w1,Off (fun k=>k=bo) W w1→zah w1 ka (ks p))∧∀ w1,Off (fun k=>k=bo) W w1→Calls Tryz.prog K (#[.int .i64 p] ++ caps) w1 fun e w2=>e=.returned (.slice ka (ks p).length kc)∧Below w1.heap.size w1 w2) (p:Nat) (hp:p<n) (sub:Int→List Int)
  (hsub:∀ k ∈ ks p,∀ l w1,l.length+(sub k).length≤1000000→OrdI W bo l w1 →
   Calls Tryz.prog 136 #[.int .i64 k,.pointer (some ⟨bo,0,none⟩),.pointer (some ⟨bb,0,none⟩),.pointer (some ⟨bw,0,none⟩)] w1 fun e w2=>e=.returned (.tuple #[])∧OrdI W bo (l++sub k) w2)
  (l:List Int) (w1:World) (hlen:l.length+1+((ks p).flatMap sub).length≤1000000) (hI:OrdI W bo l w1) :
  Calls Tryz.prog 136 #[.int .i64 p,.pointer (some ⟨bo,0,none⟩),.pointer (some ⟨bb,0,none⟩),.pointer (some ⟨bw,0,none⟩)] w1 fun e w2=>e=.returned (.tuple #[])∧OrdI W bo (l++(p:Int) ::(ks p).flatMap sub) w2:=by
 obtain⟨i0,hi0,hz0,hz1,hz2⟩:=info_parts info3
 obtain⟨hO,v,hc,hf,hown⟩:=hI
 obtain⟨ka,kc,hbig,hints,hcall0⟩:=hrow p hp
 have hlen2:l.length+1≤1000000:=by omega
 have hsz:=hO.size
 have hcell:∀ w2,Off (fun k=>k=bo) W w2→w2.cell? ⟨bb,0,none⟩=some (.func (.func K) #[] caps)∧w2.cell? ⟨bw,0,none⟩=some (.func (.func 136) #[] #[.pointer (some ⟨bo,0,none⟩),.pointer (some ⟨bb,0,none⟩),.pointer (some ⟨bw,0,none⟩)]):=fun w2 h2 =>
  ⟨(h2.cell (by exact hbb) (by exact hob)).trans hcb,(h2.cell (by exact hbw) (by exact how)).trans hcw⟩
 have CELL:Hid _:=hcell
 have SUB:Hid _:=hsub
 have HL:Hid _:=hlen
 have HO:Hid (Off (fun k=>k=bo) W w1):=hO
 have HOWN:Hid (w1.ownsRow W.heap.size 3 1 v l.length (l.map (Value.int .i64))):=hown
 have HC:Hid _:=hc
 have HF:Hid _:=hf
 have HINTS:Hid _:=hints
 have HCALL:Hid _:=hcall0
 clear hcell hsub hlen hO hown hcb hcw hrow hints hcall0 hp
 generalize ks p=ks at *
 go_enter Tryz.func136,Tryz.ntmps136
 go_wp2_with (at_builtin;refine wpList_append_own _ rfl _ _ 29 rfl W.heap.size 3 i0 (.int .i64 0) 1 8 Tryz.underlying29 hi0 hz0 hz1 hz2 rfl (by decide) _ _ _ rfl (HOWN.out.alloc _) ⟨w1.heap.size,0,none⟩ 1 1 [.int .i64 (p:Int)] rfl rfl ?c1 ?c2 ?c3 ?c4 ?c5 ?_)
 case c1 =>
  intro j u hj
  match j,hj with
  | 0,hj=>simp at hj;subst hj;simp[Addr.add]
 case c2=>intro u hu;simp at hu;subst hu;rfl
 case c3=>unfold maxLen;omega
 case c4=>omega
 case c5=>simp;omega
 intro v' w2 hown' hgrow _
 obtain⟨g', cap', rfl⟩:∃ g' cap', v' = .slice (some ⟨g', 0,none⟩) (l.length+1) cap' := by
  rcases hown'.2 with ⟨_,h⟩ |⟨g', cap', cur,h,_⟩
  ·omega
  ·exact⟨g', cap', h⟩
 obtain⟨hc2,hf2,hI2⟩:=OrdI.step hbo HO.out HC.out HF.out HOWN.out _ hown' hgrow
 obtain⟨hcb,hcw⟩:=CELL.out _ hI2.1
 have HI2:Hid (OrdI W bo (l++(p:Int) ::(ks.take 0).flatMap sub) _):=(show OrdI W bo (l++(p:Int) :: []) _ from hI2)
 clear hown' hgrow hI2 hc hf hcw
 generalize hkl:ks.length=L at *
 have KL:Hid (ks.length=L):=hkl
 clear hkl
 go_wp2_with (go_at_fn K;refine(HCALL.out _ HI2.out.1).mono ?_;rintro e w4 ⟨rfl,hb4⟩)
 have HI4:Hid (OrdI W bo (l++(p:Int) ::(ks.take 0).flatMap sub) w4):=HI2.out.below hbo hb4
 clear HI2 hb4 hc2 hf2 hcb HCALL
 go_wp2
 go_loopg [15] L (fun g s18 wr=>∃ q:Nat,q≤L∧L-q≤g∧s18=.int .i64 q∧Hid (OrdI W bo (l++(p:Int) ::(ks.take q).flatMap sub) wr))
 case atStart=>exact⟨0,by omega,by omega,rfl,HI4⟩
 case round =>
  obtain⟨q,hq,hg,rfl,I3⟩:=hrel
  by_cases hql:q<L
  ·obtain⟨hcb,hcw⟩:=CELL.out _ I3.out.1
   obtain⟨kb,ko,rfl,hkc⟩:=(HINTS.out _ I3.out.1) q (by rw[KL.out];exact hql)
   have hmem:ks.getD q 0 ∈ ks:=by rw[zad ks 0 (by rw[KL.out];exact hql)];exact List.getElem_mem _
   have hft:=zfM ks sub q (by rw[KL.out];exact hql)
   have hfl:=zdw ks sub (q+1)
   rw[hft] at hfl
   have hcall:=SUB.out (ks.getD q 0) hmem _ wr (by have:=HL.out;simp only[List.length_append,List.length_cons] at hfl this ⊢;omega) I3.out
   have FT:Hid _:=hft
   clear hmem hft hfl I3 hcb
   generalize ks.getD q 0=y at *
   go_wp2_with (go_at_call 136;refine hcall.mono ?_;rintro e w3 ⟨rfl,I4⟩)
   go_roundg (L-(q+1))
   case measure=>omega
   case rel =>
    refine⟨q+1,by omega,by omega,by go_num,?_⟩
    have I5:OrdI W bo (l++(p:Int) ::(ks.take (q+1)).flatMap sub) w3:=by
     rw[FT.out]
     simpa using I4
    exact I5
  ·have:q=L:=by omega
   subst this
   have E:(ks.take q)=ks:=by rw[← KL.out];exact List.take_length
   have I4:=I3.out
   rw[E] at I4
   have I5:Hid _:=I4
   clear I4 E
   go_wp2
   exact bodyPost_end (v:=.tuple #[]) (by simp[results,Tryz.results136,go_sem]) rfl ⟨rfl,I5.out⟩
theorem zlN(ks:Nat→List Int)(n:Nat)(K:Nat)(caps:Array Value)(W:World)(bo bb bw:Nat)(hbo:bo<W.heap.size)(hbb:bb<W.heap.size)(hbw:bw<W.heap.size)(hob:bb≠bo)(how:bw≠bo)
  (eg:∀ args w,(callFunc K args).run Tryz.prog w=.ok (.enter K args) w)
  (hcb:W.cell? ⟨bb,0,none⟩=some (.func (.func K) #[] caps)) (hcw:W.cell? ⟨bw,0,none⟩=some (.func (.func 136) #[] #[.pointer (some ⟨bo,0,none⟩),.pointer (some ⟨bb,0,none⟩),.pointer (some ⟨bw,0,none⟩)]))
  (hrow:∀ p,p<n→∃ ka kc,(ks p).length≤9223372036854775807∧(∀ w1,Off (fun k=>k=bo) W w1→zah w1 ka (ks p))∧∀ w1,Off (fun k=>k=bo) W w1→Calls Tryz.prog K (#[.int .i64 p] ++ caps) w1 fun e w2=>e=.returned (.slice ka (ks p).length kc)∧Below w1.heap.size w1 w2) :
  ∀ (f p:Nat) (l:List Int) (w1:World),p<n→DeepG ks n f p→l.length+(zbs ks f p).length≤1000000→OrdI W bo l w1 →
  Calls Tryz.prog 136 #[.int .i64 p,.pointer (some ⟨bo,0,none⟩),.pointer (some ⟨bb,0,none⟩),.pointer (some ⟨bw,0,none⟩)] w1 fun e w2=>e=.returned (.tuple #[])∧OrdI W bo (l++zbs ks f p) w2:=by
 intro f
 induction f with
 | zero =>
  intro p l w1 hp hD hlen hI
  have hk:ks p=[]:=hD
  have h:=zio ks n K caps W bo bb bw hbo hbb hbw hob how eg hcb hcw hrow p hp (fun _=>[]) (fun k hk' => by rw[hk] at hk'; cases hk') l w1 (by simp only[zbs] at hlen;rw[hk];simpa using hlen) hI
  rw[hk] at h
  exact h
 | succ f ih =>
  intro p l w1 hp hD hlen hI
  exact zio ks n K caps W bo bb bw hbo hbb hbw hob how eg hcb hcw hrow p hp (fun k=>zbs ks f k.toNat) (fun k hk l w1 hl hI1=>by
   obtain⟨⟨h1,h2⟩,h3⟩:=hD k hk
   have:=ih k.toNat l w1 (by omega) h3 hl hI1
   rwa [Int.toNat_of_nonneg h1] at this) l w1 (by simp only[zbs,List.length_cons] at hlen;omega) hI
end Go.Proofs.YtojlkdekdbdpoaaGreat

namespace Go.Proofs.YtojlkdekdbdpoaaGreat
set_option maxRecDepth 100000
set_option maxHeartbeats 4000000
open Go.RowKit
theorem zmC{w w1:World}{a:Option Addr}{n c:Nat}{p u:Int}{o3:Obj}(hb:Below (w.heap.size+1+1+1) (((w.alloc (.cells #[.slice a n c] 24)).alloc (.cells #[.int .i64 p,.int .i64 u] 60)).alloc o3) w1) :
  w1.cell? ⟨w.heap.size,0,none⟩=some (.slice a n c)∧w1.cell? ⟨w.heap.size+1,0,none⟩=some (.int .i64 p)∧w1.cell? ⟨w.heap.size+1,1,none⟩=some (.int .i64 u) :=
 ⟨(hb.cell (by simp;omega)).trans (by go_simp),(hb.cell (by simp)).trans (by go_simp),(hb.cell (by simp)).trans (by go_simp)⟩
theorem zaP(W:World)(b:Nat)(p u:Int)(h1:W.cell? ⟨b,0,none⟩=some (.int .i64 p))(h2:W.cell? ⟨b,1,none⟩=some (.int .i64 u)):zak W (some ⟨b,0,none⟩) [(p,u)]:=fun i hi=>by
 have:i=0:=by simpa using hi
 subst this
 exact⟨b,0,rfl,by simpa using h1,by simpa using h2⟩
theorem zix{W w2:World}{v:Value}{l:List Int}(hown:w2.ownsRow W.heap.size 3 1 v l.length (l.map (Value.int .i64))):∃ sa cap,v=.slice sa l.length cap∧zah w2 sa l∧l.length≤cap∧cap≤9223372036854775807:=by
 obtain⟨hl,h⟩:=hown
 rcases h with ⟨rfl,h0⟩ |⟨g,cap,cur,rfl,_,hg,h1,h2,h3,h4⟩
 ·exact⟨none,0,by rw[h0],fun i hi=>by omega,by omega,by omega⟩
 ·refine⟨some ⟨g,0,none⟩,cap,rfl,fun i hi=>⟨g,0,rfl,?_⟩,h1,by unfold maxLen at h2;omega⟩
  have h5:(cur.toList.take (l.length*1))[i]?=some (.int .i64 (l.getD i 0)):=by
   rw[h4,List.getElem?_map,List.getElem?_eq_getElem hi,zad l 0 hi];rfl
  rw[List.getElem?_take,if_pos (by omega)] at h5
  simp only[Nat.zero_add,World.cell?,hg]
  simpa using h5
theorem zjC(ks:Nat→List Int)(n K:Nat)(caps:Array Value)(k f:Nat)(w:World)
  (eg:∀ args w,(callFunc K args).run Tryz.prog w=.ok (.enter K args) w)
  (hrow:∀ p,p<n→∃ ka kc,(ks p).length≤9223372036854775807∧(∀ w1,Below w.heap.size w w1→zah w1 ka (ks p))∧∀ w1,Below w.heap.size w w1→Calls Tryz.prog K (#[.int .i64 p] ++ caps) w1 fun e w2=>e=.returned (.slice ka (ks p).length kc)∧Below w1.heap.size w1 w2)
  (hk:k<n) (hD:DeepG ks n f k) (hlen:(zbs ks f k).length≤1000000) :
  Calls Tryz.prog 120 #[.int .i64 k,.func (.func K) #[] caps] w fun e w' => ∃ sa cap,e=.returned (.slice sa (zbs ks f k).length cap)∧Below w.heap.size w w' ∧ zah w' sa (zbs ks f k)∧(zbs ks f k).length≤cap∧cap≤9223372036854775807:=by
 have D2:Hid (∀ (w1:World),w.heap.size+3≤w1.heap.size→Below w.heap.size w w1 →
   w1.cell? ⟨w.heap.size,0,none⟩=some (.func (.func K) #[] caps) →
   w1.cell? ⟨w.heap.size+2,0,none⟩=some (.func (.func 136) #[] #[.pointer (some ⟨w.heap.size+1,0,none⟩),.pointer (some ⟨w.heap.size,0,none⟩),.pointer (some ⟨w.heap.size+2,0,none⟩)]) →
   w1.cell? ⟨w.heap.size+1,0,none⟩=some (.slice none 0 0)→w1.frozen? ⟨w.heap.size+1,0,none⟩=false →
   Calls Tryz.prog 136 #[.int .i64 k,.pointer (some ⟨w.heap.size+1,0,none⟩),.pointer (some ⟨w.heap.size,0,none⟩),.pointer (some ⟨w.heap.size+2,0,none⟩)] w1 fun e w2=>e=.returned (.tuple #[])∧OrdI w1 (w.heap.size+1) (zbs ks f k) w2):=fun w1 hsz hb1 h1 h2 h3 h4=>by
  have hOB:∀ w2,Off (fun k=>k=w.heap.size+1) w1 w2→Below w.heap.size w w2:=fun w2 h2=>hb1.trans (h2.below hb1.size (fun k hk=>by rw[hk];omega))
  have h:=zlN ks n K caps w1 (w.heap.size+1) w.heap.size (w.heap.size+2) (by omega) (by omega) (by omega) (by omega) (by omega) eg h1 h2 (fun p hp=>by
   obtain⟨ka,kc,r0,r1,r2⟩:=hrow p hp
   exact⟨ka,kc,r0,fun w2 h2=>r1 w2 (hOB w2 h2),fun w2 h2=>r2 w2 (hOB w2 h2)⟩) f k [] w1 hk hD (by simpa using hlen) ⟨Off.refl _ _,_,h3,h4,World.ownsRow_nil _ _ _ _⟩
  simpa using h
 clear hrow hD
 generalize hl:zbs ks f k=l at *
 have HL:Hid _:=hl
 clear hl
 go_enter Tryz.func120,Tryz.ntmps120
 go_wp2_with fail
 refine(D2.out _ (by simp) ((((Below.refl _ _).alloc (Nat.le_refl _) _).alloc (by simp) _).alloc (by simp;omega) _) (by go_simp) (by go_simp) (by go_simp) (by go_simp)).mono ?_
 rintro e w2 ⟨rfl,hO,v,hc,hf,hown⟩
 obtain⟨sa,cap,rfl,hia,hcap,hcm⟩:=zix hown
 have HIA:Hid _:=hia
 have HB:Below w.heap.size w w2:=((((Below.refl _ _).alloc (Nat.le_refl _) _).alloc (by simp) _).alloc (by simp;omega) _).trans (hO.below (by simp;omega) (fun k hk=>by rw[hk];omega))
 clear hown hO hia
 go_wp2
 refine bodyPost_ret (v:=.slice sa l.length cap) (by simp[results,Tryz.results120,go_sem]) rfl ⟨sa,cap,rfl,HB,HIA.out,hcap,hcm⟩
theorem zkL(a:Option Addr)(c:Nat)(S:List Nd)(bs p:Nat)(ka:Option Addr)(kc:Nat)(L:Nat)(w1:World)(hp:p<S.length)(hcs:w1.cell? ⟨bs,0,none⟩=some (.slice a S.length c))
  (hc:∃ b o,a=some ⟨b,o,none⟩∧w1.cell? ⟨b,o+p*8+5,none⟩=some (.slice ka L kc)) :
  Calls Tryz.prog 130 #[.int .i64 p,.pointer (some ⟨bs,0,none⟩)] w1 fun e w2=>e=.returned (.slice ka L kc)∧Below w1.heap.size w1 w2:=by
 obtain⟨b,o,rfl,hc5⟩:=hc
 have hp2:(p:Int)<(S.length:Int):=by omega
 generalize S.length=n at *
 go_enter Tryz.func130,Tryz.ntmps130
 go_wp2
 go_ret
 exact⟨rfl,Below.refl _ _⟩
theorem zlx(a:Option Addr)(c:Nat)(S:List Nd)(p u E:Int)(w:World)(hN:S.length≤9223372036854775807)(hB:Big S)(hS:NdsAt w a S)(hE:zao S [(p,u)]=E)(hE0:E≠0) :
  Calls Tryz.prog 115 #[.agg #[.slice a S.length c],.agg #[.int .i64 p,.int .i64 u]] w fun e w' => e=.returned (.tuple #[.slice none 0 0,.int .i64 E])∧Below w.heap.size w w' := by
 have d1:=fun(W:World) (ha:Option Addr) (hW:NdsAt W a S) (hH:zak W ha [(p,u)])=>zco a c S ha 1 [(p,u)] W hN hB hW (by simp) hH
 rw[hE] at d1
 have D1:Hid _:=d1
 have HS:Hid (NdsAt w a S):=hS
 clear hS d1 hE hB
 have hz:(E == 0)=false:=by simp[hE0]
 generalize S.length=n at *
 go_enter Tryz.func115,Tryz.ntmps115
 go_wp2_with (go_at_call 90;refine(D1.out _ _ (HS.out.below ((((Below.refl _ _).alloc (Nat.le_refl _) _).alloc (by simp) _).alloc (by simp;omega) _)) (zaP _ _ _ _ (by go_simp) (by go_simp))).mono ?_;rintro e w1 ⟨rfl,hb1⟩)
 refine bodyPost_ret (v:=.tuple #[.slice none 0 0,.int .i64 E]) (by simp[results,Tryz.results115,go_sem]) rfl ⟨rfl,?_⟩
 exact((((Below.refl _ _).alloc (Nat.le_refl _) _).alloc (by simp) _).alloc (by simp;omega) _).trans (hb1.mono (by simp;omega))
theorem zgH(a:Option Addr)(c:Nat)(S:List Nd)(k f:Nat)(u:Int)(w:World)(hN:S.length≤9223372036854775807)(hB:Big S)(hS:NdsAt w a S)(hE:zao S [((k:Int),u)]=0)(hk:k<S.length)(hD:Deep S f k)(hlen:(zat S f k).length≤1000000) :
  Calls Tryz.prog 115 #[.agg #[.slice a S.length c],.agg #[.int .i64 k,.int .i64 u]] w fun e w' => ∃ sa cap,e=.returned (.tuple #[.slice sa (zat S f k).length cap,.int .i64 0])∧Below w.heap.size w w' ∧ zah w' sa (zat S f k)∧(zat S f k).length≤cap∧cap≤9223372036854775807:=by
 have d1:=fun(W:World) (ha:Option Addr) (hW:NdsAt W a S) (hH:zak W ha [((k:Int),u)])=>zco a c S ha 1 [((k:Int),u)] W hN hB hW (by simp) hH
 rw[hE] at d1
 have D1:Hid _:=d1
 have HS:Hid (NdsAt w a S):=hS
 have D2:Hid (∀ (w1:World) (bs:Nat),w1.cell? ⟨bs,0,none⟩=some (.slice a S.length c)→Below w.heap.size w w1 →
   Calls Tryz.prog 120 #[.int .i64 k,.func (.func 130) #[] #[.pointer (some ⟨bs,0,none⟩)]] w1 fun e w' => ∃ sa cap,e=.returned (.slice sa (zat S f k).length cap)∧Below w1.heap.size w1 w' ∧ zah w' sa (zat S f k)∧(zat S f k).length≤cap∧cap≤9223372036854775807):=fun w1 bs h1 hb1=>by
  have hbs:=World.block_lt_of_cell? _ _ h1
  have h:=zjC (fun p=>(nd S p).ks) S.length 130 #[.pointer (some ⟨bs,0,none⟩)] k f w1 (enters_of Tryz.func130 (by kernel_rfl) rfl) (fun p hp=>by
   obtain⟨b,o,ea,c0,c1,c2,c3,c4,⟨ka,kc,c5,hks⟩,c6,c7⟩:=hS p hp
   have hks' : ∀ w2,Below w1.heap.size w1 w2→Below w.heap.size w w2:=fun w2 h2=>hb1.trans (h2.mono hb1.size)
   exact⟨ka,kc,hB p hp,fun w2 h2=>hks.below (hks' w2 h2),fun w2 h2=>zkL a c S bs p ka kc _ w2 hp ((h2.cell (by exact hbs)).trans h1) ⟨b,o,ea,((hks' w2 h2).cell (by exact World.block_lt_of_cell? _ _ c5)).trans c5⟩⟩) hk (zjN hD) (by rw[zfL];exact hlen)
  rw[zfL] at h
  exact h
 clear hS d1 hE hB hD
 generalize S.length=n at *
 generalize hl:zat S f k=l at *
 have HL:Hid _:=hl
 clear hl
 go_enter Tryz.func115,Tryz.ntmps115
 go_wp2_with (first
  |(go_at_call 90;refine(D1.out _ _ (HS.out.below ((((Below.refl _ _).alloc (Nat.le_refl _) _).alloc (by simp) _).alloc (by simp;omega) _)) (zaP _ _ _ _ (by go_simp) (by go_simp))).mono ?_;rintro e w1 ⟨rfl,hb1⟩;simp only[World.size_alloc] at hb1;obtain⟨l0,l1,l2⟩:=zmC hb1;have hs1:=hb1.size;simp only[World.size_alloc] at hs1;have hb0:Below w.heap.size w w1:=((((Below.refl _ _).alloc (Nat.le_refl _) _).alloc (by simp) _).alloc (by simp;omega) _).trans (hb1.mono (by omega)))
  |(go_at_call 120;refine(D2.out _ _ l0 hb0).mono ?_;rintro e w2 ⟨sa,cap,rfl,hb2,hia,hcap,hcm⟩;have HIA:Hid _:=hia;clear hia;have HB2:Hid _:=hb2;clear hb2)
  | go_in)
 refine bodyPost_ret (v:=.tuple #[.slice sa l.length cap,.int .i64 0]) (by simp[results,Tryz.results115,go_sem]) rfl ⟨sa,cap,rfl,hb0.trans (HB2.out.mono hb0.size),HIA.out,hcap,hcm⟩
end Go.Proofs.YtojlkdekdbdpoaaGreat

namespace Go.Proofs.YtojlkdekdbdpoaaGreat
set_option maxRecDepth 100000
set_option maxHeartbeats 4000000
open Go.RowKit
theorem infoK:(Tryz.prog.info? 3).map (fun i=>(i.zero,i.size,i.bytes))=some (some (.int .i64 0),1,8):=by kernel_rfl
theorem zhx(n:Nat)(hn:n≤1000000)(w:World):(Instr.makeSlice 29 (.int .i64 (n:Int)) (.int .i64 (n:Int))).run Tryz.prog w=.ok (.slice (some ⟨w.heap.size,0,none⟩) n n) (w.alloc (.cells (madeCells #[.int .i64 0] n) 3)) :=
 run_make_row' (P:=Tryz.prog) 29 3 (.int .i64 0) 8 Tryz.underlying29 infoK rfl .i64 .i64 n (by omega) (by omega) w
theorem zoG{w:World}{g t:Nat}{ks:List Int}(h:w.rowIs g t ks.length (fun j=>.int .i64 (ks.getD j 0))):zah w (some ⟨g,0,none⟩) ks:=fun i hi=>⟨g,0,rfl,by rw[Nat.zero_add];exact h.cell hi⟩
theorem zfc(ka:Option Addr)(kc:Nat)(ks:List Int)(w:World)(hk:ks.length≤1000000)(hks:zah w ka ks) :
  Calls Tryz.prog 100 #[.slice ka ks.length kc] w fun e w' => e=.returned (.slice (some ⟨w.heap.size,0,none⟩) ks.length ks.length)∧Below w.heap.size w w' ∧ w'.rowIs w.heap.size 3 ks.length (fun j=>.int .i64 (ks.getD j 0)):=by
 have hmk:=zhx ks.length hk
 have hsz:(Tryz.prog.info? 3).map (·.size)=some 1:=by kernel_rfl
 have HKS:Hid (∀ o1,zah (w.alloc o1) ka ks):=fun o1=>hks.below (zab _ _)
 have HG:Hid ((w.alloc (.cells (madeCells #[.int .i64 0] ks.length) 3)).heap[w.heap.size]?=some (.cells (madeCells #[.int .i64 0] ks.length).toList.toArray 3 (0,0))):=by
  have:=heap_alloc_new w (.cells (madeCells #[.int .i64 0] ks.length) 3)
  show _=_
  simpa using this
 have HP:Hid (∀ o1,0<(ks.map (Value.int .i64)).length→some (⟨w.heap.size,0,none⟩:Addr)=some ⟨w.heap.size,0,none⟩∧∃ ad,ka=some ad∧∀ j v,(ks.map (Value.int .i64))[j]?=some v→(w.alloc o1).cell? (ad.add j)=some v):=fun o1 h0=>by
  refine⟨rfl,?_⟩
  obtain⟨b,o,rfl,_⟩:=HKS.out o1 0 (by simpa using h0)
  refine⟨_,rfl,fun j v hj=>?_⟩
  obtain⟨hl,hv⟩:=List.getElem?_eq_some_iff.1 hj
  obtain⟨b', o', e', hc⟩:=HKS.out o1 j (by simpa using hl)
  cases e'
  rw[List.getElem_map] at hv
  rw[zad ks 0 (by simpa using hl),hv] at hc
  rw[Addr.add_lit];exact hc
 have HSP:Hid (splice (madeCells #[.int .i64 0] ks.length).toList 0 (ks.map (Value.int .i64))=ks.map (Value.int .i64)):=by
  show splice _ _ _=_
  simp[splice,size_madeCells]
 clear hks
 go_enter Tryz.func100,Tryz.ntmps100
 go_wp2_with (refine wpList_copy_splice rfl (.tmp 7) (.tmp 8) 29 29 rfl 3 Tryz.underlying29 hsz (some ⟨w.heap.size,0,none⟩) ka ks.length ks.length ks.length kc rfl rfl w.heap.size 0 (madeCells #[.int .i64 0] ks.length).toList 3 HG.out (ks.map (Value.int .i64)) (by simp) (HP.out _) (by simp[size_madeCells]) (by intro v hv;simp at hv;obtain⟨y,_,rfl⟩:=hv;rfl) w.heap.size _ (Below.refl _ _) (Nat.le_refl _) ?_)
 intro w3 hw3 hb3
 have HW3:Hid (w3.rowIs w.heap.size 3 ks.length (fun j=>.int .i64 (ks.getD j 0))):=by
  refine⟨_,hw3.out,?_,fun i hi=>?_⟩
  ·rw[HSP.out];simp
  ·rw[HSP.out]
   simp[hi]
 have HB3:Hid (Below w.heap.size w w3):=(zab _ _).trans hb3
 clear hb3 hw3
 go_wp2
 go_ret
 exact⟨rfl,HB3.out,HW3.out⟩
end Go.Proofs.YtojlkdekdbdpoaaGreat

namespace Go.Proofs.YtojlkdekdbdpoaaGreat
set_option maxRecDepth 100000
set_option maxHeartbeats 4000000
open Go.RowKit
theorem zox{w w1:World}{u:Bool}{n t m p:Int}{k:Value}{h:Int}{c:Bool}(hb:Below (w.heap.size+1+1) ((w.alloc (.cells #[.bool u,.int .i64 n,.int .i64 t,.int .i64 m,.int .i64 p,k,.int .i64 h,.bool c] 44)).alloc (.cells #[.bool false,.int .i64 0,.int .i64 0,.int .i64 0,.int .i64 0,.slice none 0 0,.int .i64 0,.bool false] 44)) w1) :
  (w1.cell? ⟨w.heap.size,0,none⟩=some (.bool u)∧w1.cell? ⟨w.heap.size,1,none⟩=some (.int .i64 n)∧w1.cell? ⟨w.heap.size,2,none⟩=some (.int .i64 t)∧w1.cell? ⟨w.heap.size,3,none⟩=some (.int .i64 m)∧w1.cell? ⟨w.heap.size,4,none⟩=some (.int .i64 p)∧w1.cell? ⟨w.heap.size,5,none⟩=some k∧w1.cell? ⟨w.heap.size,6,none⟩=some (.int .i64 h)∧w1.cell? ⟨w.heap.size,7,none⟩=some (.bool c)) ∧
  (w1.cell? ⟨w.heap.size+1,0,none⟩=some (.bool false)∧w1.cell? ⟨w.heap.size+1,1,none⟩=some (.int .i64 0)∧w1.cell? ⟨w.heap.size+1,2,none⟩=some (.int .i64 0)∧w1.cell? ⟨w.heap.size+1,3,none⟩=some (.int .i64 0)∧w1.cell? ⟨w.heap.size+1,4,none⟩=some (.int .i64 0)∧w1.cell? ⟨w.heap.size+1,5,none⟩=some (.slice none 0 0)∧w1.cell? ⟨w.heap.size+1,6,none⟩=some (.int .i64 0)∧w1.cell? ⟨w.heap.size+1,7,none⟩=some (.bool false)) ∧
  (∀ o,w1.frozen? ⟨w.heap.size,o,none⟩=false)∧(∀ o,w1.frozen? ⟨w.heap.size+1,o,none⟩=false):=by
 refine⟨⟨?_,?_,?_,?_,?_,?_,?_,?_⟩,⟨?_,?_,?_,?_,?_,?_,?_,?_⟩,fun o=>?_,fun o=>?_⟩
 ·exact(hb.cell (by simp;omega)).trans (by go_simp)
 ·exact(hb.cell (by simp;omega)).trans (by go_simp)
 ·exact(hb.cell (by simp;omega)).trans (by go_simp)
 ·exact(hb.cell (by simp;omega)).trans (by go_simp)
 ·exact(hb.cell (by simp;omega)).trans (by go_simp)
 ·exact(hb.cell (by simp;omega)).trans (by go_simp)
 ·exact(hb.cell (by simp;omega)).trans (by go_simp)
 ·exact(hb.cell (by simp;omega)).trans (by go_simp)
 ·exact(hb.cell (by simp)).trans (by go_simp)
 ·exact(hb.cell (by simp)).trans (by go_simp)
 ·exact(hb.cell (by simp)).trans (by go_simp)
 ·exact(hb.cell (by simp)).trans (by go_simp)
 ·exact(hb.cell (by simp)).trans (by go_simp)
 ·exact(hb.cell (by simp)).trans (by go_simp)
 ·exact(hb.cell (by simp)).trans (by go_simp)
 ·exact(hb.cell (by simp)).trans (by go_simp)
 ·exact(hb.frozen (by simp;omega)).trans (by go_simp)
 ·exact(hb.frozen (by simp)).trans (by go_simp)
theorem zfd(x:Nd)(ka:Option Addr)(kc:Nat)(w:World)(hk:x.ks.length≤1000000)(hks:zah w ka x.ks) :
  Calls Tryz.prog 99 #[.agg #[.bool x.u,.int .i64 x.n,.int .i64 x.t,.int .i64 x.m,.int .i64 x.p,.slice ka x.ks.length kc,.int .i64 x.h,.bool x.c]] w fun e w' => ∃ g,e=.returned (.agg #[.bool x.u,.int .i64 x.n,.int .i64 x.t,.int .i64 x.m,.int .i64 x.p,.slice (some ⟨g,0,none⟩) x.ks.length x.ks.length,.int .i64 x.h,.bool x.c])∧Below w.heap.size w w' ∧ w.heap.size≤g∧w'.rowIs g 3 x.ks.length (fun j=>.int .i64 (x.ks.getD j 0)):=by
 obtain⟨u,n,t,m,p,ks,h,c⟩:=x
 dsimp only at *
 have D:Hid (∀ o1 o2:Obj,_):=fun o1 o2=>zfc ka kc ks ((w.alloc o1).alloc o2) hk (hks.below (zaf _ _ _))
 clear hks
 obtain⟨l,hl⟩:∃ l,ks.length=l:=⟨_,rfl⟩
 rw[hl] at D
 rw[hl]
 clear hl hk
 go_enter Tryz.func99,Tryz.ntmps99
 go_wp2_with fail
 refine Calls.mono (D.out _ _) ?_
 rintro e w3 ⟨rfl,hb3,hrow⟩
 simp only[World.size_alloc] at hb3 hrow
 obtain⟨⟨l0,l1,l2,l3,l4,l5,l6,l7⟩,⟨z0,z1,z2,z3,z4,z5,z6,z7⟩,f1,f2⟩:=zox hb3
 have hsz3:w.heap.size+1+1<w3.heap.size:=World.rowIs.lt hrow
 have HW3:Hid (w3.rowIs (w.heap.size+1+1) 3 l (fun j=>.int .i64 (ks.getD j 0))):=hrow
 have HB3:Hid (Below w.heap.size w w3):=(zaf _ _ _).trans (hb3.mono (by omega))
 clear hb3 hrow D
 simp only[World.size_alloc]
 go_wp2
 refine bodyPost_ret (v:=.agg #[.bool u,.int .i64 n,.int .i64 t,.int .i64 m,.int .i64 p,.slice (some ⟨w.heap.size+1+1,0,none⟩) l l,.int .i64 h,.bool c]) (by simp[results,Tryz.results99,go_sem,z0,z1,z2,z3,z4,z5,z6,z7]) rfl ⟨w.heap.size+1+1,rfl,?_,by omega,?_⟩
 ·exact((((((((HB3.out.setCell (by simp) _).setCell (by simp) _).setCell (by simp) _).setCell (by simp) _).setCell (by simp) _).setCell (by simp) _).setCell (by simp) _).setCell (by simp) _).setCell (by simp) _
 ·exact((((((((HW3.out.setOther (by simp;omega) _).setOther (by simp) _).setOther (by simp) _).setOther (by simp) _).setOther (by simp) _).setOther (by simp) _).setOther (by simp) _).setOther (by simp) _).setOther (by simp) _
end Go.Proofs.YtojlkdekdbdpoaaGreat
