/-
  x
-/
import Derived.Test.YtojlkdekdbdpoaaGreatProg
import Derived.WalkKit
import Derived.Deep.LoopGhost
import Derived.Deep.Draws
import Derived.Laws.CopyOwn
import Derived.Deep.OwnRows
import Derived.Shelf.Abstract
namespace Go.Proofs.YtojlkdekdbdpoaaGreat
set_option maxRecDepth 100000
set_option maxHeartbeats 4000000
open Go.RowKit
structure Nd where
 u:Bool
 n:Int
 t:Int
 m:Int
 p:Int
 ks:List Int
 h:Int
 c:Bool
def zcC:Nd:=⟨false,0,0,0,0,[],0,false⟩
theorem zad{α:Type}(l:List α)(d:α){k:Nat}(h:k<l.length):l.getD k d=l[k]:=by
 simp[List.getD,h]
def zah(w:World)(a:Option Addr)(ks:List Int):Prop :=
 ∀ i,i<ks.length→∃ b o,a=some ⟨b,o,none⟩∧w.cell? ⟨b,o+i,none⟩=some (.int .i64 (ks.getD i 0))
theorem zah.below{w w' : World}{a:Option Addr}{ks:List Int}(h:zah w a ks)(hb:Below w.heap.size w w'):zah w' a ks:=by
 intro i hi
 obtain⟨b,o,e,hc⟩:=h i hi
 exact⟨b,o,e,(hb.cell (World.block_lt_of_cell? w ⟨b,o+i,none⟩ hc)).trans hc⟩
def Tells(K:Nat)(caps:Array Value)(p:Int→Bool)(w:World):Prop :=
 ∀ (x:Int) (w1:World),Below w.heap.size w w1→Calls Tryz.prog K (#[.int .i64 x] ++ caps) w1 fun e w2=>e=.returned (.bool (p x))∧Below w1.heap.size w1 w2
theorem zev(K:Nat)(caps:Array Value)(p:Int→Bool)(a:Option Addr)(c:Nat)(ks:List Int)(w:World)(hbig:ks.length≤9223372036854775807)(hks:zah w a ks)
  (eg:∀ args w,(callFunc K args).run Tryz.prog w=.ok (.enter K args) w) (hf:Tells K caps p w) :
  Calls Tryz.prog 127 #[.slice a ks.length c,.func (.func K) #[] caps] w fun e w' => ∃ r:Int,e=.returned (.int .i64 r)∧Below w.heap.size w w' ∧
   ((r = -1∧∀ i,i<ks.length→p (ks.getD i 0)=false)∨(∃ k:Nat,k<ks.length∧r=k∧p (ks.getD k 0)=true∧∀ i,i<k→p (ks.getD i 0)=false)):=by
 generalize hn:ks.length=n at *
 go_enter Tryz.func127,Tryz.ntmps127
 go_wp2
 go_loopg [8] n (fun g s8 wr=>∃ k:Nat,k≤n∧n-k≤g∧s8=.int .i64 k∧Below w.heap.size w wr∧Hid (∀ i,i<k→p (ks.getD i 0)=false))
 case atStart=>exact⟨0,by omega,by omega,rfl,Below.refl _ _,fun i hi=>by omega⟩
 case round =>
  obtain⟨k,hk,hg,rfl,hb,A⟩:=hrel
  by_cases hlt:k<n
  ·obtain⟨b,o,rfl,hc⟩:=(hks.below hb) k (by omega)
   have hcall:=hf (ks.getD k 0) wr hb
   have F:Hid (Tells K caps p w):=hf
   have KS:Hid (zah w (some ⟨b,o,none⟩) ks):=hks
   clear hks hf
   generalize hy:ks.getD k 0=y at hc hcall
   have Y:Hid (ks.getD k 0=y):=hy
   clear hy
   cases hq:p y with
   | true =>
    rw[hq] at hcall
    go_wp2_with (go_at_fn K;refine hcall.mono ?_;rintro e w' ⟨rfl,hb2⟩)
    go_ret
    exact⟨k,rfl,hb.trans (hb2.mono hb.size),Or.inr ⟨k,hlt,rfl,by rw[Y.out];exact hq,A.out⟩⟩
   | false =>
    rw[hq] at hcall
    go_wp2_with (go_at_fn K;refine hcall.mono ?_;rintro e w' ⟨rfl,hb2⟩)
    go_roundg (n-(k+1))
    case measure=>omega
    case rel =>
     refine⟨k+1,by omega,by omega,by go_num,hb.trans (hb2.mono hb.size),(show Hid _ from fun i hi=>?_)⟩
     by_cases e:i=k
     ·subst e
      rw[Y.out];exact hq
     ·exact A.out i (by omega)
  ·have:k=n:=by omega
   subst this
   clear hks hf
   go_wp2
   go_ret
   exact⟨-1,rfl,hb,Or.inl ⟨rfl,A.out⟩⟩
theorem zdm(K:Nat)(caps:Array Value)(p:Int→Bool)(a:Option Addr)(c:Nat)(ks:List Int)(w:World)(hbig:ks.length≤9223372036854775807)(hks:zah w a ks)
  (eg:∀ args w,(callFunc K args).run Tryz.prog w=.ok (.enter K args) w) (hf:Tells K caps p w) :
  Calls Tryz.prog 106 #[.slice a ks.length c,.func (.func K) #[] caps] w fun e w' => e=.returned (.bool (ks.any p))∧Below w.heap.size w w' := by
 have h:=zev K caps p a c ks w hbig hks eg hf
 have any_of:∀ k,k<ks.length→p (ks.getD k 0)=true→ks.any p=true:=fun k hk hp=>List.any_eq_true.2 ⟨ks.getD k 0,by rw[zad _ _ hk];exact List.getElem_mem hk,hp⟩
 have none_of:(∀ i,i<ks.length→p (ks.getD i 0)=false)→ks.any p=false:=fun H=>by
  rw[List.any_eq_false]
  intro x hx
  obtain⟨i,hi,rfl⟩:=List.getElem_of_mem hx
  have:=H i hi
  rw[zad _ _ hi] at this
  simp[this]
 have H:Hid _:=any_of
 have N:Hid _:=none_of
 clear any_of none_of hks hf
 go_enter Tryz.func106,Tryz.ntmps106
 go_wp2_with (go_at_call 127;refine h.mono ?_;rintro e w' ⟨r,rfl,hb,hr⟩)
 go_ret
 refine⟨?_,hb⟩
 rcases hr with ⟨rfl,hall⟩ |⟨k,hk,rfl,hp,_⟩
 ·rw[N.out hall];rfl
 ·rw[H.out k hk hp]
  simp
end Go.Proofs.YtojlkdekdbdpoaaGreat

namespace Go.Proofs.YtojlkdekdbdpoaaGreat
set_option maxRecDepth 100000
set_option maxHeartbeats 4000000
open Go.RowKit
theorem zaU(x a b:Int)(w:World) :
  Calls Tryz.prog 39 #[.int .i64 x,.int .i64 a,.int .i64 b] w fun e w' => e=.returned (.bool (decide (a≤x∧x≤b)))∧w' = w:=by
 by_cases h1:a≤x
 ·by_cases h2:x≤b
  ·have h:decide (a≤x∧x≤b)=true:=by simp[h1,h2]
   rw[h]
   clear h
   go_enter Tryz.func39,Tryz.ntmps39
   go_wp2
   go_ret
   exact⟨rfl,rfl⟩
  ·have h:decide (a≤x∧x≤b)=false:=by simp[h2]
   rw[h]
   clear h
   go_enter Tryz.func39,Tryz.ntmps39
   go_wp2
   go_ret
   exact⟨rfl,rfl⟩
 ·have h:decide (a≤x∧x≤b)=false:=by simp[h1]
  rw[h]
  clear h
  go_enter Tryz.func39,Tryz.ntmps39
  go_wp2
  go_ret
  exact⟨rfl,rfl⟩
theorem zcT(x a b:Int)(w:World)(h1:a≤x)(h2:x≤b) :
  Calls Tryz.prog 39 #[.int .i64 x,.int .i64 a,.int .i64 b] w fun e w' => e=.returned (.bool true)∧w' = w:=by
 have h:=zaU x a b w
 rwa [decide_eq_true (by exact⟨h1,h2⟩)] at h
theorem zeu(x a b:Int)(w:World)(h1:x<a∨b<x) :
  Calls Tryz.prog 39 #[.int .i64 x,.int .i64 a,.int .i64 b] w fun e w' => e=.returned (.bool false)∧w' = w:=by
 have h:=zaU x a b w
 rwa [decide_eq_false (by omega)] at h
theorem zeT(n:Int)(w:World) :
  Calls Tryz.prog 40 #[.int .i64 n] w fun e w' => e=.returned (.agg #[.bool false,.int .i64 n,.int .i64 0,.int .i64 0,.int .i64 (-1),.slice none 0 0,.int .i64 (-1),.bool false])∧w' = w.alloc (.cells #[.bool false,.int .i64 n,.int .i64 0,.int .i64 0,.int .i64 (-1),.slice none 0 0,.int .i64 (-1),.bool false] 44):=by
 go_enter Tryz.func40,Tryz.ntmps40
 go_wp2
 exact bodyPost_ret (v:=.agg #[.bool false,.int .i64 n,.int .i64 0,.int .i64 0,.int .i64 (-1),.slice none 0 0,.int .i64 (-1),.bool false]) (by simp[results,Tryz.results40,go_sem]) rfl ⟨rfl,rfl⟩
def okPl(N x:Int):Bool:=decide (-1≤x∧x≤N-1)
theorem zfv(x N:Int)(b:Nat)(w:World)(hc:w.cell? ⟨b,0,none⟩=some (.int .i64 N))(hN:0≤N∧N≤24) :
  Calls Tryz.prog 124 #[.int .i64 x,.pointer (some ⟨b,0,none⟩)] w fun e w' => e=.returned (.bool (!okPl N x))∧w' = w:=by
 have hw:=zaU x (-1) (N-1)
 rw[show decide (-1≤x∧x≤N-1)=okPl N x from rfl] at hw
 generalize okPl N x=r at hw
 go_enter Tryz.func124,Tryz.ntmps124
 go_wp2_with (go_at_call 39;refine(hw _).mono ?_;rintro e w' ⟨rfl,rfl⟩)
 go_ret
 exact⟨rfl,rfl⟩
def zbF(x:Nd):Bool:=decide (0≤x.n∧x.n≤1000000) && (decide (0≤x.t∧x.t≤99) && decide (-1000000≤x.m∧x.m≤1000000))
theorem ziB(x:Nd)(k:Value)(w:World) :
  Calls Tryz.prog 101 #[.agg #[.bool x.u,.int .i64 x.n,.int .i64 x.t,.int .i64 x.m,.int .i64 x.p,k,.int .i64 x.h,.bool x.c]] w fun e w' => e=.returned (.bool (zbF x))∧Below w.heap.size w w' := by
 unfold zbF
 have d1:=zaU x.n 0 1000000
 have d2:=zaU x.t 0 99
 have d3:=zaU x.m (-1000000) 1000000
 generalize decide (0≤x.n∧x.n≤1000000)=b1 at *
 generalize decide (0≤x.t∧x.t≤99)=b2 at *
 generalize decide (-1000000≤x.m∧x.m≤1000000)=b3 at *
 cases b1
 rotate_left
 cases b2
 rotate_left
 cases b3
 all_goals
  go_enter Tryz.func101,Tryz.ntmps101
  go_wp2_with (first|(go_at_call_of 39 (Value.int .i64 x.n);refine(d1 _).mono ?_;rintro e w' ⟨rfl,rfl⟩)|(go_at_call_of 39 (Value.int .i64 x.t);refine(d2 _).mono ?_;rintro e w' ⟨rfl,rfl⟩)|(go_at_call_of 39 (Value.int .i64 x.m);refine(d3 _).mono ?_;rintro e w' ⟨rfl,rfl⟩))
  go_ret
  exact⟨rfl,(Below.refl _ _).alloc (Nat.le_refl _) _⟩
def zbk(N:Int)(x:Nd):Bool:=okPl N x.p && (okPl N x.h && !(x.ks.any fun k=>!okPl N k))
theorem zfA(x:Nd)(ka:Option Addr)(kc:Nat)(N:Int)(w:World)(hN:0≤N∧N≤24)(hbig:x.ks.length≤9223372036854775807)(hks:zah w ka x.ks) :
  Calls Tryz.prog 102 #[.agg #[.bool x.u,.int .i64 x.n,.int .i64 x.t,.int .i64 x.m,.int .i64 x.p,.slice ka x.ks.length kc,.int .i64 x.h,.bool x.c],.int .i64 N] w fun e w' => e=.returned (.bool (zbk N x))∧Below w.heap.size w w' := by
 unfold zbk
 have d1:=zfv x.p N
 have d2:=zfv x.h N
 have hT:∀ w1:World,w1.cell? ⟨w.heap.size+1,0,none⟩=some (.int .i64 N)→Tells 124 #[.pointer (some ⟨w.heap.size+1,0,none⟩)] (fun k=>!okPl N k) w1:=fun w1 h1 y w2 hb2 =>
  (zfv y N (w.heap.size+1) w2 ((hb2.cell (World.block_lt_of_cell? w1 _ h1)).trans h1) hN).mono (fun e w3 h=>⟨h.1,by rw[h.2];exact Below.refl _ _⟩)
 have d3:=fun(W:World) (hk:zah W ka x.ks) (hc:W.cell? ⟨w.heap.size+1,0,none⟩=some (.int .i64 N))=>zdm 124 #[.pointer (some ⟨w.heap.size+1,0,none⟩)] (fun k=>!okPl N k) ka kc x.ks W hbig hk (enters_of Tryz.func124 (by kernel_rfl) rfl) (hT W hc)
 have hk2:∀ o1 o2,zah ((w.alloc o1).alloc o2) ka x.ks:=fun o1 o2=>hks.below (((Below.refl _ _).alloc (Nat.le_refl _) _).alloc (by simp) _)
 have K2:Hid _:=hk2
 clear hk2 hks hT
 generalize okPl N x.p=b1 at *
 generalize okPl N x.h=b2 at *
 generalize (x.ks.any fun k=>!okPl N k)=b3 at *
 cases b1
 rotate_left
 cases b2
 rotate_left
 cases b3
 all_goals
  go_enter Tryz.func102,Tryz.ntmps102
  go_wp2_with (first|(go_at_call_of 124 (Value.int .i64 x.p);refine(d1 _ _ (by go_simp) hN).mono ?_;rintro e w' ⟨rfl,rfl⟩)|(go_at_call_of 124 (Value.int .i64 x.h);refine(d2 _ _ (by go_simp) hN).mono ?_;rintro e w' ⟨rfl,rfl⟩)|(go_at_call 106;refine(d3 _ (K2.out _ _) (by go_simp)).mono ?_;rintro e w' ⟨rfl,hb⟩))
 all_goals go_ret
 all_goals first
  | exact⟨rfl,((Below.refl _ _).alloc (Nat.le_refl _) _).alloc (by simp) _⟩
  | exact⟨rfl,(((Below.refl _ _).alloc (Nat.le_refl _) _).alloc (by simp) _).trans (hb.mono (by simp;omega))⟩
theorem zcN(a a' : Option Addr)(c c' : Nat)(ks ks' : List Int)(w:World)(hbig:ks.length≤9223372036854775807)(h1:zah w a ks)(h2:zah w a' ks') :
  Calls Tryz.prog 24 #[.slice a ks.length c,.slice a' ks'.length c'] w fun e w' => e=.returned (.bool (decide (ks=ks')))∧Below w.heap.size w w' := by
 by_cases hl:ks.length=ks'.length
 ·have same:(∀ i,i<ks.length→ks.getD i 0=ks'.getD i 0)→decide (ks=ks')=true:=fun H=>by
   refine decide_eq_true (List.ext_getElem hl fun i hi hi' => ?_)
   have:=H i hi
   rwa [zad _ _ hi,zad _ _ hi'] at this
  have other:∀ i,ks.getD i 0≠ks'.getD i 0→decide (ks=ks')=false:=fun i H=>decide_eq_false fun e=>H (by rw[e])
  rw[← hl]
  have S:Hid _:=same
  have O:Hid _:=other
  clear same other
  generalize hn:ks.length=n at *
  go_enter Tryz.func24,Tryz.ntmps24
  go_wp2
  go_loopg [13] n (fun g s13 wr=>∃ k:Nat,k≤n∧n-k≤g∧s13=.int .i64 k∧Below w.heap.size w wr∧Hid (∀ i,i<k→ks.getD i 0=ks'.getD i 0))
  case atStart=>exact⟨0,Nat.zero_le _,by omega,rfl,Below.refl _ _,fun i hi=>by omega⟩
  case round =>
   obtain⟨k,hk,hg,rfl,hb,A⟩:=hrel
   by_cases hlt:k<n
   ·obtain⟨b,o,rfl,g1⟩:=(h1.below hb) k (by omega)
    obtain⟨b', o', rfl,g2⟩:=(h2.below hb) k (by omega)
    clear h1 h2
    by_cases he:ks.getD k 0=ks'.getD k 0
    ·have E:Hid (ks.getD k 0=ks'.getD k 0):=he
     rw[← he] at g2
     clear he
     generalize ks.getD k 0=y at g1 g2
     go_wp2_with fail
     go_region
     all_goals go_wp2
     all_goals go_roundg (n-(k+1))
     case measure=>omega
     case rel =>
      refine⟨k+1,by omega,by omega,by go_num,hb.drew,(show Hid _ from fun i hi=>?_)⟩
      by_cases e:i=k
      ·subst e
       exact E.out
      ·exact A.out i (by omega)
    ·have Z:=O.out k he
     generalize ks.getD k 0=y at g1 he
     generalize ks'.getD k 0=y' at g2 he
     go_wp2_with fail
     go_region
     all_goals go_wp2
     all_goals go_ret
     rw[Z]
     exact⟨rfl,hb.drew⟩
   ·clear h1 h2
    have:k=n:=by omega
    subst this
    go_wp2
    go_ret
    rw[S.out A.out]
    exact⟨rfl,hb⟩
 ·have hd:decide (ks=ks')=false:=decide_eq_false fun e=>hl (by rw[e])
  have hl' : ¬ ((ks.length:Int)=(ks'.length:Int)):=by omega
  rw[hd]
  clear h1 h2 hd
  generalize ks.length=n at *
  generalize ks'.length=n' at *
  go_enter Tryz.func24,Tryz.ntmps24
  go_wp2
  go_ret
  exact⟨rfl,Below.refl _ _⟩
end Go.Proofs.YtojlkdekdbdpoaaGreat

namespace Go.Proofs.YtojlkdekdbdpoaaGreat
set_option maxRecDepth 100000
set_option maxHeartbeats 4000000
open Go.RowKit
theorem zcm{w w1:World}{u u' : Bool}{n n' t t' m m' p p' : Int}{k k' : Value}{h h' : Int}{c c' : Bool}(hb:Below (w.heap.size+1+1) ((w.alloc (.cells #[.bool u,.int .i64 n,.int .i64 t,.int .i64 m,.int .i64 p,k,.int .i64 h,.bool c] 44)).alloc (.cells #[.bool u', .int .i64 n', .int .i64 t', .int .i64 m', .int .i64 p', k', .int .i64 h', .bool c'] 44)) w1) :
  w1.cell? ⟨w.heap.size,6,none⟩=some (.int .i64 h)∧w1.cell? ⟨w.heap.size,7,none⟩=some (.bool c)∧w1.cell? ⟨w.heap.size+1,6,none⟩=some (.int .i64 h')∧w1.cell? ⟨w.heap.size+1,7,none⟩=some (.bool c') :=
 ⟨(hb.cell (by simp;omega)).trans (by go_simp),(hb.cell (by simp;omega)).trans (by go_simp),(hb.cell (by simp)).trans (by go_simp),(hb.cell (by simp)).trans (by go_simp)⟩
theorem zfe(u u' : Bool)(n n' t t' m m' p p' : Int)(ks ks' : List Int)(ka ka' : Option Addr)(kc kc' : Nat)(h h' : Int)(c c' : Bool)(w:World)(hbig:ks.length≤9223372036854775807)(h1:zah w ka ks)(h2:zah w ka' ks') :
  Calls Tryz.prog 65 #[.agg #[.bool u,.int .i64 n,.int .i64 t,.int .i64 m,.int .i64 p,.slice ka ks.length kc,.int .i64 h,.bool c],.agg #[.bool u', .int .i64 n', .int .i64 t', .int .i64 m', .int .i64 p', .slice ka' ks'.length kc', .int .i64 h', .bool c']] w fun e w' => e=.returned (.bool (decide (u=u' ∧ n=n' ∧ t=t' ∧ m=m' ∧ p=p' ∧ ks=ks' ∧ h=h' ∧ c=c')))∧Below w.heap.size w w' := by
 have hk:=fun(W:World) (g1:zah W ka ks) (g2:zah W ka' ks')=>zcN ka ka' kc kc' ks ks' W hbig g1 g2
 have i1:∀ o1 o2,zah ((w.alloc o1).alloc o2) ka ks:=fun o1 o2=>h1.below (((Below.refl _ _).alloc (Nat.le_refl _) _).alloc (by simp) _)
 have i2:∀ o1 o2,zah ((w.alloc o1).alloc o2) ka' ks' := fun o1 o2=>h2.below (((Below.refl _ _).alloc (Nat.le_refl _) _).alloc (by simp) _)
 have I1:Hid _:=i1
 have I2:Hid _:=i2
 clear i1 i2 h1 h2
 by_cases Eu:u=u'
 ·subst Eu
  by_cases En:n=n'
  ·subst En
   by_cases Et:t=t'
   ·subst Et
    by_cases Em:m=m'
    ·subst Em
     by_cases Ep:p=p'
     ·subst Ep
      by_cases EK:ks=ks'
      ·have ED:decide (ks=ks')=true:=decide_eq_true EK
       rw[ED] at hk
       clear ED
       by_cases Eh:h=h'
       ·subst Eh
        by_cases Ec:c=c'
        ·subst Ec
         have hs:decide (u=u∧n=n∧t=t∧m=m∧p=p∧ks=ks' ∧ h=h∧c=c)=true:=by simp[EK]
         rw[hs]
         clear hs EK
         go_enter Tryz.func65,Tryz.ntmps65
         go_wp2_with (go_at_call 24;refine(hk _ (I1.out _ _) (I2.out _ _)).mono ?_;rintro e w' ⟨rfl,hb⟩;simp only[World.size_alloc] at hb;obtain⟨l1,l2,l3,l4⟩:=zcm hb)
         go_ret
         first
          | exact⟨rfl,((Below.refl _ _).alloc (Nat.le_refl _) _).alloc (by simp) _⟩
          | exact⟨rfl,(((Below.refl _ _).alloc (Nat.le_refl _) _).alloc (by simp) _).trans (hb.mono (by omega))⟩
        ·have hs:decide (u=u∧n=n∧t=t∧m=m∧p=p∧ks=ks' ∧ h=h∧c=c')=false:=by simp[Ec]
         rw[hs]
         clear hs EK
         cases c <;> cases c' <;> first|exact absurd rfl Ec|skip
         all_goals
          go_enter Tryz.func65,Tryz.ntmps65
          go_wp2_with (go_at_call 24;refine(hk _ (I1.out _ _) (I2.out _ _)).mono ?_;rintro e w' ⟨rfl,hb⟩;simp only[World.size_alloc] at hb;obtain⟨l1,l2,l3,l4⟩:=zcm hb)
          go_ret
          first
           | exact⟨rfl,((Below.refl _ _).alloc (Nat.le_refl _) _).alloc (by simp) _⟩
           | exact⟨rfl,(((Below.refl _ _).alloc (Nat.le_refl _) _).alloc (by simp) _).trans (hb.mono (by omega))⟩
       ·have hs:decide (u=u∧n=n∧t=t∧m=m∧p=p∧ks=ks' ∧ h=h' ∧ c=c')=false:=by simp[Eh]
        rw[hs]
        clear hs EK
        go_enter Tryz.func65,Tryz.ntmps65
        go_wp2_with (go_at_call 24;refine(hk _ (I1.out _ _) (I2.out _ _)).mono ?_;rintro e w' ⟨rfl,hb⟩;simp only[World.size_alloc] at hb;obtain⟨l1,l2,l3,l4⟩:=zcm hb)
        go_ret
        first
         | exact⟨rfl,((Below.refl _ _).alloc (Nat.le_refl _) _).alloc (by simp) _⟩
         | exact⟨rfl,(((Below.refl _ _).alloc (Nat.le_refl _) _).alloc (by simp) _).trans (hb.mono (by omega))⟩
      ·have ED:decide (ks=ks')=false:=decide_eq_false EK
       rw[ED] at hk
       have hs:decide (u=u∧n=n∧t=t∧m=m∧p=p∧ks=ks' ∧ h=h' ∧ c=c')=false:=by simp[EK]
       rw[hs]
       clear hs EK ED
       go_enter Tryz.func65,Tryz.ntmps65
       go_wp2_with (go_at_call 24;refine(hk _ (I1.out _ _) (I2.out _ _)).mono ?_;rintro e w' ⟨rfl,hb⟩;simp only[World.size_alloc] at hb;obtain⟨l1,l2,l3,l4⟩:=zcm hb)
       go_ret
       first
        | exact⟨rfl,((Below.refl _ _).alloc (Nat.le_refl _) _).alloc (by simp) _⟩
        | exact⟨rfl,(((Below.refl _ _).alloc (Nat.le_refl _) _).alloc (by simp) _).trans (hb.mono (by omega))⟩
     ·have hs:decide (u=u∧n=n∧t=t∧m=m∧p=p' ∧ ks=ks' ∧ h=h' ∧ c=c')=false:=by simp[Ep]
      rw[hs]
      clear hs
      go_enter Tryz.func65,Tryz.ntmps65
      go_wp2_with (go_at_call 24;refine(hk _ (I1.out _ _) (I2.out _ _)).mono ?_;rintro e w' ⟨rfl,hb⟩;simp only[World.size_alloc] at hb;obtain⟨l1,l2,l3,l4⟩:=zcm hb)
      go_ret
      first
       | exact⟨rfl,((Below.refl _ _).alloc (Nat.le_refl _) _).alloc (by simp) _⟩
       | exact⟨rfl,(((Below.refl _ _).alloc (Nat.le_refl _) _).alloc (by simp) _).trans (hb.mono (by omega))⟩
    ·have hs:decide (u=u∧n=n∧t=t∧m=m' ∧ p=p' ∧ ks=ks' ∧ h=h' ∧ c=c')=false:=by simp[Em]
     rw[hs]
     clear hs
     go_enter Tryz.func65,Tryz.ntmps65
     go_wp2_with (go_at_call 24;refine(hk _ (I1.out _ _) (I2.out _ _)).mono ?_;rintro e w' ⟨rfl,hb⟩;simp only[World.size_alloc] at hb;obtain⟨l1,l2,l3,l4⟩:=zcm hb)
     go_ret
     first
      | exact⟨rfl,((Below.refl _ _).alloc (Nat.le_refl _) _).alloc (by simp) _⟩
      | exact⟨rfl,(((Below.refl _ _).alloc (Nat.le_refl _) _).alloc (by simp) _).trans (hb.mono (by omega))⟩
   ·have hs:decide (u=u∧n=n∧t=t' ∧ m=m' ∧ p=p' ∧ ks=ks' ∧ h=h' ∧ c=c')=false:=by simp[Et]
    rw[hs]
    clear hs
    go_enter Tryz.func65,Tryz.ntmps65
    go_wp2_with (go_at_call 24;refine(hk _ (I1.out _ _) (I2.out _ _)).mono ?_;rintro e w' ⟨rfl,hb⟩;simp only[World.size_alloc] at hb;obtain⟨l1,l2,l3,l4⟩:=zcm hb)
    go_ret
    first
     | exact⟨rfl,((Below.refl _ _).alloc (Nat.le_refl _) _).alloc (by simp) _⟩
     | exact⟨rfl,(((Below.refl _ _).alloc (Nat.le_refl _) _).alloc (by simp) _).trans (hb.mono (by omega))⟩
  ·have hs:decide (u=u∧n=n' ∧ t=t' ∧ m=m' ∧ p=p' ∧ ks=ks' ∧ h=h' ∧ c=c')=false:=by simp[En]
   rw[hs]
   clear hs
   go_enter Tryz.func65,Tryz.ntmps65
   go_wp2_with (go_at_call 24;refine(hk _ (I1.out _ _) (I2.out _ _)).mono ?_;rintro e w' ⟨rfl,hb⟩;simp only[World.size_alloc] at hb;obtain⟨l1,l2,l3,l4⟩:=zcm hb)
   go_ret
   first
    | exact⟨rfl,((Below.refl _ _).alloc (Nat.le_refl _) _).alloc (by simp) _⟩
    | exact⟨rfl,(((Below.refl _ _).alloc (Nat.le_refl _) _).alloc (by simp) _).trans (hb.mono (by omega))⟩
 ·have hs:decide (u=u' ∧ n=n' ∧ t=t' ∧ m=m' ∧ p=p' ∧ ks=ks' ∧ h=h' ∧ c=c')=false:=by simp[Eu]
  rw[hs]
  clear hs
  cases u <;> cases u' <;> first|exact absurd rfl Eu|skip
  all_goals
   go_enter Tryz.func65,Tryz.ntmps65
   go_wp2_with (go_at_call 24;refine(hk _ (I1.out _ _) (I2.out _ _)).mono ?_;rintro e w' ⟨rfl,hb⟩;simp only[World.size_alloc] at hb;obtain⟨l1,l2,l3,l4⟩:=zcm hb)
   go_ret
   first
    | exact⟨rfl,((Below.refl _ _).alloc (Nat.le_refl _) _).alloc (by simp) _⟩
    | exact⟨rfl,(((Below.refl _ _).alloc (Nat.le_refl _) _).alloc (by simp) _).trans (hb.mono (by omega))⟩
def formB(x:Nd):Bool:=if x.u then (if x.n=0 then false else if x.h = -1 then !x.c else decide (x.p = -1)) else decide (x.t=0∧x.m=0∧x.p = -1∧x.ks=[]∧x.h = -1∧x.c=false)
theorem zoA(w:World)(a:Option Addr):zah w a []:=fun _ hi=>absurd hi (Nat.not_lt_zero _)
theorem zfO(n n' t m p:Int)(ks:List Int)(ka:Option Addr)(kc:Nat)(h:Int)(c:Bool)(w:World)(hn:n' = n)(hbig:ks.length≤9223372036854775807)(h1:zah w ka ks) :
  Calls Tryz.prog 65 #[.agg #[.bool false,.int .i64 n,.int .i64 t,.int .i64 m,.int .i64 p,.slice ka ks.length kc,.int .i64 h,.bool c],.agg #[.bool false,.int .i64 n', .int .i64 0,.int .i64 0,.int .i64 (-1),.slice none 0 0,.int .i64 (-1),.bool false]] w fun e w' => e=.returned (.bool (decide (t=0∧m=0∧p = -1∧ks=[]∧h = -1∧c=false)))∧Below w.heap.size w w' := by
 subst hn
 have H:=zfe false false n' n' t 0 m 0 p (-1) ks [] ka none kc 0 h (-1) c false w hbig h1 (zoA _ _)
 have e:decide (false=false∧n' = n' ∧ t=0∧m=0∧p = -1∧ks=[]∧h = -1∧c=false)=decide (t=0∧m=0∧p = -1∧ks=[]∧h = -1∧c=false):=by
  congr 1;simp
 rw[e] at H
 exact H
end Go.Proofs.YtojlkdekdbdpoaaGreat

namespace Go.Proofs.YtojlkdekdbdpoaaGreat
set_option maxRecDepth 100000
set_option maxHeartbeats 4000000
open Go.RowKit
theorem Below.drewNs{B:Nat}{a w:World}(h:Below B a w)(q:Nat):Below B a (w.drewN q):=⟨h.os,h.tape,h.output,h.size,h.block⟩
theorem zkK(x:Nd)(ka:Option Addr)(kc:Nat)(w:World)(hbig:x.ks.length≤9223372036854775807)(hks:zah w ka x.ks) :
  Calls Tryz.prog 103 #[.agg #[.bool x.u,.int .i64 x.n,.int .i64 x.t,.int .i64 x.m,.int .i64 x.p,.slice ka x.ks.length kc,.int .i64 x.h,.bool x.c]] w fun e w' => e=.returned (.bool (formB x))∧Below w.heap.size w w' := by
 obtain⟨u,n,t,m,p,ks,h,c⟩:=x
 unfold formB
 dsimp only at *
 cases u
 ·have hs:=fun(W:World) (g1:zah W ka ks)=>zfO n n t m p ks ka kc h c W rfl hbig g1
  have i1:∀ o1 o2 q,zah (((w.alloc o1).alloc o2).drewN q) ka ks:=fun o1 o2 q=>hks.below (Below.drewNs (((Below.refl _ _).alloc (Nat.le_refl _) _).alloc (by simp) _) q)
  have I1:Hid _:=i1
  clear i1 hks
  generalize hL:ks.length=L at *
  simp only[Bool.false_eq_true,if_false]
  generalize decide (t=0∧m=0∧p = -1∧ks=[]∧h = -1∧c=false)=r at *
  go_enter Tryz.func103,Tryz.ntmps103
  go_wp2_with fail
  go_region_with (first|(go_at_call 40;refine(zeT _ _).mono ?_;rintro e w' ⟨rfl,rfl⟩)|(go_at_call 65;refine(hs _ (I1.out _ _ _)).mono ?_;rintro e w' ⟨rfl,hb⟩))
  all_goals go_wp2
  all_goals go_ret
  all_goals exact⟨rfl,(Below.drewNs (((Below.refl _ _).alloc (Nat.le_refl _) _).alloc (by simp) _) _).trans (hb.mono (by simp[World.drewN];omega))⟩
 ·clear hks
  simp only[if_true]
  by_cases hn:n=0
  ·subst hn
   simp only[if_true]
   go_enter Tryz.func103,Tryz.ntmps103
   go_wp2
   go_ret
   exact⟨rfl,(Below.refl _ _).alloc (Nat.le_refl _) _⟩
  ·simp only[if_neg hn]
   by_cases hh:h = -1
   ·subst hh
    simp only[if_true]
    go_enter Tryz.func103,Tryz.ntmps103
    go_wp2
    go_ret
    exact⟨rfl,(Below.refl _ _).alloc (Nat.le_refl _) _⟩
   ·simp only[if_neg hh]
    go_enter Tryz.func103,Tryz.ntmps103
    go_wp2
    go_ret
    exact⟨rfl,(Below.refl _ _).alloc (Nat.le_refl _) _⟩
def nodeE(N:Int)(x:Nd):Int:=if zbF x then (if zbk N x then (if formB x then 0 else 3) else 4) else 2
theorem zju{w w1:World}{u:Bool}{n t m p:Int}{k:Value}{h:Int}{c:Bool}(hb:Below (w.heap.size+1) (w.alloc (.cells #[.bool u,.int .i64 n,.int .i64 t,.int .i64 m,.int .i64 p,k,.int .i64 h,.bool c] 44)) w1) :
  w1.cell? ⟨w.heap.size,0,none⟩=some (.bool u)∧w1.cell? ⟨w.heap.size,1,none⟩=some (.int .i64 n)∧w1.cell? ⟨w.heap.size,2,none⟩=some (.int .i64 t)∧w1.cell? ⟨w.heap.size,3,none⟩=some (.int .i64 m)∧w1.cell? ⟨w.heap.size,4,none⟩=some (.int .i64 p)∧w1.cell? ⟨w.heap.size,5,none⟩=some k∧w1.cell? ⟨w.heap.size,6,none⟩=some (.int .i64 h)∧w1.cell? ⟨w.heap.size,7,none⟩=some (.bool c) :=
 ⟨(hb.cell (by simp)).trans (by go_simp),(hb.cell (by simp)).trans (by go_simp),(hb.cell (by simp)).trans (by go_simp),(hb.cell (by simp)).trans (by go_simp),(hb.cell (by simp)).trans (by go_simp),(hb.cell (by simp)).trans (by go_simp),(hb.cell (by simp)).trans (by go_simp),(hb.cell (by simp)).trans (by go_simp)⟩
theorem zgX(x:Nd)(ka:Option Addr)(kc:Nat)(N:Int)(w:World)(hN:0≤N∧N≤24)(hbig:x.ks.length≤9223372036854775807)(hks:zah w ka x.ks) :
  Calls Tryz.prog 59 #[.agg #[.bool x.u,.int .i64 x.n,.int .i64 x.t,.int .i64 x.m,.int .i64 x.p,.slice ka x.ks.length kc,.int .i64 x.h,.bool x.c],.int .i64 N] w fun e w' => e=.returned (.int .i64 (nodeE N x))∧Below w.heap.size w w' := by
 unfold nodeE
 have d1:=fun W=>ziB x (.slice ka x.ks.length kc) W
 have d2:=fun(W:World) (g:zah W ka x.ks)=>zfA x ka kc N W hN hbig g
 have d3:=fun(W:World) (g:zah W ka x.ks)=>zkK x ka kc W hbig g
 have i1:∀ o1 w1,Below (w.heap.size+1) (w.alloc o1) w1→zah w1 ka x.ks:=fun o1 w1 h1=>hks.below (((Below.refl _ _).alloc (Nat.le_refl _) _).trans (h1.mono (by omega)))
 have I1:Hid _:=i1
 clear i1 hks
 generalize x.ks.length=L at *
 generalize zbF x=b1 at *
 generalize zbk N x=b2 at *
 generalize formB x=b3 at *
 cases b1
 rotate_left
 cases b2
 rotate_left
 cases b3
 all_goals
  go_enter Tryz.func59,Tryz.ntmps59
  go_wp2_with (first
   |(go_at_call 101;refine(d1 _).mono ?_;rintro e w1 ⟨rfl,hb1⟩;simp only[World.size_alloc] at hb1;have B1:=hb1;obtain⟨l0,l1,l2,l3,l4,l5,l6,l7⟩:=zju hb1)
   |(go_at_call 102;refine(d2 _ (I1.out _ _ B1)).mono ?_;rintro e w2 ⟨rfl,hb2⟩;have B2:=B1.trans (hb2.mono (by have:=B1.size;simp only[World.size_alloc] at this;omega));clear l0 l1 l2 l3 l4 l5 l6 l7;obtain⟨l0,l1,l2,l3,l4,l5,l6,l7⟩:=zju B2)
   |(go_at_call 103;refine(d3 _ (I1.out _ _ B2)).mono ?_;rintro e w3 ⟨rfl,hb3⟩;have B3:=B2.trans (hb3.mono (by have:=B2.size;simp only[World.size_alloc] at this;omega))))
 all_goals go_ret
 all_goals first
  | exact⟨rfl,((Below.refl _ _).alloc (Nat.le_refl _) _).trans (B3.mono (by omega))⟩
  | exact⟨rfl,((Below.refl _ _).alloc (Nat.le_refl _) _).trans (B2.mono (by omega))⟩
  | exact⟨rfl,((Below.refl _ _).alloc (Nat.le_refl _) _).trans (B1.mono (by omega))⟩
end Go.Proofs.YtojlkdekdbdpoaaGreat

namespace Go.Proofs.YtojlkdekdbdpoaaGreat
open Go.RowKit
def nd(S:List Nd)(i:Nat):Nd:=S.getD i zcC
def NdAt(w:World)(b o:Nat)(x:Nd):Prop :=
 w.cell? ⟨b,o,none⟩=some (.bool x.u)∧w.cell? ⟨b,o+1,none⟩=some (.int .i64 x.n)∧w.cell? ⟨b,o+2,none⟩=some (.int .i64 x.t)∧w.cell? ⟨b,o+3,none⟩=some (.int .i64 x.m) ∧
 w.cell? ⟨b,o+4,none⟩=some (.int .i64 x.p)∧(∃ ka kc,w.cell? ⟨b,o+5,none⟩=some (.slice ka x.ks.length kc)∧zah w ka x.ks)∧w.cell? ⟨b,o+6,none⟩=some (.int .i64 x.h)∧w.cell? ⟨b,o+7,none⟩=some (.bool x.c)
theorem NdAt.below{w w' : World}{b o:Nat}{x:Nd}(h:NdAt w b o x)(hb:Below w.heap.size w w'):NdAt w' b o x:=by
 obtain⟨c0,c1,c2,c3,c4,⟨ka,kc,c5,hk⟩,c6,c7⟩:=h
 have hlt:b<w.heap.size:=World.block_lt_of_cell? w ⟨b,o,none⟩ c0
 exact⟨(hb.cell hlt).trans c0,(hb.cell hlt).trans c1,(hb.cell hlt).trans c2,(hb.cell hlt).trans c3,(hb.cell hlt).trans c4,⟨ka,kc,(hb.cell hlt).trans c5,hk.below hb⟩,(hb.cell hlt).trans c6,(hb.cell hlt).trans c7⟩
def NdsAt(w:World)(a:Option Addr)(S:List Nd):Prop :=
 ∀ i,i<S.length→∃ b o,a=some ⟨b,o,none⟩∧NdAt w b (o+i*8) (nd S i)
theorem NdsAt.below{w w' : World}{a:Option Addr}{S:List Nd}(h:NdsAt w a S)(hb:Below w.heap.size w w'):NdsAt w' a S:=fun i hi=>by
 obtain⟨b,o,e,hn⟩:=h i hi
 exact⟨b,o,e,hn.below hb⟩
def Big(S:List Nd):Prop:=∀ i,i<S.length→(nd S i).ks.length≤9223372036854775807
def FitK(S:List Nd)(i:Nat)(x:Int):Prop:=x≠-1∧(nd S x.toNat).u=true∧(nd S x.toNat).p=i
def FitU(S:List Nd)(k:Nat):Prop:=∀ i,i<k→∀ x ∈ (nd S i).ks,FitK S i x
def cntU(S:List Nd)(k j:Nat):Nat:=((S.take k).flatMap Nd.ks).count (j:Int)
def cntK(l:List Int)(q j:Nat):Nat:=(l.take q).count (j:Int)
def zcQ(S:List Nd):Prop:=FitU S S.length∧∀ j,j<S.length→cntU S S.length j≤1∧((nd S j).p≠-1→cntU S S.length j≠0)
theorem zaF{S:List Nd}{i:Nat}(h:i<S.length):nd S i=S[i]:=zad S zcC h
theorem zeD(S:List Nd)(j:Nat):cntU S 0 j=0:=by simp[cntU]
theorem zcr(S:List Nd)(k j:Nat)(h:k<S.length):cntU S (k+1) j=cntU S k j+(nd S k).ks.count (j:Int):=by
 unfold cntU
 rw[List.take_succ_eq_append_getElem h,List.flatMap_append,List.count_append,zaF h]
 simp
theorem zij(l:List Int)(j:Nat):cntK l 0 j=0:=by simp[cntK]
theorem zkc(l:List Int)(j:Nat):cntK l l.length j=l.count (j:Int):=by simp[cntK]
theorem zie(l:List Int)(q j:Nat)(h:q<l.length):cntK l (q+1) j=cntK l q j+(if l.getD q 0=(j:Int) then 1 else 0):=by
 unfold cntK
 rw[List.take_succ_eq_append_getElem h,List.count_append,zad l 0 h]
 by_cases e:l[q]=(j:Int) <;> simp[e]
theorem zmp(l:List Int)(q j:Nat):cntK l q j≤q:=by
 unfold cntK
 exact Nat.le_trans List.count_le_length (by rw[List.length_take];omega)
theorem zlp(S:List Nd)(k j:Nat)(hk:k≤S.length)(hF:FitU S k)(hp:(nd S j).p=k):cntU S k j=0:=by
 unfold cntU
 rw[List.count_eq_zero]
 intro hm
 obtain⟨y,hy,hj⟩:=List.mem_flatMap.1 hm
 obtain⟨i,hi,rfl⟩:=List.getElem_of_mem hy
 rw[List.length_take] at hi
 have h3:=hF i (by omega) (j:Int) (by rw[zaF (by omega)];simpa using hj)
 have:=h3.2.2
 simp only[Int.toNat_natCast] at this
 omega
end Go.Proofs.YtojlkdekdbdpoaaGreat
