/-
  x
-/
import Derived.Test.YtojlkdekdbdpoaaGreatJDbDcDwhDe
import Derived.Test.YtojlkdekdbdpoaaGreatJWn
import Derived.Test.YtojlkdekdbdpoaaGreatJWbTkSnWd
import Derived.Test.YtojlkdekdbdpoaaGreatJWrXb
import Derived.Test.YtojlkdekdbdpoaaGreatJXcZgZh
import Derived.Test.YtojlkdekdbdpoaaGreatJSkSlSmBkTa
import Derived.BigQuiet
import Derived.Test.YtojlkdekdbdpoaaGreatJRg
import Derived.Test.YtojlkdekdbdpoaaGreatJSrWfXdZaTlTmTnZf
namespace Go.Proofs.YtojlkdekdbdpoaaGreat
set_option maxRecDepth 100000
set_option maxHeartbeats 4000000
open Go.RowKit
set_option linter.unusedVariables false
def rS(E:Int)(T:List Nd):List Nd:=if E=0 then T else []
def rH(E:Int)(h:Int × Int):Int × Int:=if E=0 then h else (0,0)
theorem rS_ok{T:List Nd}:rS 0 T=T:=rfl
theorem rS_no{E:Int}{T:List Nd}(h:E≠0):rS E T=[]:=if_neg h
theorem rH_no{E:Int}{T:Int × Int}(h:E≠0):rH E T=(0,0):=if_neg h
theorem zbw(W:World):NdsAt W none []:=fun _ hi=>absurd hi (Nat.not_lt_zero _)
abbrev ziA(f:Nat)(S T:List Nd)(more:Array Value)(E:Int):Prop:=∀ (a:Option Addr) (c:Nat) W,NdsAt W a S →
 Calls Tryz.prog f (#[.agg #[.slice a S.length c]] ++ more) W fun e w' => ∃ a' c', e=.returned (.tuple #[.agg #[.slice a' T.length c'],.int .i64 E])∧Below W.heap.size W w' ∧ NdsAt w' a' T
abbrev hdV(h:Int × Int):Value:=.agg #[.int .i64 h.1,.int .i64 h.2]
def zlD(f:Nat):Prop:=∀ (S:List Nd) (h:Int × Int),WF S→ziA f S (rS (freeE S h.1 h.2) (S.set h.1.toNat (zbY (nd S h.1.toNat)))) #[hdV h] (freeE S h.1 h.2)
def zhY(f:Nat):Prop:=∀ (S:List Nd) (h:Int × Int),WF S→ziA f S (rS (remE S h.1 h.2) (leaveG S h.1.toNat)) #[hdV h] (remE S h.1 h.2)
def zia(f:Nat):Prop:=∀ (S:List Nd) (h g:Int × Int) (hs:List (Int × Int)) (ha:Option Addr) (hc:Nat),WF S→hs.length≤1→∀ (a:Option Addr) (c:Nat) W,NdsAt W a S→zak W ha hs →
 Calls Tryz.prog f #[.agg #[.slice a S.length c],hdV h,hdV g,.slice ha hs.length hc] W fun e w' => ∃ a' c', e=.returned (.tuple #[.agg #[.slice a' (rS (insE S h.1 h.2 g.1 g.2 hs) (insS S h.1 g.1 hs)).length c'],.int .i64 (insE S h.1 h.2 g.1 g.2 hs)])∧Below W.heap.size W w' ∧ NdsAt w' a' (rS (insE S h.1 h.2 g.1 g.2 hs) (insS S h.1 g.1 hs))
def zjU(f:Nat):Prop:=∀ (S:List Nd) (h:Int × Int) (t m:Int) (qa:Option Addr) (qc:Nat),WF S→∀ (a:Option Addr) (c:Nat) W,NdsAt W a S→zaK W qa [⟨t,m,false⟩] →
 Calls Tryz.prog f #[.agg #[.slice a S.length c],hdV h,.slice qa 1 qc] W fun e w' => ∃ a' c' n,e=.returned (.tuple #[.slice a' n c', .int .i64 (cntE S h.1 h.2 [⟨t,m,false⟩])])∧Below W.heap.size W w' ∧ n=if cntE S h.1 h.2 [⟨t,m,false⟩]=0 then (zcq S h.1.toNat [⟨t,m,false⟩]).length else 0
def zlR(f:Nat):Prop:=∀ (S:List Nd) (h:Int × Int),WF S→∀ (a:Option Addr) (c:Nat) W,NdsAt W a S →
 Calls Tryz.prog f #[.agg #[.slice a S.length c],hdV h] W fun e w' => ∃ a' c' n,e=.returned (.tuple #[.slice a' n c', .int .i64 (findE S h.1 h.2)])∧Below W.heap.size W w' ∧ n=if findE S h.1 h.2=0 then (flatF S h.1.toNat).length else 0
theorem zaS(S:List Nd)(p u:Int):zao S [(p,u)]=findE S p u:=by
 unfold zao findE zdn zdn
 by_cases h:zbV S p u=0
 ·simp[h]
 ·simp[h]
theorem zjQ{S:List Nd}(wf:WF S){ch:Nat}(hch:ch<S.length):(nd S ch).p = -1∨∃ p0:Nat,p0<S.length∧p0≠ch∧(nd S ch).p=p0:=by
 by_cases e:(nd S ch).p = -1
 ·exact Or.inl e
 ·obtain⟨p0,e0,g1,g2,_⟩:=wf.parent_place hch e
  exact Or.inr ⟨p0,g1,g2,e0⟩
theorem zbb{S:List Nd}(wf:WF S):∀ i,i<S.length→(nd S i).ks.length≤1000:=fun i hi=>by have:=wf.kids_small hi;omega
theorem zoc:zlD 43:=fun S h wf a c W hW=>by
 obtain⟨P,U⟩:=h
 dsimp only[hdV]
 have hN:S.length≤9223372036854775807:=by have:=wf.small;omega
 unfold freeE
 by_cases hE:findE S P U=0
 ·rw[if_pos hE]
  obtain⟨_,k,e,hk,hu,hkn⟩:=zbm hE
  subst e
  rw[Int.toNat_natCast]
  by_cases hl:zdk S k
  ·rw[if_pos hl,rS_ok]
   refine(zpa a c S k U W wf.small (zbb wf) hW hk hE hl).mono (fun e w' ⟨g,e1,hb,_,hn⟩=>⟨some ⟨g,0,none⟩,S.length,?_,hb,hn w' (fun _ _=>rfl)⟩)
   rw[e1,List.length_set]
  ·rw[if_neg hl,rS_no (by decide)]
   exact(znp a c S k U W hN wf.big hW hk hE (by have:=zbb wf k hk;omega) hl).mono (fun e w' ⟨e1,hb⟩=>⟨none,0,e1,hb,zbw _⟩)
 ·rw[if_neg hE,rS_no hE]
  exact(zor a c S P U _ W hN wf.big hW rfl hE).mono (fun e w' ⟨e1,hb⟩=>⟨none,0,e1,hb,zbw _⟩)
theorem zkv:zhY 44:=fun S h wf a c W hW=>by
 obtain⟨P,U⟩:=h
 dsimp only[hdV]
 have hN:S.length≤9223372036854775807:=by have:=wf.small;omega
 unfold remE
 by_cases hE:findE S P U=0
 ·rw[if_pos hE]
  obtain⟨_,k,e,hk,hu,hkn⟩:=zbm hE
  subst e
  rw[Int.toNat_natCast]
  have hT:zao S [((k:Int),U)]=0:=(zaS _ _ _).trans hE
  rcases zjQ wf hk with hp |⟨p0,hp1,hp2,hp3⟩
  ·rw[if_pos hp,rS_no (by decide)]
   exact(zjk a c S k U W hN wf.big hW hT hk hp).mono (fun e w' ⟨e1,hb⟩=>⟨none,0,e1,hb,zbw _⟩)
  ·have hG:leaveG S k=zbl S p0 k:=by unfold leaveG;rw[if_neg (by omega),hp3,Int.toNat_natCast]
   rw[if_neg (by omega),rS_ok,hG]
   refine(zmZ a c S k p0 U W wf.small wf.big hW hT hk hp1 hp2 hp3 (zbb wf)).mono (fun e w' ⟨g,e1,hb,_,hn⟩=>⟨some ⟨g,0,none⟩,S.length,?_,hb,hn w' (fun _ _=>rfl)⟩)
   rw[e1,zaO]
 ·rw[if_neg hE,rS_no hE]
  exact(zkH a c S P U _ W hN wf.big hW (zaS _ _ _) hE).mono (fun e w' ⟨e1,hb⟩=>⟨none,0,e1,hb,zbw _⟩)
theorem znw{S:List Nd}{P pu C cu:Int}{hs:List (Int × Int)}(wf:WF S)(hm:hs.length≤1):znd S (rS (insE S P pu C cu hs) (insS S P C hs)) P C cu hs (zao S ((P,pu) ::(C,cu) :: hs)) (insE S P pu C cu hs):=by
 by_cases hE:zao S ((P,pu) ::(C,cu) :: hs)=0
 ·obtain⟨_,hx⟩:=ziW hE
  obtain⟨pa,e1,hpa,hpu,hpn⟩:=hx (P,pu) (by simp)
  obtain⟨ch,e2,hch,hcu,hcn⟩:=hx (C,cu) (by simp)
  dsimp only at e1 e2 hpn hcn
  subst e1
  subst e2
  have hK:=zbb wf
  refine .inr ⟨pa,ch,rfl,rfl,hE,wf.small,hpa,hch,fun hf=>?_,fun hf=>⟨fun h hh=>?_,?_⟩⟩
  ·have e:insE S pa pu ch cu hs=6:=by unfold insE;rw[if_pos hE,Int.toNat_natCast,Int.toNat_natCast,if_neg (by rw[hf];decide)]
   rw[e]
   exact⟨rfl,rS_no (by decide)⟩
  ·obtain⟨q,e,hq,_⟩:=hx h (by simp[hh])
   exact⟨q,e,hq⟩
  ·have pt:Puts S pa ch:=⟨wf,hpa,hch,hpu,hcu,hf⟩
   obtain⟨f1,f2,f3⟩:=zcS hf
   have hl:=zaC S ch
   have hp0:=zjQ wf hch
   unfold insE insS
   rw[if_pos hE]
   simp only[Int.toNat_natCast]
   rw[if_pos hf]
   match hs,hm,hE,hx with
   | [],_,hE,hx =>
    exact⟨fun⟨h,hh,_⟩=>(by cases hh),fun _=>⟨rfl,hK,by rw[rS_ok,zaB,hl],.inr ⟨by simp,f2,hp0,(nd (leaveG S ch) pa).ks.length,rfl,by omega,rS_ok⟩⟩⟩
   | [(Q,qu)],_,hE,hx =>
    obtain⟨q,e3,hq,hqu,hqn⟩:=hx (Q,qu) (by simp)
    dsimp only at e3 hqn
    subst e3
    dsimp only
    rw[Int.toNat_natCast]
    have hone:∀ h ∈ [((q:Int),qu)],(nd S h.1.toNat).p=(nd S q).p:=fun h hh=>by
     have:h=((q:Int),qu):=by simpa using hh
     subst this
     rw[Int.toNat_natCast]
    by_cases hqp:(nd S q).p=pa
    ·rw[if_pos hqp,rS_ok]
     refine⟨fun⟨h,hh,hne⟩=>absurd ((hone h hh).trans hqp) hne,fun _=>?_⟩
     by_cases hqc:q=ch
     ·subst hqc
      have hcq:cu=qu:=by omega
      subst hcq
      rw[if_pos rfl]
      exact⟨rfl,hK,rfl,.inl ⟨List.mem_singleton.2 rfl,rfl⟩⟩
     ·rw[if_neg (by omega)]
      obtain⟨at', hat,hatL,hatq⟩:=pt.ahead hq hqp hqc
      rw[hat,Int.toNat_natCast]
      exact⟨rfl,hK,by rw[zaB,hl],.inr ⟨fun e=>hqc (by have:=congrArg Prod.fst (List.mem_singleton.1 e);simp at this;omega),f2,hp0,at', hat,by omega,rfl⟩⟩
    ·rw[if_neg hqp]
     exact⟨fun _=>⟨rfl,rS_no (by decide)⟩,fun h=>absurd ((hone _ (List.mem_singleton.2 rfl)).symm.trans (h _ (List.mem_singleton.2 rfl))) hqp⟩
   | _ :: _ :: _,h,_,_=>exact absurd h (by simp)
 ·have e:insE S P pu C cu hs=zao S ((P,pu) ::(C,cu) :: hs):=by unfold insE;rw[if_neg hE]
  exact .inl ⟨hE,e,by rw[e,rS_no hE]⟩
theorem zgx:zia 97:=fun S h g hs ha hc wf hm a c W hW hH =>
 zkn a c S h.1 g.1 h.2 g.2 ha hc hs _ _ _ W (by have:=wf.small;omega) wf.big hW hH hm rfl (znw wf hm)
theorem zmL:zjU 94:=fun S h t m qa qc wf a c W hW hQ=>by
 obtain⟨P,U⟩:=h
 dsimp only[hdV]
 have hN:S.length≤9223372036854775807:=by have:=wf.small;omega
 unfold cntE
 by_cases hE:findE S P U=0
 ·rw[if_pos hE]
  obtain⟨_,k,e,hk,hu,hkn⟩:=zbm hE
  subst e
  rw[Int.toNat_natCast]
  by_cases hq:zcd [⟨t,m,false⟩]=0
  ·rw[hq,if_pos rfl]
   exact(zop a c S k U qa qc [⟨t,m,false⟩] W wf hk hu ((zaS _ _ _).trans hE) hW hQ hq).mono (fun e w' ⟨fa,fc,e1,hb,hi,_⟩=>⟨fa,fc,_,e1,hb,rfl⟩)
  ·rw[if_neg hq]
   exact(zmF a c S k U _ qa qc [⟨t,m,false⟩] W wf hk ((zaS _ _ _).trans hE) hW (by simp) hQ rfl hq).mono (fun e w' ⟨e1,hb⟩=>⟨none,0,0,e1,hb,rfl⟩)
 ·rw[if_neg hE,if_neg hE]
  exact(zlC a c S P U _ _ W hN wf.big hW (zaS _ _ _) hE).mono (fun e w' ⟨e1,hb⟩=>⟨none,0,0,e1,hb,rfl⟩)
theorem zow:zlR 95:=fun S h wf a c W hW=>by
 obtain⟨P,U⟩:=h
 dsimp only[hdV]
 have hN:S.length≤9223372036854775807:=by have:=wf.small;omega
 by_cases hE:findE S P U=0
 ·obtain⟨_,k,e,hk,hu,hkn⟩:=zbm hE
  subst e
  rw[Int.toNat_natCast,hE,if_pos rfl]
  exact(zoY a c S k U W wf hW hk hE).mono (fun e w' ⟨sa,sc,e1,hb,hi⟩=>⟨sa,sc,_,e1,hb,rfl⟩)
 ·rw[if_neg hE]
  exact(zns a c S P U _ W hN wf.big hW rfl hE).mono (fun e w' ⟨e1,hb⟩=>⟨none,0,0,e1,hb,rfl⟩)
end Go.Proofs.YtojlkdekdbdpoaaGreat

namespace Go.Proofs.YtojlkdekdbdpoaaGreat
set_option maxRecDepth 100000
set_option maxHeartbeats 4000000
open Go.RowKit
theorem zbC(x a b:Int)(w:World) :
  Calls Tryz.prog 29 #[.int .i64 x,.int .i64 a,.int .i64 b] w fun e w' => e=.returned (.bool (decide (a≤x∧x≤b)))∧w' = w:=by
 by_cases h1:a≤x
 ·by_cases h2:x≤b
  ·rw[decide_eq_true ⟨h1,h2⟩]
   go_enter Tryz.func29,Tryz.ntmps29
   go_wp2
   go_ret
   exact⟨rfl,rfl⟩
  ·rw[decide_eq_false (fun h=>h2 h.2)]
   have h3:decide (x≤b)=false:=decide_eq_false h2
   go_enter Tryz.func29,Tryz.ntmps29
   go_wp2
   go_ret
   exact⟨rfl,rfl⟩
 ·rw[decide_eq_false (fun h=>h1 h.1)]
  have h3:decide (a≤x)=false:=decide_eq_false h1
  go_enter Tryz.func29,Tryz.ntmps29
  go_wp2
  go_ret
  exact⟨rfl,rfl⟩
theorem zdC(x:Nd)(k:Value)(w:World) :
  Calls Tryz.prog 73 #[.agg #[.bool x.u,.int .i64 x.n,.int .i64 x.t,.int .i64 x.m,.int .i64 x.p,k,.int .i64 x.h,.bool x.c]] w fun e w' => e=.returned (.int .i64 (if x.h = -1 then x.p else x.h))∧Below w.heap.size w w' := by
 obtain⟨u,n,t,m,p,ks,h,c⟩:=x
 dsimp only
 by_cases e:h = -1
 ·subst e
  simp only[if_true]
  go_enter Tryz.func73,Tryz.ntmps73
  go_wp2
  go_ret
  exact⟨rfl,(Below.refl _ _).alloc (Nat.le_refl _) _⟩
 ·simp only[if_neg e]
  have e2:(h == -1)=false:=beq_eq_false_iff_ne.2 e
  go_enter Tryz.func73,Tryz.ntmps73
  go_wp2
  go_ret
  exact⟨rfl,(Below.refl _ _).alloc (Nat.le_refl _) _⟩
end Go.Proofs.YtojlkdekdbdpoaaGreat

namespace Go.Proofs.YtojlkdekdbdpoaaGreat
set_option maxRecDepth 100000
set_option maxHeartbeats 4000000
open Go.RowKit
theorem zcR(a:Option Addr)(c:Nat)(S:List Nd)(p u:Int)(w:World)(hN:S.length≤9223372036854775807)(hS:NdsAt w a S) :
  Calls Tryz.prog 34 #[.agg #[.slice a S.length c],.agg #[.int .i64 p,.int .i64 u]] w fun e w' => e=.returned (.int .i64 (zbV S p u))∧Below w.heap.size w w' := by
 unfold zbV
 have d1:=zbC p 0 ((S.length:Int)-1)
 rw[show decide (0≤p∧p≤(S.length:Int)-1)=isPl S.length p from rfl] at d1
 cases hq:isPl S.length p with
 | false =>
  rw[hq] at d1
  simp only[Bool.false_eq_true,if_false]
  generalize S.length=n at *
  clear hS
  go_enter Tryz.func34,Tryz.ntmps34
  go_wp2_with fail
  go_big_quiet ((go_at_call 29;exact Calls.quiet_of_same (d1 _)))
  go_wp2
  go_ret
  exact⟨rfl,Below.drewNs (((Below.refl _ _).alloc (Nat.le_refl _) _).alloc (by simp) _) _⟩
 | true =>
  rw[hq] at d1
  simp only[if_true]
  have hq' : 0≤p∧p≤(S.length:Int)-1:=of_decide_eq_true hq
  clear hq
  obtain⟨k,rfl⟩:∃ k:Nat,p=(k:Int):=⟨p.toNat,by omega⟩
  have hk:k<S.length:=by omega
  have hk2:(k:Int)<(S.length:Int):=by omega
  simp only[Int.toNat_natCast]
  obtain⟨b,o,rfl,c0,c1,c2,c3,c4,⟨ka,kc,c5,_⟩,c6,c7⟩:=hS k hk
  have hbw:b<w.heap.size:=World.block_lt_of_cell? w ⟨b,o+k*8,none⟩ c0
  clear hS hq'
  generalize nd S k=x at *
  unfold holdX
  obtain⟨xu,xn,xt,xm,xp,xks,xh,xc⟩:=x
  dsimp only at *
  generalize xks.length=kl at *
  generalize S.length=n at *
  have d2:=zbC u 1 xn
  generalize hb1:decide (1≤u∧u≤xn)=b1 at *
  cases b1 with
  | false =>
   clear hb1
   simp only[Bool.false_eq_true,if_false]
   go_enter Tryz.func34,Tryz.ntmps34
   go_wp2_with fail
   go_big_quiet ((first|(go_at_call_of 29 (Value.int .i64 0);exact Calls.quiet_of_same (d1 _))|(go_at_call_of 29 (Value.int .i64 1);exact Calls.quiet_of_same (d2 _))))
   go_wp2
   go_ret
   exact⟨rfl,Below.drewNs (((Below.refl _ _).alloc (Nat.le_refl _) _).alloc (by simp) _) _⟩
  | true =>
   have hb2:1≤u∧u≤xn:=of_decide_eq_true hb1
   clear hb1
   simp only[if_true]
   cases xu with
   | false =>
    simp only[Bool.false_eq_true,if_false]
    go_enter Tryz.func34,Tryz.ntmps34
    go_wp2_with fail
    go_big_quiet ((first|(go_at_call_of 29 (Value.int .i64 0);exact Calls.quiet_of_same (d1 _))|(go_at_call_of 29 (Value.int .i64 1);exact Calls.quiet_of_same (d2 _))))
    go_wp2
    go_big_quiet (fail)
    go_wp2
    go_ret
    exact⟨rfl,Below.drewNs (Below.drewNs (((Below.refl _ _).alloc (Nat.le_refl _) _).alloc (by simp) _) _) _⟩
   | true =>
    simp only[if_true]
    by_cases he:xn=u
    ·subst he
     simp only[if_true]
     have hlt:decide (xn<xn)=false:=decide_eq_false (by omega)
     go_enter Tryz.func34,Tryz.ntmps34
     go_wp2_with fail
     go_big_quiet ((first|(go_at_call_of 29 (Value.int .i64 0);exact Calls.quiet_of_same (d1 _))|(go_at_call_of 29 (Value.int .i64 1);exact Calls.quiet_of_same (d2 _))))
     go_wp2
     go_big_quiet (fail)
     go_wp2
     go_ret
     exact⟨rfl,Below.drewNs (Below.drewNs (((Below.refl _ _).alloc (Nat.le_refl _) _).alloc (by simp) _) _) _⟩
    ·simp only[if_neg he]
     have hlt:decide (u<xn)=true:=decide_eq_true (by omega)
     go_enter Tryz.func34,Tryz.ntmps34
     go_wp2_with fail
     go_big_quiet ((first|(go_at_call_of 29 (Value.int .i64 0);exact Calls.quiet_of_same (d1 _))|(go_at_call_of 29 (Value.int .i64 1);exact Calls.quiet_of_same (d2 _))))
     go_wp2
     go_big_quiet (fail)
     go_wp2
     go_ret
     exact⟨rfl,Below.drewNs (Below.drewNs (((Below.refl _ _).alloc (Nat.le_refl _) _).alloc (by simp) _) _) _⟩
end Go.Proofs.YtojlkdekdbdpoaaGreat

namespace Go.Proofs.YtojlkdekdbdpoaaGreat
set_option maxRecDepth 100000
set_option maxHeartbeats 4000000
open Go.RowKit
def RChk(a:Option Addr)(c:Nat)(S:List Nd):Prop:=∀ W,NdsAt W a S→Calls Tryz.prog 17 #[.agg #[.slice a S.length c]] W fun e w' => e=.returned (.int .i64 (zaA S))∧Below W.heap.size W w'
def restE(S:List Nd)(e:Int)(l:List (Int × Int)):Int:=if e=0 then zdn S l else e
theorem zaW(a:Option Addr)(c:Nat)(S:List Nd)(ha:Option Addr)(hc:Nat)(hs:List (Int × Int))(w:World)(hN:S.length≤9223372036854775807)(hC:RChk a c S)(hS:NdsAt w a S)(hL:hs.length≤9223372036854775807)(hH:zak w ha hs) :
  Calls Tryz.prog 72 #[.agg #[.slice a S.length c],.slice ha hs.length hc] w fun e w' => e=.returned (.int .i64 (zao S hs))∧Below w.heap.size w w' := by
 have dc:Hid _:=hC
 have dh:=fun(p u:Int) (W:World) (hW:NdsAt W a S)=>zcR a c S p u W hN hW
 have DH:Hid _:=dh
 have HS:Hid (NdsAt w a S):=hS
 have HH:Hid (zak w ha hs):=hH
 have R0:Hid (zao S hs=restE S (zaA S) (hs.drop 0)):=(rfl:zao S hs=restE S (zaA S) (hs.drop 0))
 clear hS hH dh hC
 unfold RChk at dc
 generalize zao S hs=RES at *
 generalize zaA S=E0 at *
 generalize hn:S.length=n at *
 generalize hm:hs.length=m at *
 have HM:Hid (hs.length=m):=hm
 clear hm hn
 go_enter Tryz.func72,Tryz.ntmps72
 go_wp2_with (go_at_call 17;refine(dc.out _ (HS.out.below ((Below.refl _ _).alloc (Nat.le_refl _) _))).mono ?_;rintro e w1 ⟨rfl,hb1⟩)
 have lb:w1.cell? ⟨w.heap.size,0,none⟩=some (.slice a n c):=zfP (by simpa using hb1)
 have hB1:Below w.heap.size w w1:=((Below.refl _ _).alloc (Nat.le_refl _) _).trans (hb1.mono (by simp))
 clear hb1 dc
 go_loopg [5,12] m (fun g s5 s12 wr=>∃ (k:Nat) (ev:Int),k≤m∧m-k≤g∧s5=.int .i64 ev∧s12=.int .i64 k∧Below w.heap.size w wr∧wr.cell? ⟨w.heap.size,0,none⟩=some (.slice a n c)∧Hid (RES=restE S ev (hs.drop k)))
 case atStart=>exact⟨0,E0,by omega,by omega,rfl,rfl,hB1,lb,R0⟩
 case round =>
  obtain⟨k,ev,hk,hg,rfl,rfl,hb,lb2,A⟩:=hrel
  have hlb:=World.block_lt_of_cell? _ _ lb2
  clear lb hB1 R0
  by_cases hlt:k<m
  ·obtain⟨b,o,rfl,c0,c1⟩:=(HH.out.below hb) k (by rw[HM.out];exact hlt)
   have hbw:=World.block_lt_of_cell? _ _ c0
   have EQ:=A.out
   rw[zen (d:=(0,0)) (by rw[HM.out];exact hlt)] at EQ
   simp only[restE,zdn] at EQ
   generalize (hs.getD k (0,0)).1=p at *
   generalize (hs.getD k (0,0)).2=u at *
   have d1:=fun W hW=>DH.out p u W hW
   have HB:Hid (∀ o1,NdsAt (wr.alloc o1) a S):=fun o1=>(HS.out.below hb).below ((Below.refl _ _).alloc (Nat.le_refl _) _)
   generalize zbV S p u=hv at *
   by_cases hz:ev=0
   ·subst hz
    rw[if_pos rfl] at EQ
    have E2:Hid (RES=restE S hv (hs.drop (k+1))):=EQ
    clear EQ
    go_wp2_with (go_at_call 34;refine(d1 _ (HB.out _)).mono ?_;rintro e w2 ⟨rfl,hb2⟩)
    go_roundg (m-(k+1))
    case measure=>omega
    case rel =>
     have hb3:Below wr.heap.size wr w2:=((Below.refl _ _).alloc (Nat.le_refl _) _).trans (hb2.mono (by simp))
     exact⟨k+1,hv,by omega,by omega,rfl,by go_num,hb.trans (hb3.mono hb.size),(hb3.cell hlb).trans lb2,E2⟩
   ·rw[if_neg hz] at EQ
    have hz2:(ev == 0)=false:=by simp[hz]
    have E2:Hid (RES=restE S ev (hs.drop (k+1))):=(by rw[EQ,restE,if_neg hz]:RES=restE S ev (hs.drop (k+1)))
    clear EQ
    go_wp2_with fail
    go_roundg (m-(k+1))
    case measure=>omega
    case rel =>
     have hb3:Below wr.heap.size wr (wr.alloc (.cells #[.int .i64 p,.int .i64 u] 60)):=((Below.refl wr.heap.size wr).alloc (Nat.le_refl _) _)
     exact⟨k+1,ev,by omega,by omega,rfl,by go_num,hb.trans (hb3.mono hb.size),(hb3.cell hlb).trans lb2,E2⟩
  ·have:k=m:=by omega
   subst this
   have EQ:=A.out
   rw[← HM.out,List.drop_length] at EQ
   have E2:RES=ev:=by
    rw[EQ,restE]
    split
    ·next h=>rw[h];rfl
    ·rfl
   subst E2
   clear EQ A
   go_wp2
   go_ret
   exact⟨rfl,hb⟩
end Go.Proofs.YtojlkdekdbdpoaaGreat
