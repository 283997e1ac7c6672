/-
  x
-/
import Derived.Test.YtojlkdekdbdpoaaGreatJRk
import Derived.Test.YtojlkdekdbdpoaaGreatJXcZgZh
import Derived.Test.YtojlkdekdbdpoaaGreatJSrWfXdZaTlTmTnZf
import Derived.Test.YtojlkdekdbdpoaaGreatJDfRaRbRh
import Derived.Test.YtojlkdekdbdpoaaGreatJZpVbVcVd
import Derived.Test.YtojlkdekdbdpoaaGreatJRzLeLf
import Derived.Test.YtojlkdekdbdpoaaGreatJTjUaUb
import Derived.Deep.RegionHeld3
import Derived.Deep.DeepCutAuto
import Derived.Test.YtojlkdekdbdpoaaGreatJWbTkSnWd
import Derived.BigQuiet
namespace Go.Proofs.YtojlkdekdbdpoaaGreat
set_option maxRecDepth 100000
set_option maxHeartbeats 4000000
open Go.RowKit
theorem zgf{S:List Nd}(wf:WF S){k:Nat}(hk:k<S.length):(∀ i,i<S.length→hangB S k i=false)↔zdk S k:=by
 constructor
 ·intro h
  have hs:∀ i,i<S.length→zae (nd S i)≠(k:Int):=fun i hi e=>by
   have:=h i hi
   unfold hangB at this
   simp[e] at this
  refine⟨?_,?_,?_⟩
  ·have:=h k hk
   unfold hangB at this
   simp at this
   exact this.1
  ·cases hks:(nd S k).ks with
   | nil=>rfl
   | cons x l =>
    exfalso
    obtain⟨j,_,h2,_,_,h3⟩:=wf.kid hk (x:=x) (by rw[hks];simp)
    exact hs j h2 h3
  ·rw[zbP]
   intro i hi e
   refine hs i hi ?_
   unfold zae
   rw[if_neg (by omega)]
   exact e
 ·intro ⟨h1,h2,h3⟩ i hi
  unfold hangB
  have hr:zae (nd S i)≠(k:Int):=fun e=>by
   unfold zae at e
   split at e
   ·have:=(wf.in_kids hi e).2
    rw[h2] at this
    cases this
   ·exact zbP.1 h3 i hi e
  by_cases e:i=k
  ·subst e
   first|(simp[h1];done)|(simp[h1];omega)
  ·simp[e,hr]
theorem zkC(a:Option Addr)(c:Nat)(S:List Nd)(p u E:Int)(w:World)(hN:S.length≤9223372036854775807)(hC:RChk a c S)(hS:NdsAt w a S)(hE:zao S [(p,u)]=E)(hE0:E≠0) :
  Calls Tryz.prog 32 #[.agg #[.slice a S.length c],.agg #[.int .i64 p,.int .i64 u]] w fun e w' => e=.returned (.tuple #[.agg #[.slice none 0 0],.int .i64 E])∧Below w.heap.size w w' := by
 have df:=fun(W:World) (ha:Option Addr) (hW:NdsAt W a S) (hH:zak W ha [(p,u)])=>zaW a c S ha 1 [(p,u)] W hN hC hW (by simp) hH
 rw[hE] at df
 have DF:Hid _:=df
 have HS:Hid (NdsAt w a S):=hS
 have hz:(E == 0)=false:=by simp[hE0]
 have hz2:(E != 0)=true:=by simp[hE0]
 clear hS hC df hE
 generalize S.length=n at *
 go_enter Tryz.func32,Tryz.ntmps32
 go_wp2_with (go_at_call 72;refine(DF.out _ _ (HS.out.below ((zaj _ _ _ _).alloc (by simp;omega) _)) (zaP _ _ _ _ (by go_simp) (by go_simp))).mono ?_;rintro e w1 ⟨rfl,hb1⟩;simp only[World.size_alloc] at hb1;obtain⟨l0,l1,l2,l3,z0,z1,hsz,hB1⟩:=zdv hb1)
 refine bodyPost_ret (v:=.tuple #[.agg #[.slice none 0 0],.int .i64 E]) (by simp[results,Tryz.results32,go_sem,l3]) rfl ⟨rfl,?_⟩
 first|exact hB1.setCell (by simp;omega) _|exact(hB1.setCell (by simp;omega) _).drew
end Go.Proofs.YtojlkdekdbdpoaaGreat

namespace Go.Proofs.YtojlkdekdbdpoaaGreat
set_option maxRecDepth 100000
set_option maxHeartbeats 4000000
open Go.RowKit
theorem own_below{w w' : World}{B:Nat}{v:Value}{l:List Int}(h:w.ownsRow B 3 1 v l.length (l.map (Value.int .i64)))(hb:Below w.heap.size w w'):w'.ownsRow B 3 1 v l.length (l.map (Value.int .i64)) :=
 h.kept (row:=none) ⟨hb.os,hb.tape,hb.output,hb.size,fun k hk _=>hb.block k hk⟩ (by
  cases hv:v.ownBlock with
  | none=>exact Or.inl rfl
  | some k=>exact Or.inr (fun e=>by cases e))
theorem zfu(a:Option Addr)(c:Nat)(S:List Nd)(k:Int)(w:World)(hN:S.length≤24)(hS:NdsAt w a S) :
  Calls Tryz.prog 58 #[.agg #[.slice a S.length c],.int .i64 k] w fun e w' => ∃ v,e=.returned v∧Below w.heap.size w w' ∧ w'.ownsRow w.heap.size 3 1 v (lineF S (S.length+1) k).length ((lineF S (S.length+1) k).map (Value.int .i64)):=by
 obtain⟨i0,hi0,hz0,hz1,hz2⟩:=info_parts info3
 have HS:Hid (NdsAt w a S):=hS
 have LF:Hid (∀ f (y:Nat),y<S.length→lineF S (f+1) (y:Int)=(y:Int) :: lineF S f (zae (nd S y))):=fun f y hy=>by rw[lineF,if_pos (zcF.2 hy),Int.toNat_natCast]
 have LN:Hid (∀ f (x:Int),¬ (0≤x∧x<(S.length:Int))→lineF S f x=[]):=fun f x hx=>by
  cases f with
  | zero=>rfl
  | succ f =>
   rw[lineF,if_neg]
   intro h
   have h2:0≤x∧x≤(S.length:Int)-1:=of_decide_eq_true h
   exact hx (by omega)
 obtain⟨L0,hL0⟩:∃ l,lineF S (S.length+1) k=l:=⟨_,rfl⟩
 rw[hL0]
 have E0:Hid (L0=[] ++ lineF S (S.length+1-0) k):=(by rw[← hL0];rfl:L0=[] ++ lineF S (S.length+1-0) k)
 clear hS hL0
 obtain⟨n,hn⟩:∃ n,S.length=n:=⟨_,rfl⟩
 have HN:Hid (S.length=n):=hn
 rw[hn] at hN E0 LF LN ⊢
 clear hn
 go_enter Tryz.func58,Tryz.ntmps58
 go_wp2_with fail
 go_loopg [1,5] (n+1) (fun g s1 s5 wr=>∃ (j:Nat) (x:Int) (l:List Int),j≤n+1∧(n+1)-j≤g∧s1=.int .i64 x∧l.length=j∧Hid (Below w.heap.size w wr)∧wr.cell? ⟨w.heap.size,0,none⟩=some (.slice a n c)∧w.heap.size<wr.heap.size∧Hid (wr.ownsRow (w.heap.size+1) 3 1 s5 l.length (l.map (Value.int .i64)))∧Hid (L0=l++lineF S (n+1-j) x))
 case atStart=>exact⟨0,k,[],by omega,by omega,rfl,rfl,(Below.refl _ _).alloc (Nat.le_refl _) _,by go_simp,by simp,World.ownsRow_nil _ _ _ _,E0⟩
 case round =>
  obtain⟨j,x,l,hj,hg,rfl,hl,HB,cs,hsz,HO,HE⟩:=hrel
  obtain⟨pa,pc,hv,_⟩:=zar HO.out
  subst hv
  clear E0
  obtain⟨ln,hln⟩:∃ y,l.length=y:=⟨_,rfl⟩
  have HLN:Hid (l.length=ln):=hln
  rw[hln]
  have hlj:ln=j:=by omega
  subst hlj
  have EXIT:Hid (lineF S (n+1-ln) x=[]→wr.ownsRow w.heap.size 3 1 (.slice pa ln pc) L0.length (L0.map (Value.int .i64))):=fun h=>by
   have e:=HE.out
   rw[h,List.append_nil] at e
   rw[e]
   have h2:=zbR HO.out (Nat.le_succ _)
   rw[hln] at h2
   rw[hln]
   exact h2
  have OWN:Hid (wr.ownsRow (w.heap.size+1) 3 1 (.slice pa ln pc) ln (l.map (Value.int .i64))):=by have h2:=HO.out;rw[hln] at h2;exact h2
  clear hl hln HO
  by_cases hx:0≤x∧x<(n:Int)
  ·obtain⟨y,rfl⟩:∃ y:Nat,x=y:=⟨x.toNat,by omega⟩
   have hy:y<n:=by omega
   obtain⟨hx0,hx1⟩:=hx
   have b1:decide ((0:Int)≤(y:Int))=true:=decide_eq_true hx0
   have b2:decide ((y:Int)<(n:Int))=true:=decide_eq_true hx1
   by_cases hjn:ln≤n
   ·have b3:decide ((ln:Int)≤(n:Int))=true:=decide_eq_true (by omega)
    have hjn2:(ln:Int)≤(n:Int):=by omega
    have EQ:Hid (L0=(l++[(y:Int)])++lineF S (n+1-(ln+1)) (zae (nd S y))):=by
     have e:=HE.out
     rw[show n+1-ln=(n+1-(ln+1))+1 by omega,LF.out _ y hy] at e
     show L0=_
     rw[e,List.append_assoc]
     rfl
    obtain⟨r,hr⟩:∃ r,zae (nd S y)=r:=⟨_,rfl⟩
    have d2:=fun(v:Value) W=>zdC (nd S y) v W
    rw[show (if (nd S y).h = -1 then (nd S y).p else (nd S y).h)=r from hr] at d2
    have RUy:Hid _:=d2
    rw[hr] at EQ
    clear HE EXIT d2 hr
    have OB:Hid (∀ k,(Value.slice pa ln pc).ownBlock=some k→w.heap.size+1≤k):=fun k hk=>(OWN.out.lt k hk).1
    go_wp2_with (at_builtin;refine wpList_append_own _ rfl _ _ 29 rfl (w.heap.size+1) 3 i0 (.int .i64 0) 1 8 Tryz.underlying29 hi0 hz0 hz1 hz2 rfl (by decide) _ _ _ rfl (OWN.out.alloc _) ⟨wr.heap.size,0,none⟩ 1 1 [.int .i64 (y:Int)] rfl rfl ?c1 ?c2 ?c3 ?c4 ?c5 ?_)
    case c2=>first|rfl|(intro u hu;simp at hu;subst hu;rfl)|simp
    case c3=>unfold maxLen;omega
    case c4=>omega
    case c5=>first|omega|(simp;omega)
    case c1=>first|(go_simp;done)|(intro j u hj;match j,hj with|0,hj=>(cases hj;go_simp)|(j+1),hj=>simp at hj)
    intro v' w2 hown' hgrow _
    obtain⟨g', cap', rfl⟩:∃ g' cap', v' = .slice (some ⟨g', 0,none⟩) (ln+1) cap' := by
     rcases hown'.2 with ⟨_,h⟩ |⟨g', cap', cur,h,_⟩
     ·omega
     ·exact⟨g', cap', h⟩
    have hb2:Below (w.heap.size+1) wr w2:=((Below.refl _ wr).alloc (by omega) _).grown hgrow (by simp;omega) (fun k hk=>OB.out k hk)
    have HB2:Hid (Below w.heap.size w w2):=HB.out.trans (hb2.mono (by omega))
    have cs2:=(hb2.cell (p:=⟨w.heap.size,0,none⟩) (by show w.heap.size < _;omega)).trans cs
    have hsz2:=World.block_lt_of_cell? _ _ cs2
    obtain⟨nb,no,ea,k0,k1,k2,k3,k4,⟨ka,kc,k5,_⟩,k6,k7⟩:=(HS.out.below HB2.out) y (by rw[HN.out];exact hy)
    subst ea
    have hnb:=World.block_lt_of_cell? _ _ k0
    have HO2:Hid (w2.ownsRow (w.heap.size+1) 3 1 (.slice (some ⟨g', 0,none⟩) (ln+1) cap') (l++[(y:Int)]).length ((l++[(y:Int)]).map (Value.int .i64))):=by
     have h2:=hown'
     rw[show (l++[(y:Int)]).length=ln+1 by simp[HLN.out],List.map_append]
     exact h2
    have HL2:Hid ((l++[(y:Int)]).length=ln+1):=(by simp[HLN.out]:(l++[(y:Int)]).length=ln+1)
    clear hown' hgrow hb2 cs OWN
    go_wp2_with fail
    refine Calls.mono (RUy.out _ _) ?_
    rintro e w3 ⟨rfl,hb3⟩
    have HB3:Hid (Below w.heap.size w w3):=HB2.out.trans (hb3.mono HB2.out.size)
    have cs3:=(hb3.cell (p:=⟨w.heap.size,0,none⟩) hsz2).trans cs2
    have HO3:Hid _:=own_below HO2.out hb3
    have hs3:=hb3.size
    clear hb3 k0 k1 k2 k3 k4 k5 k6 k7 cs2
    go_wp2
    go_roundg ((n+1)-(ln+1))
    case measure=>omega
    case rel=>exact⟨ln+1,_,l++[(y:Int)],by omega,by omega,rfl,HL2.out,HB3,cs3,by omega,HO3,EQ⟩
   ·have hjn2:¬ (ln:Int)≤(n:Int):=by omega
    have b3:decide ((ln:Int)≤(n:Int))=false:=decide_eq_false hjn2
    have hz:n+1-ln=0:=by omega
    have OW:Hid _:=EXIT.out (by rw[hz];rfl)
    clear EXIT HE OWN
    go_wp2
    go_ret
    exact⟨_,rfl,HB.out,OW.out⟩
  ·have OW:Hid _:=EXIT.out (LN.out _ _ hx)
   clear EXIT HE OWN
   by_cases h0:0≤x
   ·have h1:¬ x<(n:Int):=fun h=>hx ⟨h0,h⟩
    have b1:decide ((0:Int)≤x)=true:=decide_eq_true h0
    have b2:decide (x<(n:Int))=false:=decide_eq_false h1
    clear hx
    go_wp2
    go_ret
    exact⟨_,rfl,HB.out,OW.out⟩
   ·have b1:decide ((0:Int)≤x)=false:=decide_eq_false h0
    clear hx
    go_wp2
    go_ret
    exact⟨_,rfl,HB.out,OW.out⟩
end Go.Proofs.YtojlkdekdbdpoaaGreat

namespace Go.Proofs.YtojlkdekdbdpoaaGreat
set_option maxRecDepth 100000
set_option maxHeartbeats 4000000
open Go.RowKit
theorem OwnK.putK{B:Nat}{S:List Nd}{q:Nat}{K:Nat→Value}{g cap:Nat}{w:World}(h:OwnK B S q K (.slice (some ⟨g,0,none⟩) q cap) w){k:Nat}(hk:k<q)(hq:S.length=q)(ks' : List Int)(v' : Value)(hv:w.ownsRow B 3 1 v' ks'.length (ks'.map (Value.int .i64))) :
  OwnK B (S.set k ⟨(nd S k).u,(nd S k).n,(nd S k).t,(nd S k).m,(nd S k).p,ks',(nd S k).h,(nd S k).c⟩) q (fun i=>if i=k then v' else K i) (.slice (some ⟨g,0,none⟩) q cap) (w.setCell ⟨g,k*8+5,none⟩ v'):=by
 refine h.put (j:=5) (by omega) (fun i hi j' hj' => ?_) (fun i hi=>?_)
 ·by_cases e:i=k
  ·subst e
   rw[zav S i i _ (by omega),if_pos rfl]
   simp only[if_true]
   match j', hj' with
   | 0,_|1,_|2,_|3,_|4,_|5,_|6,_|7,_=>rfl
  ·rw[zav S k i _ (by omega),if_neg e]
   simp only[if_neg e]
   rw[if_neg (fun hh=>e hh.1)]
 ·by_cases e:i=k
  ·subst e
   rw[zav S i i _ (by omega),if_pos rfl]
   simp only[if_true]
   exact hv
  ·rw[zav S k i _ (by omega),if_neg e]
   simp only[if_neg e]
   exact h.2 i hi
def woF(k:Int)(ks:List Int):List Int:=flt (fun x=>decide (x=k)) ks
theorem zeY(ka:Option Addr)(kc:Nat)(ks:List Int)(k:Int)(w:World)(hl:ks.length≤1000)(hI:zah w ka ks) :
  Calls Tryz.prog 74 #[.slice ka ks.length kc,.int .i64 k] w fun e w' => ∃ v,e=.returned v∧Below w.heap.size w w' ∧ w'.ownsRow w.heap.size 3 1 v (woF k ks).length ((woF k ks).map (Value.int .i64)):=by
 obtain⟨i0,hi0,hz0,hz1,hz2⟩:=info_parts info3
 have HI:Hid (zah w ka ks):=hI
 have R0:Hid (woF k ks=flt (fun x=>decide (x=k)) ks):=(rfl:woF k ks=_)
 clear hI
 generalize woF k ks=RES at *
 obtain⟨m,hm⟩:∃ m,ks.length=m:=⟨_,rfl⟩
 have HM:Hid (ks.length=m):=hm
 rw[hm] at hl ⊢
 clear hm
 go_enter Tryz.func74,Tryz.ntmps74
 go_wp2_with fail
 go_loopg [5,10] m (fun g s5 s10 wr=>∃ (i:Nat) (l:List Int),i≤m∧m-i≤g∧s10=.int .i64 i∧l.length≤i∧Hid (Below w.heap.size w wr)∧w.heap.size≤wr.heap.size∧Hid (wr.ownsRow w.heap.size 3 1 s5 l.length (l.map (Value.int .i64)))∧Hid (l=flt (fun x=>decide (x=k)) (ks.take i)))
 case atStart=>exact⟨0,[],by omega,by omega,rfl,by simp,Below.refl _ _,Nat.le_refl _,World.ownsRow_nil _ _ _ _,(by simp[flt]:([]:List Int)=flt (fun x=>decide (x=k)) (ks.take 0))⟩
 case round =>
  obtain⟨i,l,hi,hg,rfl,hli,HB,hsz,HO,HE⟩:=hrel
  obtain⟨qa,qc,hv,_⟩:=zar HO.out
  subst hv
  obtain⟨ln,hln⟩:∃ y,l.length=y:=⟨_,rfl⟩
  have HLN:Hid (l.length=ln):=hln
  rw[hln] at HO hli ⊢
  clear hln
  by_cases hlt:i<m
  ·obtain⟨pb,po,ep,hpc⟩:=(HI.out.below HB.out) i (by rw[HM.out];exact hlt)
   subst ep
   have hi2:(i:Int)<(m:Int):=by omega
   have e:=zcB (fun x=>decide (x=k)) ks i (by rw[HM.out];exact hlt)
   rw[← HE.out] at e
   have NX:Hid _:=e
   clear HE e
   generalize ks.getD i 0=y at *
   by_cases hy:y=k
   ·subst hy
    have E2:Hid (l=flt (fun x=>decide (x=y)) (ks.take (i+1))):=(by rw[NX.out];simp:l=flt (fun x=>decide (x=y)) (ks.take (i+1)))
    have HO2:Hid (wr.ownsRow w.heap.size 3 1 (.slice qa ln qc) l.length (l.map (Value.int .i64))):=(by rw[HLN.out];exact HO.out:wr.ownsRow w.heap.size 3 1 (.slice qa ln qc) l.length (l.map (Value.int .i64)))
    clear NX HO
    go_wp2
    go_roundg (m-(i+1))
    case measure=>omega
    case rel=>exact⟨i+1,l,by omega,by omega,by go_num,by rw[HLN.out];omega,HB,hsz,HO2,E2⟩
   ·have hyb:(y == k)=false:=beq_eq_false_iff_ne.2 hy
    have hyd:decide (y=k)=false:=decide_eq_false hy
    have E2:Hid (l++[y]=flt (fun x=>decide (x=k)) (ks.take (i+1))):=(by rw[NX.out];simp[hy]:l++[y]=flt (fun x=>decide (x=k)) (ks.take (i+1)))
    have OB:Hid (∀ k,(Value.slice qa ln qc).ownBlock=some k→w.heap.size≤k):=fun k hk=>(HO.out.lt k hk).1
    have hln1:ln≤1000:=by omega
    clear NX
    go_wp2_with (at_builtin;refine wpList_append_own _ rfl _ _ 29 rfl w.heap.size 3 i0 (.int .i64 0) 1 8 Tryz.underlying29 hi0 hz0 hz1 hz2 rfl (by decide) _ _ _ rfl (HO.out.alloc _) ⟨wr.heap.size,0,none⟩ 1 1 [.int .i64 y] rfl rfl ?c1 ?c2 ?c3 ?c4 ?c5 ?_)
    case c2=>first|rfl|(intro u hu;simp at hu;subst hu;rfl)|simp
    case c3=>unfold maxLen;omega
    case c4=>omega
    case c5=>first|omega|(simp;omega)
    case c1=>first|(go_simp;done)|(intro j u hj;match j,hj with|0,hj=>(cases hj;go_simp)|(j+1),hj=>simp at hj)
    intro v' w2 hown' hgrow _
    have hb2:Below w.heap.size wr w2:=((Below.refl _ wr).alloc (by omega) _).grown hgrow (by simp;omega) (fun k hk=>OB.out k hk)
    have HB2:Hid (Below w.heap.size w w2):=HB.out.trans hb2
    have HO2:Hid (w2.ownsRow w.heap.size 3 1 v' (l++[y]).length ((l++[y]).map (Value.int .i64))):=by
     have h2:=hown'
     rw[show (l++[y]).length=ln+1 by simp[HLN.out],List.map_append]
     exact h2
    have hs2:=HB2.out.size
    clear hown' hgrow hb2 HO
    go_wp2_with fail
    go_roundg (m-(i+1))
    case measure=>omega
    case rel=>exact⟨i+1,l++[y],by omega,by omega,by go_num,by simp[HLN.out];omega,HB2,hs2,HO2,E2⟩
  ·have hie:i=m:=by omega
   subst hie
   have e:=HE.out
   rw[List.take_of_length_le (by rw[HM.out];omega),← R0.out] at e
   have OW:Hid (wr.ownsRow w.heap.size 3 1 (.slice qa ln qc) RES.length (RES.map (Value.int .i64))):=by
    have h2:=HO.out
    rw[← HLN.out,e] at h2
    rw[← HLN.out,e]
    exact h2
   clear HE e HO
   go_wp2
   go_ret
   exact⟨_,rfl,HB.out,OW.out⟩
theorem znH(a:Option Addr)(c:Nat)(S:List Nd)(p u E:Int)(w:World)(hN:S.length≤9223372036854775807)(hC:RChk a c S)(hS:NdsAt w a S)(hE:zao S [(p,u)]=E)(hE0:E≠0) :
  Calls Tryz.prog 33 #[.agg #[.slice a S.length c],.agg #[.int .i64 p,.int .i64 u]] w fun e w' => e=.returned (.tuple #[.agg #[.slice none 0 0],.int .i64 E])∧Below w.heap.size w w' := by
 have df:=fun(W:World) (ha:Option Addr) (hW:NdsAt W a S) (hH:zak W ha [(p,u)])=>zaW a c S ha 1 [(p,u)] W (by omega) hC hW (by simp) hH
 rw[hE] at df
 have DF:Hid _:=df
 have HS:Hid (NdsAt w a S):=hS
 have hz:(E == 0)=false:=by simp[hE0]
 have hz2:decide (E=0)=false:=decide_eq_false hE0
 clear hS hC df hE
 generalize S.length=n at *
 go_enter Tryz.func33,Tryz.ntmps33
 go_wp2_with fail
 refine Calls.mono (DF.out _ _ (HS.out.below ((zaj _ _ _ _).alloc (by simp;omega) _)) (zaP _ _ _ _ (by go_simp) (by go_simp))) ?_
 rintro e w1 ⟨rfl,hb1⟩
 simp only[World.size_alloc] at hb1
 obtain⟨l0,l1,l2,l3,z0,z1,hsz,hB1⟩:=zdv hb1
 have HB1:Hid _:=hB1
 clear hb1 hB1 DF
 go_wp2_with fail
 refine bodyPost_ret (v:=.tuple #[.agg #[.slice none 0 0],.int .i64 E]) (by simp[results,Tryz.results33,go_sem,l3]) rfl ⟨rfl,?_⟩
 first|exact HB1.out.setCell (by simp;omega) _|exact(HB1.out.setCell (by simp;omega) _).drew
theorem zna(a:Option Addr)(c:Nat)(S:List Nd)(ch:Nat)(u:Int)(w:World)(hN:S.length≤9223372036854775807)(hC:RChk a c S)(hS:NdsAt w a S)(hE:zao S [((ch:Int),u)]=0)(hch:ch<S.length)(hp:(nd S ch).p = -1) :
  Calls Tryz.prog 33 #[.agg #[.slice a S.length c],.agg #[.int .i64 (ch:Int),.int .i64 u]] w fun e w' => e=.returned (.tuple #[.agg #[.slice none 0 0],.int .i64 6])∧Below w.heap.size w w' := by
 have df:=fun(W:World) (ha:Option Addr) (hW:NdsAt W a S) (hH:zak W ha [((ch:Int),u)])=>zaW a c S ha 1 [((ch:Int),u)] W (by omega) hC hW (by simp) hH
 rw[hE] at df
 have DF:Hid _:=df
 have HS:Hid (NdsAt w a S):=hS
 have hch2:(ch:Int)<(S.length:Int):=by omega
 clear hS hC df hE
 generalize hn:S.length=n at *
 have HN:Hid (S.length=n):=hn
 clear hn
 go_enter Tryz.func33,Tryz.ntmps33
 go_wp2_with fail
 refine Calls.mono (DF.out _ _ (HS.out.below ((zaj _ _ _ _).alloc (by simp;omega) _)) (zaP _ _ _ _ (by go_simp) (by go_simp))) ?_
 rintro e w1 ⟨rfl,hb1⟩
 simp only[World.size_alloc] at hb1
 obtain⟨l0,l1,l2,l3,z0,z1,hsz,hB1⟩:=zdv hb1
 have HB1:Hid _:=hB1
 clear hb1 hB1 DF
 obtain⟨nb,no,ea,_,_,_,_,c4,_,_,_⟩:=(HS.out.below HB1.out) ch (by rw[HN.out];exact hch)
 subst ea
 rw[hp] at c4
 go_wp2_with fail
 refine bodyPost_ret (v:=.tuple #[.agg #[.slice none 0 0],.int .i64 6]) (by simp[results,Tryz.results33,go_sem,l3]) rfl ⟨rfl,?_⟩
 first|exact HB1.out.setCell (by simp;omega) _|exact(HB1.out.setCell (by simp;omega) _).drew
theorem ziM{S:List Nd}{pa ch:Nat}(hpa:pa<S.length)(hch:ch<S.length)(hne:pa≠ch) :
  (S.set pa ⟨(nd S pa).u,(nd S pa).n,(nd S pa).t,(nd S pa).m,(nd S pa).p,woF ch (nd S pa).ks,(nd S pa).h,(nd S pa).c⟩).set ch ⟨(nd S ch).u,(nd S ch).n,(nd S ch).t,(nd S ch).m,-1,(nd S ch).ks,(nd S ch).h,(nd S ch).c⟩=zbl S pa ch:=by
 refine List.ext_getElem (by simp[zaO]) (fun i h1 h2=>?_)
 have hi:i<S.length:=by simpa using h1
 have e1:=zcv S pa ch i hi
 rw[zaF (by rw[zaO];exact hi)] at e1
 rw[e1]
 unfold zda
 by_cases e:i=ch
 ·subst e
  rw[List.getElem_set_self,if_pos rfl]
 ·rw[List.getElem_set_ne (fun h=>e h.symm),if_neg e]
  by_cases e2:i=pa
  ·subst e2
   rw[List.getElem_set_self,if_pos rfl]
   rfl
  ·rw[List.getElem_set_ne (fun h=>e2 h.symm),if_neg e2,zaF hi]
theorem zpu(a:Option Addr)(c:Nat)(S:List Nd)(ch pa:Nat)(u:Int)(w:World)(hN:S.length≤24)(hC:RChk a c S)(hS:NdsAt w a S)(hK0:∀ i,i<S.length→(nd S i).ks.length≤1000)(hE:zao S [((ch:Int),u)]=0)(hch:ch<S.length)(hpa:pa<S.length)(hne:pa≠ch)(hp:(nd S ch).p=pa) :
  Calls Tryz.prog 33 #[.agg #[.slice a S.length c],.agg #[.int .i64 (ch:Int),.int .i64 u]] w fun e w' => ∃ a' c', e=.returned (.tuple #[.agg #[.slice a' S.length c'],.int .i64 0])∧Below w.heap.size w w' ∧ NdsAt w' a' (zbl S pa ch):=by
 have df:=fun(W:World) (ha:Option Addr) (hW:NdsAt W a S) (hH:zak W ha [((ch:Int),u)])=>zaW a c S ha 1 [((ch:Int),u)] W (by omega) hC hW (by simp) hH
 rw[hE] at df
 have DF:Hid _:=df
 have HS:Hid (NdsAt w a S):=hS
 have DO:Hid (∀ W,NdsAt W a S→Calls _ _ _ _ _):=fun W hW=>zdS a c S W (by omega) (fun i hi=>by have:=hK0 i hi;omega) hW
 have hch2:(ch:Int)<(S.length:Int):=by omega
 have hpa2:(pa:Int)<(S.length:Int):=by omega
 have LS:Hid _:=ziM hpa hch hne
 have HKS:Hid _:=hK0
 clear hS hC df hE hK0
 generalize hn:S.length=n at *
 have HN:Hid (S.length=n):=hn
 clear hn
 go_enter Tryz.func33,Tryz.ntmps33
 go_wp2_with fail
 refine Calls.mono (DF.out _ _ (HS.out.below ((zaj _ _ _ _).alloc (by simp;omega) _)) (zaP _ _ _ _ (by go_simp) (by go_simp))) ?_
 rintro e w1 ⟨rfl,hb1⟩
 simp only[World.size_alloc] at hb1
 obtain⟨l0,l1,l2,l3,z0,z1,hsz,hB1⟩:=zdv hb1
 have HB1:Hid _:=hB1
 clear hb1 hB1 DF
 obtain⟨nb,no,ea,_,_,_,_,c4,_,_,_⟩:=(HS.out.below HB1.out) ch (by rw[HN.out];exact hch)
 subst ea
 rw[hp] at c4
 have hpb:((pa:Int) == -1)=false:=beq_eq_false_iff_ne.2 (by omega)
 have hnb:=World.block_lt_of_cell? _ _ c4
 go_wp2_with fail
 refine Calls.mono (DO.out _ (HS.out.below HB1.out)) ?_
 rintro e w2 ⟨v,KK,rfl,hb2,hown⟩
 obtain⟨g,cap,rfl,hg,hg2,hcap,hcm,hO,hB3,⟨m0,y0⟩,m1,m2,m3,y1⟩:=zgm (by omega) hsz HB1.out l0 l1 l2 l3 z0 z1 hb2 hown
 obtain⟨W3,hW3⟩:∃ W3,w2.setCell ⟨w.heap.size,0,none⟩ (.slice (some ⟨g,0,none⟩) n cap)=W3:=⟨_,rfl⟩
 have HO3:Hid (OwnK (w.heap.size+4) S n KK (.slice (some ⟨g,0,none⟩) n cap) W3):=by rw[← hW3];exact hO
 have HB3:Hid (Below w.heap.size w W3):=by rw[← hW3];exact hB3
 have hs3:W3.heap.size=w2.heap.size:=by rw[← hW3];simp
 have s0:W3.cell? ⟨w.heap.size,0,none⟩=some (.slice (some ⟨g,0,none⟩) n cap):=by rw[← hW3];exact World.cell?_setCell_same _ _ _ m0
 have s1:W3.cell? ⟨w.heap.size+1,0,none⟩=some (.int .i64 (ch:Int)):=by rw[← hW3];exact zai (by omega) m1
 have s3:W3.cell? ⟨w.heap.size+1+1,0,none⟩=some (.slice none 0 0):=by rw[← hW3];exact zai (by omega) m3
 have f3:W3.frozen? ⟨w.heap.size+1+1,0,none⟩=false:=by rw[← hW3];exact zaZ y1
 clear hO hB3 hown hb2 l0 l1 l2 l3 z0 z1 c4 hnb DO
 have r4:W3.cell? ⟨g,ch*8+4,none⟩=some (.int .i64 (pa:Int)):=by
  have h:=HO3.out.cellAt (i:=ch) (j:=4) hch (by omega)
  rw[h]
  show some (Value.int .i64 (nd S ch).p)=_
  rw[hp]
 have r5:W3.cell? ⟨g,pa*8+5,none⟩=some (KK pa):=HO3.out.cellAt (i:=pa) (j:=5) hpa (by omega)
 obtain⟨ka,kc,hkv,hki,_⟩:=zar (HO3.out.2 pa hpa)
 rw[hkv] at r5
 have hkl:=HKS.out pa hpa
 have HKI:Hid (zah W3 ka (nd S pa).ks):=hki
 have hgl:g<W3.heap.size:=by omega
 have fz:∀ o,W3.frozen? ⟨g,o,none⟩=false:=fun o=>HO3.out.frozenAt o
 have DW:Hid (∀ W,zah W ka (nd S pa).ks→Calls _ _ _ _ _):=fun W hW=>zeY ka kc (nd S pa).ks (ch:Int) W hkl hW
 have e1:¬ w.heap.size=g:=by omega
 have e2:¬ w.heap.size+1=g:=by omega
 have e3:¬ w.heap.size+1+1=g:=by omega
 have e1' : ¬ g=w.heap.size:=by omega
 have e2' : ¬ g=w.heap.size+1:=by omega
 have e3' : ¬ g=w.heap.size+1+1:=by omega
 have q0:w.heap.size<W3.heap.size:=by omega
 have q1:w.heap.size+1<W3.heap.size:=by omega
 have q2:w.heap.size+1+1<W3.heap.size:=by omega
 obtain⟨L,hL⟩:∃ L,(nd S pa).ks.length=L:=⟨_,rfl⟩
 have HLk:Hid ((nd S pa).ks.length=L):=hL
 rw[hL] at r5 DW hkl
 clear hki m1 m2 m3 y1 hkv hL
 go_upto_region 7 with fail
 try rw[hW3]
 clear hW3 m0 y0
 go_wp2_with fail
 refine wp_region_noPanic ?_
 refine wp_region_held_drew (S:=fun w'' => w''.cell? ⟨w.heap.size,0,none⟩=some (.slice (some ⟨g,0,none⟩) n cap)∧w''.cell? ⟨w.heap.size+1,0,none⟩=some (.int .i64 (ch:Int))) (by kernel_rfl) (by(try dsimp only);go_keep) (fun hHeld=>?_)
 refine wpAnyH_take (i:=0) (v:=?_) rfl (by kernel_rfl) (by kernel_rfl) (by kernel_rfl) (fun _ _ _ h=>h) (Or.inl ⟨by rfl,?_⟩) (by assumption) ?_
 rotate_left
 ·intro w hSw;(try dsimp only at hSw);first|(go_simp;done)|(go_simp;with_reducible rfl)
 simp[Act.put]
 refine wpAnyH_take (i:=1) (v:=?_) rfl (by kernel_rfl) (by kernel_rfl) (by kernel_rfl) (fun _ _ _ h=>h) (Or.inl ⟨by rfl,?_⟩) (by assumption) ?_
 rotate_left
 ·intro w hSw;(try dsimp only at hSw);first|(go_simp;done)|(go_simp;with_reducible rfl)
 simp[Act.put]
 refine wpAnyH_take (i:=2) (v:=?_) rfl (by kernel_rfl) (by kernel_rfl) (by kernel_rfl) (fun _ _ _ h=>h) (Or.inl ⟨by rfl,?_⟩) (by assumption) ?_
 rotate_left
 ·intro w hSw;(try dsimp only at hSw);first|(go_simp;done)|(go_simp;with_reducible rfl)
 simp[Act.put]
 refine wpAnyH_take (i:=3) (v:=?_) rfl (by kernel_rfl) (by kernel_rfl) (by kernel_rfl) (fun _ _ _ h=>h) (Or.inl ⟨by rfl,?_⟩) (by assumption) ?_
 rotate_left
 ·intro w hSw;(try dsimp only at hSw);first|(go_simp;done)|(go_simp;with_reducible rfl)
 simp[Act.put]
 refine wpAnyH_take (i:=4) (v:=?_) rfl (by kernel_rfl) (by kernel_rfl) (by kernel_rfl) (fun _ _ _ h=>h) (Or.inl ⟨by rfl,?_⟩) (by assumption) ?_
 rotate_left
 ·intro w hSw;(try dsimp only at hSw);first|(go_simp;done)|(go_simp;with_reducible rfl)
 simp[Act.put]
 refine wpAnyH_take (i:=5) (v:=?_) rfl (by kernel_rfl) (by kernel_rfl) (by kernel_rfl) (fun _ _ _ h=>h) (Or.inl ⟨by rfl,?_⟩) (by assumption) ?_
 rotate_left
 ·intro w hSw;(try dsimp only at hSw);first|(go_simp;done)|(go_simp;with_reducible rfl)
 simp[Act.put]
 refine wpAnyH_take (i:=6) (v:=?_) rfl (by kernel_rfl) (by kernel_rfl) (by kernel_rfl) (fun _ _ _ h=>h) (Or.inl ⟨by rfl,?_⟩) (by assumption) ?_
 rotate_left
 ·intro w hSw;(try dsimp only at hSw);first|(go_simp;done)|(go_simp;with_reducible rfl)
 simp[Act.put]
 refine wpAnyH_take (i:=7) (v:=?_) rfl (by kernel_rfl) (by kernel_rfl) (by kernel_rfl) (fun _ _ _ h=>h) (Or.inl ⟨by rfl,?_⟩) (by assumption) ?_
 rotate_left
 ·intro w hSw;(try dsimp only at hSw);first|(go_simp;done)|(go_simp;with_reducible rfl)
 simp[Act.put]
 refine wpAnyH_take (i:=9) (v:=?_) rfl (by kernel_rfl) (by kernel_rfl) (by kernel_rfl) (fun _ _ _ h=>h) (Or.inl ⟨by rfl,?_⟩) (by assumption) ?_
 rotate_left
 ·intro w hSw;(try dsimp only at hSw);first|(go_simp;done)|(go_simp;with_reducible rfl)
 simp[Act.put]
 refine wpAnyH_take (i:=10) (v:=?_) rfl (by kernel_rfl) (by kernel_rfl) (by kernel_rfl) (fun _ _ _ h=>h) (Or.inl ⟨by rfl,?_⟩) (by assumption) ?_
 rotate_left
 ·intro w hSw;(try dsimp only at hSw);first|(go_simp;done)|(go_simp;with_reducible rfl)
 simp[Act.put]
 refine wpAnyH_ready (rs:=[8]) (by kernel_rfl) (by simp) ?_
 refine AllReadyH.cons rfl (fun K hK=>?_) AllReadyH.nil
 go_simp
 refine hK.out _ _ ?_ (fun hHeld=>?_)
 ·(try dsimp only)
  first|go_keep|exact⟨by assumption,by assumption⟩
 clear hK K
 try simp[Act.put]
 refine wpAnyH_ready (rs:=[11]) (by kernel_rfl) (by simp) ?_
 refine AllReadyH.cons rfl (fun K hK=>?_) AllReadyH.nil
 go_simp
 refine Calls.mono (DW.out _ (HKI.out.below (by first|exact(Below.refl _ _).drew|exact Below.refl _ _))) ?_
 rintro e w5 ⟨v5,rfl,hb5,hown5⟩
 have hb5' : Below W3.heap.size W3 w5:=(by first|exact(Below.refl W3.heap.size W3).drew.trans hb5|exact hb5)
 have t0:=keepC s0 hb5'
 have t1:=keepC s1 hb5'
 have t3:=keepC s3 hb5'
 have t4:=keepC r4 hb5'
 have t5:=keepC r5 hb5'
 have ft3:w5.frozen? ⟨w.heap.size+1+1,0,none⟩=false:=(hb5'.frozen (p:=⟨w.heap.size+1+1,0,none⟩) q2).trans f3
 have ftg:∀ o,w5.frozen? ⟨g,o,none⟩=false:=fun o=>(hb5'.frozen (p:=⟨g,o,none⟩) hgl).trans (fz o)
 have hs5:=hb5'.size
 have HO5:Hid (OwnK (w.heap.size+4) S n KK (.slice (some ⟨g,0,none⟩) n cap) w5):=HO3.out.other (fun b _ hb=>hb5'.block b hb)
 have HV5:Hid (w5.ownsRow (w.heap.size+4) 3 1 v5 (woF ch (nd S pa).ks).length ((woF ch (nd S pa).ks).map (Value.int .i64))):=zas hown5 (by first|(simp;omega)|omega)
 have HB5:Hid (Below w.heap.size w w5):=HB3.out.trans (hb5'.mono HB3.out.size)
 obtain⟨pa5,pc5,hv5,_⟩:=zar hown5
 subst hv5
 clear hb5 hb5' hown5
 go_wp2_with fail
 refine hK.out _ _ ?_ (fun hHeld=>?_)
 ·(try dsimp only)
  first|exact⟨t0,t1⟩|go_keep
 clear hK K
 try simp[Act.put]
 refine wpAnyH_take (i:=12) (v:=?_) rfl (by kernel_rfl) (by kernel_rfl) (by kernel_rfl) (fun _ _ _ h=>h) (Or.inl ⟨by rfl,?_⟩) (by assumption) ?_
 rotate_left
 ·intro w hSw;(try dsimp only at hSw);first|(go_simp;done)|(go_simp;with_reducible rfl)
 simp[Act.put]
 refine wpAnyH_take (i:=13) (v:=?_) rfl (by kernel_rfl) (by kernel_rfl) (by kernel_rfl) (fun _ _ _ h=>h) (Or.inl ⟨by rfl,?_⟩) (by assumption) ?_
 rotate_left
 ·intro w hSw;(try dsimp only at hSw);first|(go_simp;done)|(go_simp;with_reducible rfl)
 simp[Act.put]
 refine wpAnyH_ready (rs:=[14]) (by kernel_rfl) (by simp) ?_
 refine AllReadyH.cons rfl (fun K hK=>?_) AllReadyH.nil
 go_simp
 refine hK.out _ _ ?_ (fun hHeld=>?_)
 ·(try dsimp only)
  first|exact⟨zai (by omega) t0,zai (by omega) t1⟩|go_keep
 clear hK K
 try simp[Act.put]
 refine wpAnyH_done (by kernel_rfl) ?_ _
 refine NoPanic.normal ?_
 go_wp2_with fail
 have p1:=HO5.out.putK (k:=pa) hpa HN.out (woF ch (nd S pa).ks) (.slice pa5 (woF ch (nd S pa).ks).length pc5) HV5.out
 have e0:∀ X,nd (S.set pa X) ch=nd S ch:=fun X=>by rw[zav S pa ch _ (by rw[HN.out];exact hpa),if_neg (fun h=>hne h.symm)]
 have p2:=p1.put1 (k:=ch) (j:=4) (u:=.int .i64 (-1)) hch (by rw[List.length_set];exact HN.out) (by omega) ⟨(nd S ch).u,(nd S ch).n,(nd S ch).t,(nd S ch).m,-1,(nd S ch).ks,(nd S ch).h,(nd S ch).c⟩ (fun v j' hj' => by
  rw[e0]
  match j', hj' with
  | 0,_|1,_|2,_|3,_|4,_|5,_|6,_|7,_=>rfl) (by rw[e0])
 rw[LS.out] at p2
 have x3:((w5.setCell ⟨g,pa*8+5,none⟩ (.slice pa5 (woF ch (nd S pa).ks).length pc5)).setCell ⟨g,ch*8+4,none⟩ (.int .i64 (-1))).cell? ⟨w.heap.size+1+1,0,none⟩=some (.slice none 0 0):=zai e3 (zai e3 t3)
 refine bodyPost_ret (v:=.tuple #[.agg #[.slice (some ⟨g,0,none⟩) n cap],.int .i64 0]) (by simp[results,Tryz.results33,go_sem,x3]) rfl ⟨some ⟨g,0,none⟩,cap,rfl,?_,?_⟩
 ·first
   | exact((HB5.out.setCell (by simp;omega) _).setCell (by simp;omega) _).setCell (by simp;omega) _
   | exact(((HB5.out.setCell (by simp;omega) _).setCell (by simp;omega) _).setCell (by simp;omega) _).drew
 ·refine(p2.other (fun b hb _=>?_)).ndsAt (by rw[zaO];exact HN.out)
  first
   | exact Below.heap_setCell _ _ _ _ (by show b≠w.heap.size+1+1;omega)
   |(rw[heap_drew];exact Below.heap_setCell _ _ _ _ (by show b≠w.heap.size+1+1;omega))
end Go.Proofs.YtojlkdekdbdpoaaGreat

namespace Go.Proofs.YtojlkdekdbdpoaaGreat
open Go.RowKit
theorem zfr(S:List Nd)(a:Int):∀ (f:Nat) (x:Int),zbi S zae (zch a) f x false=decide (a ∈ lineF S f x)
 | 0,_=>by simp[zbi,lineF]
 | f+1,x=>by
  by_cases hx:isPl S.length x=true
  ·have e:lineF S (f+1) x=x :: lineF S f (zae (nd S x.toNat)):=by rw[lineF,if_pos hx]
   rw[e,zbi,if_pos hx]
   simp only[zch]
   by_cases h:x=a
   ·simp[h]
   ·have h2:¬ a=x:=fun e=>h e.symm
    simp only[h,decide_false,Bool.not_false,if_true,List.mem_cons,h2,false_or]
    exact zfr S a f _
  ·have e:lineF S (f+1) x=[]:=by rw[lineF,if_neg hx]
   rw[e,zbi,if_neg hx]
   simp
theorem zpj{S:List Nd}{pa ch:Nat}(hpa:pa<S.length):decide ((ch:Int) ∈ pathF S pa)=(decide ((pa:Int)=ch) || zbd S pa ch):=by
 unfold pathF zbd
 rw[if_pos (zcF.2 hpa),Int.toNat_natCast,zfr]
 by_cases h:(pa:Int)=ch
 ·simp[h]
 ·have h2:¬ (ch:Int)=pa:=fun e=>h e.symm
  simp[h,h2]
theorem zmc{S:List Nd}{pa ch:Nat}(hpa:pa<S.length):fitsB S ch pa=(decide ((nd S ch).h = -1) && !decide ((ch:Int) ∈ pathF S pa)):=by
 rw[zpj hpa]
 unfold fitsB
 cases decide ((pa:Int)=ch) <;> cases zbd S pa ch <;> simp
def insL(next c:Int)(ks:List Int):List Int:=ks.flatMap fun k=>if k=next then [c,k] else [k]
theorem zmX(next c k:Int)(l:List Int):insL next c (l++[k])=insL next c l++(if k=next then [c,k] else [k]):=by
 unfold insL
 rw[List.flatMap_append]
 simp
theorem zfE{next c:Int}:∀ {l:List Int},next ∉ l→insL next c l=l
 | [],_=>rfl
 | k :: l,h=>by
  have h1:¬ k=next:=fun e=>h (by simp[e])
  have h2:=zfE (next:=next) (c:=c) (l:=l) (fun hm=>h (List.mem_cons_of_mem _ hm))
  unfold insL at h2 ⊢
  rw[List.flatMap_cons,if_neg h1,h2]
  rfl
theorem zlB{next c:Int}:∀ {l:List Int} {i:Nat},l.Nodup→i<l.length→l.getD i 0=next→insL next c l=ins l i c
 | [],_,_,h,_=>by simp at h
 | k :: l,0,hn,_,h=>by
  have e:k=next:=by simpa using h
  subst e
  have:=zfE (next:=k) (c:=c) (List.nodup_cons.1 hn).1
  unfold insL at this ⊢
  rw[List.flatMap_cons,if_pos rfl,this]
  simp[ins]
 | k :: l,i+1,hn,hi,h=>by
  have hl:l.getD i 0=next:=by simpa using h
  have hi2:i<l.length:=by simpa using hi
  have hm:next ∈ l:=by rw[← hl,zad l 0 hi2];exact List.getElem_mem _
  have hk:¬ k=next:=fun e=>(List.nodup_cons.1 hn).1 (by rw[e];exact hm)
  have:=zlB (c:=c) (List.nodup_cons.1 hn).2 hi2 hl
  unfold insL at this ⊢
  rw[List.flatMap_cons,if_neg hk,this]
  simp[ins]
theorem zpi(l:List Int)(c:Int):ins l l.length c=l++[c]:=by simp[ins]
def outS(S:List Nd)(ch:Nat):List Nd:=if (nd S ch).p = -1 then S else S.set (nd S ch).p.toNat ⟨(nd S (nd S ch).p.toNat).u,(nd S (nd S ch).p.toNat).n,(nd S (nd S ch).p.toNat).t,(nd S (nd S ch).p.toNat).m,(nd S (nd S ch).p.toNat).p,woF ch (nd S (nd S ch).p.toNat).ks,(nd S (nd S ch).p.toNat).h,(nd S (nd S ch).p.toNat).c⟩
theorem zcx(S:List Nd)(ch:Nat):(outS S ch).length=S.length:=by
 unfold outS
 split <;> simp
theorem zgT{S:List Nd}{ch:Nat}(hp0:(nd S ch).p = -1∨∃ p0:Nat,p0<S.length∧p0≠ch∧(nd S ch).p=p0){j:Nat}(hj:j<S.length) :
  nd (outS S ch) j=⟨(nd (leaveG S ch) j).u,(nd (leaveG S ch) j).n,(nd (leaveG S ch) j).t,(nd (leaveG S ch) j).m,(nd S j).p,(nd (leaveG S ch) j).ks,(nd (leaveG S ch) j).h,(nd (leaveG S ch) j).c⟩:=by
 unfold outS leaveG
 rcases hp0 with h |⟨p0,h1,h2,h3⟩
 ·rw[if_pos h,if_pos h]
 ·have hn:¬ (nd S ch).p = -1:=by omega
  rw[if_neg hn,if_neg hn,h3,Int.toNat_natCast,zcv S p0 ch j hj,zav S p0 j _ h1]
  unfold zda
  by_cases e:j=ch
  ·subst e
   rw[if_neg (fun e=>h2 e.symm),if_pos rfl]
  ·by_cases e2:j=p0
   ·subst e2
    rw[if_pos rfl,if_neg e,if_pos rfl]
    rfl
   ·rw[if_neg e2,if_neg e,if_neg e2]
def moveS(S:List Nd)(pa ch:Nat):List Nd:=(outS S ch).set ch ⟨(nd (outS S ch) ch).u,(nd (outS S ch) ch).n,(nd (outS S ch) ch).t,(nd (outS S ch) ch).m,(pa:Int),(nd (outS S ch) ch).ks,(nd (outS S ch) ch).h,(nd (outS S ch) ch).c⟩
theorem zcD(S:List Nd)(pa ch:Nat):(moveS S pa ch).length=S.length:=by
 unfold moveS
 rw[List.length_set,zcx]
theorem zjF{S:List Nd}{pa ch:Nat}(hp0:(nd S ch).p = -1∨∃ p0:Nat,p0<S.length∧p0≠ch∧(nd S ch).p=p0)(hpa:pa<S.length)(hch:ch<S.length)(hne:pa≠ch):nd (moveS S pa ch) pa=nd (outS S ch) pa∧(nd (moveS S pa ch) pa).ks=(nd (leaveG S ch) pa).ks:=by
 have e:nd (moveS S pa ch) pa=nd (outS S ch) pa:=by
  unfold moveS
  rw[zav _ ch pa _ (by rw[zcx];exact hch),if_neg hne]
 exact⟨e,by rw[e,zgT hp0 hpa]⟩
theorem zkB{S:List Nd}{pa ch at' : Nat}(hp0:(nd S ch).p = -1∨∃ p0:Nat,p0<S.length∧p0≠ch∧(nd S ch).p=p0)(hpa:pa<S.length)(hch:ch<S.length)(hne:pa≠ch) :
  (moveS S pa ch).set pa ⟨(nd (moveS S pa ch) pa).u,(nd (moveS S pa ch) pa).n,(nd (moveS S pa ch) pa).t,(nd (moveS S pa ch) pa).m,(nd (moveS S pa ch) pa).p,ins (nd (leaveG S ch) pa).ks at' ch,(nd (moveS S pa ch) pa).h,(nd (moveS S pa ch) pa).c⟩=zaJ (leaveG S ch) pa ch at' := by
 have hl:=zaC S ch
 refine List.ext_getElem (by rw[List.length_set,zcD,zaB,hl]) (fun i h1 h2=>?_)
 have hi:i<S.length:=by rw[List.length_set,zcD] at h1;exact h1
 have e1:=zcL (leaveG S ch) pa ch at' i (by rw[hl];exact hi)
 rw[zaF (by rw[zaB,hl];exact hi)] at e1
 have e2:=zav (moveS S pa ch) pa i ⟨(nd (moveS S pa ch) pa).u,(nd (moveS S pa ch) pa).n,(nd (moveS S pa ch) pa).t,(nd (moveS S pa ch) pa).m,(nd (moveS S pa ch) pa).p,ins (nd (leaveG S ch) pa).ks at' ch,(nd (moveS S pa ch) pa).h,(nd (moveS S pa ch) pa).c⟩ (by rw[zcD];exact hpa)
 rw[zaF h1] at e2
 rw[e1,e2]
 unfold zdF
 by_cases e:i=pa
 ·subst e
  rw[if_pos rfl,if_neg hne,if_pos rfl,(zjF hp0 hpa hch hne).1,zgT hp0 hpa,zdU S hpa,if_neg hne]
 ·rw[if_neg e]
  by_cases e3:i=ch
  ·subst e3
   rw[if_pos rfl]
   unfold moveS
   rw[zav _ i i _ (by rw[zcx];exact hch),if_pos rfl,zgT hp0 hch]
  ·rw[if_neg e3,if_neg e]
   unfold moveS
   rw[zav _ ch i _ (by rw[zcx];exact hch),if_neg e3,zgT hp0 hi]
   have:=zdU S (ch:=ch) (j:=i) hi
   rw[if_neg e3] at this
   rw[← this]
end Go.Proofs.YtojlkdekdbdpoaaGreat

namespace Go.Proofs.YtojlkdekdbdpoaaGreat
set_option maxRecDepth 100000
set_option maxHeartbeats 4000000
open Go.RowKit
theorem zkQ(E:Int)(w:World):Calls Tryz.prog 82 #[.int .i64 E] w fun e w' => e=.returned (.tuple #[.agg #[.slice none 0 0],.int .i64 E])∧Below w.heap.size w w' := by
 go_enter Tryz.func82,Tryz.ntmps82
 go_wp2
 refine bodyPost_ret (v:=.tuple #[.agg #[.slice none 0 0],.int .i64 E]) (by simp[results,Tryz.results82,go_sem]) rfl ⟨rfl,?_⟩
 first
  | exact zab _ _
  | exact(zab _ _).setCell (by simp) _
  | exact((zab _ _).setCell (by simp) _).drew
theorem zcY{w w1:World}{a:Option Addr}{n c:Nat}{P pu C cu:Int}(hb:Below (w.heap.size+1+1+1+1) ((((w.alloc (.cells #[.slice a n c] 24)).alloc (.cells #[.int .i64 P,.int .i64 pu] 60)).alloc (.cells #[.int .i64 C,.int .i64 cu] 60)).alloc (.cells #[.slice none 0 0] 24)) w1) :
  (w1.cell? ⟨w.heap.size,0,none⟩=some (.slice a n c)∧w1.cell? ⟨w.heap.size+1,0,none⟩=some (.int .i64 P)∧w1.cell? ⟨w.heap.size+1+1,0,none⟩=some (.int .i64 C)∧w1.cell? ⟨w.heap.size+1+1+1,0,none⟩=some (.slice none 0 0))∧((∀ o,w1.frozen? ⟨w.heap.size,o,none⟩=false)∧∀ o,w1.frozen? ⟨w.heap.size+1+1+1,o,none⟩=false)∧w.heap.size+4≤w1.heap.size∧Below w.heap.size w w1:=by
 have hs:=hb.size
 simp only[World.size_alloc] at hs
 refine⟨⟨?_,?_,?_,?_⟩,⟨fun o=>?_,fun o=>?_⟩,by omega,(zan _ _ _ _ _).trans (hb.mono (by omega))⟩
 all_goals first|exact(hb.cell (by first|(simp;done)|(simp;omega))).trans (by go_simp)|exact(hb.frozen (by first|(simp;done)|(simp;omega))).trans (by go_simp)
end Go.Proofs.YtojlkdekdbdpoaaGreat
