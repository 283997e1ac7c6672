/-
  x
-/
import Derived.Test.YtojlkdekdbdpoaaGreatJLgLhCa
import Derived.Test.YtojlkdekdbdpoaaGreatJSrWfXdZaTlTmTnZf
import Derived.Test.YtojlkdekdbdpoaaGreatJWbTkSnWd
import Derived.Test.YtojlkdekdbdpoaaGreatJXcZgZh
import Derived.Test.YtojlkdekdbdpoaaGreatProg
import Derived.Maps.OwnOps
import Derived.Maps.Views
import Derived.Test.YtojlkdekdbdpoaaGreatJRlRdRwRxaRx
import Derived.Test.YtojlkdekdbdpoaaGreatJDfRaRbRh
import Derived.Test.YtojlkdekdbdpoaaGreatJTbSpTcTd
import Derived.Test.YtojlkdekdbdpoaaGreatJZpVbVcVd
import Derived.Test.YtojlkdekdbdpoaaGreatJRr
import Derived.BigQuiet
import Derived.Deep.RegionHeld3
namespace Go.Proofs.YtojlkdekdbdpoaaGreat
open Go.RowKit
end Go.Proofs.YtojlkdekdbdpoaaGreat

namespace Go.Proofs.YtojlkdekdbdpoaaGreat
open Go.RowKit
def zcl(S:List Nd)(k:Nat):List Slt:=if (nd S k).p = -1 then [] else zaw S (nd S k).p.toNat
def toL(L:List Slt)(k:Nat):Int:=match L.find? (fun s=>decide ((k:Int) ∈ s.gv)) with|some s=>s.pl|none=>-1
def toF(S:List Nd)(k:Nat):Int:=toL (zcl S k) k
theorem zjD{L:List Slt}{k i:Nat}(hi:i<L.length)(h:(k:Int) ∈ (slt L i).gv)(hf:∀ j,j<i→(k:Int) ∉ (slt L j).gv):toL L k=(slt L i).pl:=by
 unfold toL
 have e:L.find? (fun s=>decide ((k:Int) ∈ s.gv))=some (slt L i):=by
  rw[List.find?_eq_some_iff_getElem]
  refine⟨decide_eq_true h,i,hi,(zbx hi).symm,fun j hj=>?_⟩
  have:=hf j hj
  rw[zbx (by omega)] at this
  simp[this]
 rw[e]
theorem zny{L:List Slt}{k:Nat}(hf:∀ j,j<L.length→(k:Int) ∉ (slt L j).gv):toL L k = -1:=by
 unfold toL
 have e:L.find? (fun s=>decide ((k:Int) ∈ s.gv))=none:=by
  rw[List.find?_eq_none]
  intro s hs
  obtain⟨j,hj,rfl⟩:=List.getElem_of_mem hs
  have:=hf j hj
  rw[zbx hj] at this
  simpa using this
 rw[e]
theorem znh{S:List Nd}(wf:WF S){k i:Nat}(hk:k<S.length)(hi:i<(zcl S k).length):(slt (zcl S k) i).gv.length≤24:=by
 have hm:slt (zcl S k) i ∈ zcl S k:=by rw[zbx hi];exact List.getElem_mem hi
 generalize slt (zcl S k) i=s at *
 unfold zcl at hm
 split at hm
 ·cases hm
 ·rename_i hp
  obtain⟨pa,e,hpa,_⟩:=wf.parent_place hk hp
  rw[e,Int.toNat_natCast] at hm
  obtain⟨_,_,_,_,_,_,_,_,_,_,_,r6,_⟩:=zaX wf hm
  rcases r6 with e2|e2
  ·rw[e2];simp
  ·rw[e2]
   have h1:=wf.kids_small hpa
   unfold zbt flt
   exact Nat.le_trans (List.length_filter_le _ _) h1
end Go.Proofs.YtojlkdekdbdpoaaGreat

namespace Go.Proofs.YtojlkdekdbdpoaaGreat
open Go.RowKit
end Go.Proofs.YtojlkdekdbdpoaaGreat

namespace Go.Proofs.YtojlkdekdbdpoaaGreat
open Go.RowKit
def P6:List Nd:=S5.set 3 (zbq (nd S5 3) 0 false)
def P7:List Nd:=P6.set 4 (zbg (nd P6 4) 90)
def P8:List Nd:=zaJ (leaveG P7 4) 3 4 0
def VP(X:World)(bs bh g:Nat):Prop :=
 X.cell? ⟨bs,0,none⟩=some (.slice (some ⟨g,0,none⟩) 6 6)∧(∀ o,X.frozen? ⟨bs,o,none⟩=false)∧X.cell? ⟨bh,0,none⟩=some (.int .i64 0)∧X.cell? ⟨bh,1,none⟩=some (.int .i64 1)∧X.cell? ⟨bh,2,none⟩=some (.int .i64 1)∧X.cell? ⟨bh,3,none⟩=some (.int .i64 1)
def VH(X:World)(b:Nat)(k:Int):Prop:=X.cell? ⟨b,0,none⟩=some (.int .i64 k)∧X.cell? ⟨b,1,none⟩=some (.int .i64 1)
theorem VP.below{X Y:World}{bs bh g:Nat}(h:VP X bs bh g)(hb:Below X.heap.size X Y):VP Y bs bh g :=
 ⟨keepC h.1 hb,fun o=>(hb.frozen (p:=⟨bs,o,none⟩) (by have:=World.block_lt_of_cell? _ _ h.1;exact this)).trans (h.2.1 o),keepC h.2.2.1 hb,keepC h.2.2.2.1 hb,keepC h.2.2.2.2.1 hb,keepC h.2.2.2.2.2 hb⟩
theorem VH.below{X Y:World}{b:Nat}{k:Int}(h:VH X b k)(hb:Below X.heap.size X Y):VH Y b k:=⟨keepC h.1 hb,keepC h.2 hb⟩
theorem zdY{X:World}{b b' o o' : Nat}{v v' : Value}(h:X.cell? ⟨b,o,none⟩=some v)(hne:b≠b'):(X.setCell ⟨b', o', none⟩ v').cell? ⟨b,o,none⟩=some v:=(World.cell?_of_block (Below.heap_setCell _ _ _ _ hne)).trans h
theorem VH.set{X:World}{b b' o:Nat}{k:Int}{v:Value}(h:VH X b k)(hne:b≠b'):VH (X.setCell ⟨b', o,none⟩ v) b k:=⟨zdY h.1 hne,zdY h.2 hne⟩
theorem VP.set{X:World}{bs bh g g' : Nat}(h:VP X bs bh g)(hne:bh≠bs):VP (X.setCell ⟨bs,0,none⟩ (.slice (some ⟨g', 0,none⟩) 6 6)) bs bh g' :=
 ⟨World.cell?_setCell_same _ _ _ h.1,fun o=>by rw[World.frozen?_setCell];exact h.2.1 o,zdY h.2.2.1 hne,zdY h.2.2.2.1 hne,zdY h.2.2.2.2.1 hne,zdY h.2.2.2.2.2 hne⟩
theorem VH.new(X:World)(k:Int):VH (X.alloc (.cells #[.int .i64 k,.int .i64 1] 60)) X.heap.size k:=⟨zac X _ _ 0 rfl,zac X _ _ 1 rfl⟩
end Go.Proofs.YtojlkdekdbdpoaaGreat

namespace Go.Proofs.YtojlkdekdbdpoaaGreat
open Go.RowKit
def zoV(S:List Nd)(t:Nat):Prop:=∀ j r,Up S j t r→(nd S r).h = -1
theorem zlb{S:List Nd}{T p r H i j:Nat}(hT:zoV S T)(hi:Up S i p T)(hj:Up S j p r)(hH:H<S.length)(hh:(nd S r).h=H):∃ m,Up S m H T:=by
 by_cases hij:i≤j
 ·obtain⟨y,h1,h2⟩:=Up.split (i:=i) (j:=j-i) (by rw[show i+(j-i)=j by omega];exact hj)
  have:=Up.det h1 hi
  subst this
  have:=hT _ _ h2
  omega
 ·obtain⟨y,h1,h2⟩:=Up.split (i:=j+1) (j:=i-(j+1)) (by rw[show j+1+(i-(j+1))=i by omega];exact hi)
  have h3:Up S (j+1) p H:=hj.trans (WF.up_one hH (by unfold zae;rw[if_neg (by omega)];exact hh))
  have:=Up.det h1 h3
  subst this
  exact⟨_,h2⟩
theorem ShR.under{S:List Nd}(h:WF S){g:Nat→List Int}(G:GivOk S g){k T i:Nat}(hk:k<S.length)(hT:zoV S T)(hu:Up S i k T):∀ {j z:Nat},ShR (showF S g) k j z→∃ m,Up S m z T
 | 0,z,e=>by cases e;exact⟨i,hu⟩
 | j+1,z,⟨y,hy,hz⟩=>by
  obtain⟨m,hm⟩:=ShR.under h G hk hT hu hy
  have y1:=(ShR.facts h G hk hy).1
  obtain⟨k', q,e,hk', hq,_,_,_,hru,hw⟩:=zdx h G y1 hz
  have:z=k' := by omega
  subst this
  have z1:Up S 1 z q:=WF.up_one hq hru
  rcases hw with hw |⟨_,_,r,j2,hr,hrh,hup⟩ |⟨_,rfl⟩
  ·have q1:Up S 1 q y:=WF.up_one y1 (by unfold zae;rw[if_neg (by omega)];exact hw)
   exact⟨_,z1.trans (q1.trans hm)⟩
  ·obtain⟨m2,hm2⟩:=zlb hT hm hup hq hrh
   exact⟨_,z1.trans hm2⟩
  ·exact⟨_,z1.trans hm⟩
end Go.Proofs.YtojlkdekdbdpoaaGreat

namespace Go.Proofs.YtojlkdekdbdpoaaGreat
open Go.RowKit
theorem zkh{S:List Nd}(h:WF S){H:Nat}{s s' : Slt}(hs:s ∈ zaw S H)(hs' : s' ∈ zaw S H){c:Int}(hc:c ∈ s.gv)(hc' : c ∈ s'.gv):s=s' := by
 obtain⟨r,_,_,_,_,e1,_,_,_,_,_,_,m1⟩:=zaX h hs
 obtain⟨r', _,_,_,_,e2,_,_,_,_,_,_,m2⟩:=zaX h hs'
 have:r=r' := by omega
 subst this
 exact zhX m1 m2 hc hc'
theorem ziI{S:List Nd}(h:WF S){k:Nat}(hk:k<S.length){i:Nat}(hi:i<(zaw S k).length){c:Int}(hc:c ∈ (slt (zaw S k) i).gv) :
  ∃ n:Nat,c=n∧n<S.length∧(nd S n).u=true∧(nd S n).p=k∧toF S n=(slt (zaw S k) i).pl∧findE S n (nd S n).n=0:=by
 have hm:∀ {j},j<(zaw S k).length→slt (zaw S k) j ∈ zaw S k:=fun hj=>by rw[zbx hj];exact List.getElem_mem hj
 obtain⟨_,_,_,_,_,_,_,_,_,_,_,r6,_⟩:=zaX h (hm hi)
 have e:=r6.resolve_left (fun e=>by rw[e] at hc;cases hc)
 have hc2:=hc
 rw[e] at hc2
 obtain⟨n,rfl,hn,hu,hp,_⟩:=h.kid hk (zbQ.1 hc2).1
 refine⟨n,rfl,hn,hu,hp,?_,znb h (zgd hn hu rfl h)⟩
 unfold toF
 have hP:zcl S n=zaw S k:=by unfold zcl;rw[hp,if_neg (by omega),Int.toNat_natCast]
 rw[hP]
 have nd1:=zcs h (H:=k)
 refine zjD hi hc (fun j hj hcj=>?_)
 have e2:=zkh h (hm (show j<(zaw S k).length by omega)) (hm hi) hcj hc
 have:=List.nodup_iff_pairwise_ne.1 nd1
 rw[List.pairwise_iff_getElem] at this
 have h3:=this j i (by rw[List.length_map];omega) (by rw[List.length_map];omega) hj
 rw[List.getElem_map,List.getElem_map,← zbx (by omega),← zbx hi,e2] at h3
 exact h3 rfl
end Go.Proofs.YtojlkdekdbdpoaaGreat

namespace Go.Proofs.YtojlkdekdbdpoaaGreat
set_option maxRecDepth 100000
set_option maxHeartbeats 4000000
open Go.ChangeShapes Go.WideShapes
theorem zoC(w:World):(zeroValue 4).run Tryz.prog w=.ok (.bool false) w:=by kernel_rfl
def zax(w:World)(b n:Nat)(f:Int→Bool):Prop :=
 ∃ D:DataW Unit,w.ownsMap Tryz.prog 3 (plainElem Tryz.prog 4) b n D∧Maps.IsMap D∧∀ k:Int,(Lit.int .i64 k).wf=true→D.atKey (.int .i64 k) (.lit (.bool false))=.lit (.bool (f k))
theorem zax.made(w:World):zax (w.alloc (.map #[] 0)) w.heap.size 0 (fun _=>false) :=
 ⟨.map [],World.ownsMap_made w _ _ _,Maps.isMap_empty,fun _ _=>rfl⟩
theorem zax.lt{w:World}{b n:Nat}{f:Int→Bool}(h:zax w b n f):b<w.heap.size:=let ⟨_,h1,_⟩:=h;h1.lt
theorem zax.kept{w w' : World}{b n:Nat}{f:Int→Bool}(h:zax w b n f)(e:w'.heap[b]?=w.heap[b]?):zax w' b n f:=by
 obtain⟨D,⟨es,clock,hb,F,hs,hD⟩,h2⟩:=h
 exact⟨D,⟨es,clock,e.trans hb,F,hs,hD⟩,h2⟩
theorem zer{P:Program}{e:TypeId}(he:P.underlying e=some .bool){v:Value}{z:DataW Unit × List MemPlace}(h:plainElem P e v=some z):∃ x,v=.bool x∧z=(.lit (.bool x),[]):=by
 unfold plainElem at h
 rw[he] at h
 cases v <;> simp at h
 exact⟨_,rfl,h.symm⟩
theorem zax.look{w:World}{b n:Nat}{f:Int→Bool}(h:zax w b n f){t:TypeId}(ht:Tryz.prog.underlying t=some (.map 3 4)){k:Int}(hk:(Lit.int .i64 k).wf=true) :
  (Instr.lookup t (.map (some b)) (.int .i64 k) false).run Tryz.prog w=.ok (.bool (f k)) w:=by
 obtain⟨D,h1,_,h3⟩:=h
 obtain⟨v,ps,hrun,hv⟩:=h1.lookup (Maps.int_keyed Tryz.underlying3) ht (zoC w) (plainElem_bool Tryz.underlying4 false) (Maps.keyOf_int_mk Tryz.underlying3 hk)
 obtain⟨x,rfl,e⟩:=zer Tryz.underlying4 hv
 rw[h3 k hk] at e
 cases e
 exact hrun
theorem zax.put{w:World}{b n:Nat}{f:Int→Bool}(h:zax w b n f){t:TypeId}(ht:Tryz.prog.underlying t=some (.map 3 4))(hn:n<maxLen){k:Int}(hk:(Lit.int .i64 k).wf=true)(v:Bool) :
  ∃ w',(Instr.mapUpdate t (.map (some b)) (.int .i64 k) (.bool v)).run Tryz.prog w=.ok () w' ∧ zax w' b (n+1) (fun j=>if j=k then v else f j)∧w.grownBy w' (some b):=by
 obtain⟨D,h1,h2,h3⟩:=h
 obtain⟨w', hrun,h4,h5⟩:=h1.update (Maps.int_keyed Tryz.underlying3) ht hn (Maps.keyOf_int_mk Tryz.underlying3 hk) (plainElem_bool Tryz.underlying4 v)
 refine⟨w', hrun,⟨_,h4,h2.put _ _,fun j hj=>?_⟩,h5⟩
 by_cases e:j=k
 ·subst e
  simp only[if_true]
  exact Maps.atKey_put_same (k:=.int .i64 j) h2 (show WideAt.IsKeyLit (.int .i64 j) from trivial) _ _
 ·simp only[if_neg e]
  rw[Maps.atKey_put_other (by intro e2;cases e2;exact e rfl)]
  exact h3 j hj
end Go.Proofs.YtojlkdekdbdpoaaGreat

namespace Go.Proofs.YtojlkdekdbdpoaaGreat
set_option maxRecDepth 100000
set_option maxHeartbeats 4000000
open Go.RowKit
def zca(S:List Nd)(x:Int):Bool:=decide ((nd S x.toNat).h = -1)
def zdp(S:List Nd)(k:Nat):List Int:=flt (zca S) (pathF S k)
theorem zmy{S:List Nd}{k:Nat}(hk:k<S.length):lineF S (S.length+1) (k:Int)=pathF S k:=by
 rw[lineF,if_pos (zcF.2 hk),Int.toNat_natCast]
 rfl
theorem zll(a:Option Addr)(c:Nat)(S:List Nd)(k:Nat)(w:World)(hN:S.length≤24)(hk:k<S.length)(hS:NdsAt w a S) :
  Calls Tryz.prog 81 #[.agg #[.slice a S.length c],.int .i64 (k:Int)] w fun e w' => ∃ v,e=.returned v∧Below w.heap.size w w' ∧ w'.ownsRow w.heap.size 3 1 v (zdp S k).length ((zdp S k).map (Value.int .i64)):=by
 obtain⟨i0,hi0,hz0,hz1,hz2⟩:=info_parts info3
 have dl:=fun(W:World) (hW:NdsAt W a S)=>zfu a c S (k:Int) W hN hW
 rw[zmy hk] at dl
 have DL:Hid _:=dl
 have HS:Hid (NdsAt w a S):=hS
 have PL:Hid (∀ y ∈ pathF S k,∃ x:Nat,y=x∧x<S.length):=fun y hy=>by
  obtain⟨x,_,e1,e2,_⟩:=znF hk hy
  exact⟨x,e1,e2⟩
 have PB:Hid ((pathF S k).length≤25):=Nat.le_trans (zfm S k) (by omega)
 have R0:Hid (zdp S k=flt (zca S) (pathF S k)):=(rfl:zdp S k=_)
 clear hS dl
 generalize zdp S k=RES at *
 generalize pathF S k=P at *
 obtain⟨m,hm⟩:∃ m,P.length=m:=⟨_,rfl⟩
 have HM:Hid (P.length=m):=hm
 rw[hm] at DL PB
 have hmb:m≤25:=PB.out
 obtain⟨n,hn⟩:∃ n,S.length=n:=⟨_,rfl⟩
 have HN:Hid (S.length=n):=hn
 rw[hn] at hN hk DL PL ⊢
 clear hn hm
 go_enter Tryz.func81,Tryz.ntmps81
 go_wp2_with fail
 refine Calls.mono (DL.out _ (HS.out.below ((Below.refl _ _).alloc (Nat.le_refl _) _))) ?_
 rintro e w1 ⟨v,rfl,hb1,hown1⟩
 have hb1' := hb1
 simp only[World.size_alloc] at hb1'
 have hs1:=hb1'.size
 simp only[World.size_alloc] at hs1
 have ho2:w1.ownsRow (w.alloc (.cells #[.slice a n c] 24)).heap.size 3 1 v P.length (P.map (Value.int .i64)):=by rw[HM.out];exact hown1
 obtain⟨pa,pc,hv,hints,_⟩:=zar ho2
 rw[HM.out] at hv
 subst hv
 have l0:w1.cell? ⟨w.heap.size,0,none⟩=some (.slice a n c):=(hb1'.cell (by simp)).trans (by go_simp)
 have HB1:Hid (Below w.heap.size w w1):=((Below.refl _ _).alloc (Nat.le_refl _) _).trans (hb1'.mono (by omega))
 have HI:Hid (zah w1 pa P):=hints
 clear hb1 hb1' hown1 ho2 hints
 go_wp2_with fail
 go_loopg [5,12] m (fun g s5 s12 wr=>∃ (i:Nat) (l:List Int),i≤m∧m-i≤g∧s12=.int .i64 i∧l.length≤i∧Hid (Below w1.heap.size w1 wr)∧wr.cell? ⟨w.heap.size,0,none⟩=some (.slice a n c)∧w1.heap.size≤wr.heap.size∧Hid (wr.ownsRow w1.heap.size 3 1 s5 l.length (l.map (Value.int .i64)))∧Hid (l=flt (zca S) (P.take i)))
 case atStart=>exact⟨0,[],by omega,by omega,rfl,by simp,Below.refl _ _,l0,Nat.le_refl _,World.ownsRow_nil _ _ _ _,(by simp[flt]:([]:List Int)=flt (zca S) (P.take 0))⟩
 case round =>
  obtain⟨i,l,hi,hg,rfl,hli,HB,cs,hsz,HO,HE⟩:=hrel
  clear l0
  obtain⟨qa,qc,hv,_⟩:=zar HO.out
  subst hv
  obtain⟨ln,hln⟩:∃ y,l.length=y:=⟨_,rfl⟩
  have HLN:Hid (l.length=ln):=hln
  rw[hln] at HO hli ⊢
  clear hln
  have HBW:Hid (Below w.heap.size w wr):=HB1.out.trans (HB.out.mono HB1.out.size)
  by_cases hlt:i<m
  ·obtain⟨y,hy,hyn⟩:=PL.out (P.getD i 0) (by rw[zad P 0 (by rw[HM.out];exact hlt)];exact List.getElem_mem _)
   obtain⟨pb,po,ep,hpc⟩:=(HI.out.below HB.out) i (by rw[HM.out];exact hlt)
   subst ep
   rw[hy] at hpc
   obtain⟨nb,no,ea,_,_,_,_,_,_,c6,_⟩:=(HS.out.below HBW.out) y (by rw[HN.out];exact hyn)
   subst ea
   have hy2:(y:Int)<(n:Int):=by omega
   have hi2:(i:Int)<(m:Int):=by omega
   have NX:Hid (flt (zca S) (P.take (i+1))=l++(if (nd S y).h = -1 then [] else [(y:Int)])):=by
    have e:=zcB (zca S) P i (by rw[HM.out];exact hlt)
    rw[hy] at e
    show flt _ _=_
    rw[e,← HE.out]
    unfold zca
    rw[Int.toNat_natCast]
    by_cases h:(nd S y).h = -1 <;> simp[h]
   clear HE hy
   generalize (nd S y).h=hh at *
   by_cases hh1:hh = -1
   ·subst hh1
    have E2:Hid (l=flt (zca S) (P.take (i+1))):=(by rw[NX.out];simp:l=flt (zca S) (P.take (i+1)))
    have HO2:Hid (wr.ownsRow w1.heap.size 3 1 (.slice qa ln qc) l.length (l.map (Value.int .i64))):=(by rw[HLN.out];exact HO.out:wr.ownsRow w1.heap.size 3 1 (.slice qa ln qc) l.length (l.map (Value.int .i64)))
    clear NX HO
    go_wp2
    go_roundg (m-(i+1))
    case measure=>omega
    case rel=>exact⟨i+1,l,by omega,by omega,by go_num,by rw[HLN.out];omega,HB,cs,hsz,HO2,E2⟩
   ·have hhb:(hh == -1)=false:=beq_eq_false_iff_ne.2 hh1
    have hhd:decide (hh = -1)=false:=decide_eq_false hh1
    have E2:Hid (l++[(y:Int)]=flt (zca S) (P.take (i+1))):=(by rw[NX.out,if_neg hh1]:l++[(y:Int)]=flt (zca S) (P.take (i+1)))
    have OB:Hid (∀ k,(Value.slice qa ln qc).ownBlock=some k→w1.heap.size≤k):=fun k hk=>(HO.out.lt k hk).1
    have hln1:ln≤24:=by omega
    clear NX
    go_wp2_with (at_builtin;refine wpList_append_own _ rfl _ _ 29 rfl w1.heap.size 3 i0 (.int .i64 0) 1 8 Tryz.underlying29 hi0 hz0 hz1 hz2 rfl (by decide) _ _ _ rfl (HO.out.alloc _) ⟨wr.heap.size,0,none⟩ 1 1 [.int .i64 (y:Int)] rfl rfl ?c1 ?c2 ?c3 ?c4 ?c5 ?_)
    case c2=>first|rfl|(intro u hu;simp at hu;subst hu;rfl)|simp
    case c3=>unfold maxLen;omega
    case c4=>omega
    case c5=>first|omega|(simp;omega)
    case c1=>first|(go_simp;done)|(intro j u hj;match j,hj with|0,hj=>(cases hj;go_simp)|(j+1),hj=>simp at hj)
    intro v' w2 hown' hgrow _
    have hb2:Below w1.heap.size wr w2:=((Below.refl _ wr).alloc (by omega) _).grown hgrow (by simp;omega) (fun k hk=>OB.out k hk)
    have HB2:Hid (Below w1.heap.size w1 w2):=HB.out.trans hb2
    have cs2:=(hb2.cell (p:=⟨w.heap.size,0,none⟩) (by show w.heap.size < _;omega)).trans cs
    have HO2:Hid (w2.ownsRow w1.heap.size 3 1 v' (l++[(y:Int)]).length ((l++[(y:Int)]).map (Value.int .i64))):=by
     have h2:=hown'
     rw[show (l++[(y:Int)]).length=ln+1 by simp[HLN.out],List.map_append]
     exact h2
    have hs2:=HB2.out.size
    clear hown' hgrow hb2 cs HO
    go_wp2_with fail
    go_roundg (m-(i+1))
    case measure=>omega
    case rel=>exact⟨i+1,l++[(y:Int)],by omega,by omega,by go_num,by simp[HLN.out];omega,HB2,cs2,hs2,HO2,E2⟩
  ·have hie:i=m:=by omega
   subst hie
   have e:=HE.out
   rw[List.take_of_length_le (by rw[HM.out];omega),← R0.out] at e
   have OW:Hid (wr.ownsRow w.heap.size 3 1 (.slice qa ln qc) RES.length (RES.map (Value.int .i64))):=by
    have h2:=zbR HO.out (show w.heap.size≤w1.heap.size by omega)
    rw[← HLN.out,e] at h2
    rw[← HLN.out,e]
    exact h2
   clear HE e HO
   go_wp2
   go_ret
   exact⟨_,rfl,HBW.out,OW.out⟩
end Go.Proofs.YtojlkdekdbdpoaaGreat

namespace Go.Proofs.YtojlkdekdbdpoaaGreat
open Go.RowKit
end Go.Proofs.YtojlkdekdbdpoaaGreat

namespace Go.Proofs.YtojlkdekdbdpoaaGreat
open Go.RowKit
def PathI(W:World)(a:Option Addr)(S:List Nd)(bf:Nat)(i:Nat)(st:List Int)(w1:World):Prop :=
 Below W.heap.size W w1∧NdsAt W a S∧W.heap.size≤bf∧st.length=i+1∧∃ v,w1.heap[bf]?=some (.cells #[v] 29 (0,0))∧w1.ownsRow W.heap.size 3 1 v st.length (st.map (Value.int .i64))
theorem PathI.below{W w1 w2:World}{a:Option Addr}{S:List Nd}{bf i:Nat}{st:List Int}(h:PathI W a S bf i st w1)(hb:Below w1.heap.size w1 w2):PathI W a S bf i st w2:=by
 obtain⟨hB,hS,hbf,hl,v,hc,hown⟩:=h
 have hbw:=(Array.getElem?_eq_some_iff.1 hc).1
 exact⟨hB.trans (hb.mono hB.size),hS,hbf,hl,v,(hb.block _ hbw).trans hc,hown.kept (row:=none) ⟨hb.os,hb.tape,hb.output,hb.size,fun k hk _=>hb.block k hk⟩ (by
  cases hv:v.ownBlock with
  | none=>exact Or.inl rfl
  | some k=>exact Or.inr (fun e=>by cases e))⟩
theorem PathI.step{W w1 w2:World}{a:Option Addr}{S:List Nd}{bf i:Nat}{st:List Int}(x:Int)(h:PathI W a S bf i st w1){v v' : Value}(hc:w1.heap[bf]?=some (.cells #[v] 29 (0,0)))(o1:Obj)
  (hown:w1.ownsRow W.heap.size 3 1 v st.length (st.map (Value.int .i64)))
  (hown' : w2.ownsRow W.heap.size 3 1 v' (st.length+1) (st.map (Value.int .i64)++[.int .i64 x])) (hg:(w1.alloc o1).grownBy w2 v.ownBlock) :
  w2.heap[bf]?=some (.cells #[v] 29 (0,0))∧PathI W a S bf (i+1) (st++[x]) (w2.setCell ⟨bf,0,none⟩ v')∧Off (fun k=>W.heap.size≤k) w1 (w2.setCell ⟨bf,0,none⟩ v') ∧
   (∀ k:Nat,∀ x t,w1.heap[k]?=some (.cells #[x] t (0,0))→t≠29→t≠3→(w2.setCell ⟨bf,0,none⟩ v').heap[k]?=w1.heap[k]?):=by
 obtain⟨hB,hS,hbf,hl,_,_,_⟩:=h
 have hbw:=(Array.getElem?_eq_some_iff.1 hc).1
 have hrow:∀ k,v.ownBlock=some k→W.heap.size≤k:=fun k hk=>(hown.lt k hk).1
 have hrt:∀ k,v.ownBlock=some k→∀ x t,w1.heap[k]?=some (.cells #[x] t (0,0))→t=3:=fun k hk x t hx=>by
  rcases hown.2 with ⟨hv,_⟩ |⟨g,cap,cur,hv,_,hcur,_⟩
  ·rw[hv] at hk;cases hk
  ·rw[hv] at hk
   have:g=k:=by simpa [Value.ownBlock] using hk
   rw[← this,hcur] at hx;cases hx;rfl
 have hblk:∀ k,k<w1.heap.size→v.ownBlock≠some k→w2.heap[k]?=w1.heap[k]?:=fun k hk hn =>
  (hg.block k (by simp;omega) (fun e=>hn e.symm)).trans (Below.heap_alloc _ _ _ (by omega))
 have hbfn:v.ownBlock≠some bf:=fun e=>by have:=hrt bf e _ _ hc;revert this;decide
 have hc2:w2.heap[bf]?=some (.cells #[v] 29 (0,0)):=(hblk bf hbw hbfn).trans hc
 have hsz:=hg.size
 have hBs:=hB.size
 simp only[World.size_alloc] at hsz
 refine⟨hc2,⟨⟨?_,?_,?_,?_,fun k hk=>?_⟩,hS,hbf,by simp[hl],v', zmx hc2,?_⟩,⟨?_,?_,?_,?_,fun k hk hx=>?_⟩,fun k x t hk h1 h2=>?_⟩
 ·exact hg.os.trans hB.os
 ·exact hg.tape.trans hB.tape
 ·exact hg.output.trans hB.output
 ·simp;omega
 ·rw[Below.heap_setCell _ _ _ _ (by show k≠bf;omega),hblk k (by omega) (fun e=>by have:=hrow k e;omega)]
  exact hB.block k hk
 ·have h3:=hown'.kept (grownBy_setCell w2 ⟨bf,0,none⟩ v') (by
   cases hb:v'.ownBlock with
   | none=>exact Or.inl rfl
   | some k =>
    right
    intro e
    rcases hown'.2 with ⟨hv,h0⟩ |⟨g,cap,cur,hv,_,hcur,_⟩
    ·omega
    ·rw[hv] at hb
     have e1:g=k:=by simpa [Value.ownBlock] using hb
     have e2:k=bf:=by simpa using e
     rw[e1,e2,hc2] at hcur
     cases hcur)
  simpa using h3
 ·exact hg.os
 ·exact hg.tape
 ·exact hg.output
 ·simp;omega
 ·rw[Below.heap_setCell _ _ _ _ (by show k≠bf;exact fun e=>hx (by show W.heap.size≤k;omega)),hblk k hk (fun e=>hx (hrow k e))]
 ·have hkl:=(Array.getElem?_eq_some_iff.1 hk).1
  rw[Below.heap_setCell _ _ _ _ (by show k≠bf;exact fun e=>by rw[e,hc] at hk;cases hk;exact h1 rfl),hblk k hkl (fun e=>h2 (hrt k e _ _ hk))]
end Go.Proofs.YtojlkdekdbdpoaaGreat

namespace Go.Proofs.YtojlkdekdbdpoaaGreat
open Go.RowKit
end Go.Proofs.YtojlkdekdbdpoaaGreat

namespace Go.Proofs.YtojlkdekdbdpoaaGreat
open Go.RowKit
end Go.Proofs.YtojlkdekdbdpoaaGreat

namespace Go.Proofs.YtojlkdekdbdpoaaGreat
open Go.RowKit
end Go.Proofs.YtojlkdekdbdpoaaGreat

namespace Go.Proofs.YtojlkdekdbdpoaaGreat
open Go.RowKit
def VL(X:World)(bs bh br g:Nat):Prop :=
 (X.cell? ⟨bs,0,none⟩=some (.slice (some ⟨g,0,none⟩) 6 6)∧(∀ o,X.frozen? ⟨bs,o,none⟩=false))∧(X.cell? ⟨bh,0,none⟩=some (.int .i64 0)∧X.cell? ⟨bh,1,none⟩=some (.int .i64 1)∧X.cell? ⟨bh,2,none⟩=some (.int .i64 1)∧X.cell? ⟨bh,3,none⟩=some (.int .i64 1)∧X.cell? ⟨bh,4,none⟩=some (.int .i64 2)∧X.cell? ⟨bh,5,none⟩=some (.int .i64 1))∧(X.cell? ⟨br,0,none⟩=some (.int .i64 3)∧X.cell? ⟨br,1,none⟩=some (.int .i64 1))
theorem VL.below{X Y:World}{bs bh br g:Nat}(h:VL X bs bh br g)(hb:Below X.heap.size X Y):VL Y bs bh br g:=by
 obtain⟨⟨a0,a1⟩,⟨b0,b1,b2,b3,b4,b5⟩,c0,c1⟩:=h
 have l0:=World.block_lt_of_cell? _ _ a0
 have l1:=World.block_lt_of_cell? _ _ b0
 have l2:=World.block_lt_of_cell? _ _ c0
 exact⟨⟨(hb.cell l0).trans a0,fun o=>(hb.frozen (p:=⟨bs,o,none⟩) l0).trans (a1 o)⟩,⟨(hb.cell (p:=⟨bh,0,none⟩) l1).trans b0,(hb.cell (p:=⟨bh,1,none⟩) l1).trans b1,(hb.cell (p:=⟨bh,2,none⟩) l1).trans b2,(hb.cell (p:=⟨bh,3,none⟩) l1).trans b3,(hb.cell (p:=⟨bh,4,none⟩) l1).trans b4,(hb.cell (p:=⟨bh,5,none⟩) l1).trans b5⟩,(hb.cell (p:=⟨br,0,none⟩) l2).trans c0,(hb.cell (p:=⟨br,1,none⟩) l2).trans c1⟩
theorem VL.set{X:World}{bs bh br g g' : Nat}(h:VL X bs bh br g)(h1:bs≠bh)(h2:bs≠br):VL (X.setCell ⟨bs,0,none⟩ (.slice (some ⟨g', 0,none⟩) 6 6)) bs bh br g' := by
 obtain⟨⟨a0,a1⟩,⟨b0,b1,b2,b3,b4,b5⟩,c0,c1⟩:=h
 refine⟨⟨World.cell?_setCell_same _ _ _ a0,fun o=>by rw[World.frozen?_setCell];exact a1 o⟩,⟨?_,?_,?_,?_,?_,?_⟩,?_,?_⟩
 all_goals
  rw[World.cell?_setCell_other _ _ _ _ (zcW (by first|exact h1|exact h2))]
  assumption
end Go.Proofs.YtojlkdekdbdpoaaGreat

namespace Go.Proofs.YtojlkdekdbdpoaaGreat
open Go.RowKit
end Go.Proofs.YtojlkdekdbdpoaaGreat

namespace Go.Proofs.YtojlkdekdbdpoaaGreat
open Go.RowKit
end Go.Proofs.YtojlkdekdbdpoaaGreat

namespace Go.Proofs.YtojlkdekdbdpoaaGreat
open Go.RowKit
theorem zhh{q:Nat}(h:q≤24):(Lit.int .i64 (q:Int)).wf=true:=by
 unfold Lit.wf
 simp[IntKind.min,IntKind.max,IntKind.signed,IntKind.bits]
 omega
theorem zax.mono{w:World}{b n n' : Nat}{f:Int→Bool}(h:zax w b n f)(hn:n≤n'):zax w b n' f:=let ⟨D,h1,h2⟩:=h;⟨D,h1.mono hn,h2⟩
theorem zax.congr{w:World}{b n:Nat}{f g:Int→Bool}(h:zax w b n f)(e:∀ k,f k=g k):zax w b n g:=by
 have:f=g:=funext e
 rw[← this]
 exact h
end Go.Proofs.YtojlkdekdbdpoaaGreat

namespace Go.Proofs.YtojlkdekdbdpoaaGreat
set_option maxRecDepth 100000
set_option maxHeartbeats 4000000
open Go.RowKit
theorem zcz(a:Option Addr)(c:Nat)(S:List Nd)(k:Int)(w:World)(hN:S.length≤9223372036854775807)(hk:k≠-1)(hS:NdsAt w a S) :
  Calls Tryz.prog 80 #[.agg #[.slice a S.length c],.int .i64 k] w fun e w' => e=.returned (.int .i64 (rootE S k))∧Below w.heap.size w w' := by
 have HS:Hid (NdsAt w a S):=hS
 have T1:Hid (∀ i,i<S.length→(nd S i).h=k→(∀ j,j<i→(nd S j).h≠k)→rootE S k=i):=fun i hi h1 h2=>zgA hk hi h1 h2
 have T2:Hid ((∀ i,i<S.length→(nd S i).h≠k)→rootE S k = -1):=fun h=>zeP h
 clear hS hk
 generalize rootE S k=R at *
 obtain⟨n,hn⟩:∃ n,S.length=n:=⟨_,rfl⟩
 have HN:Hid (S.length=n):=hn
 rw[hn] at hN T1 T2 ⊢
 clear hn
 go_enter Tryz.func80,Tryz.ntmps80
 go_wp2_with fail
 go_loopg [10] n (fun g s10 wr=>∃ i:Nat,i≤n∧n-i≤g∧s10=.int .i64 i∧Hid (Below w.heap.size w wr)∧Hid (∀ j,j<i→(nd S j).h≠k))
 case atStart=>exact⟨0,by omega,by omega,rfl,zab _ _,fun j hj=>absurd hj (Nat.not_lt_zero _)⟩
 case round =>
  obtain⟨i,hi,hg,rfl,HB,NF⟩:=hrel
  by_cases hlt:i<n
  ·have hlt2:(i:Int)<(n:Int):=by omega
   obtain⟨b,o,ea,c0,c1,c2,c3,c4,⟨ka,kc,c5,_⟩,c6,c7⟩:=(HS.out.below HB.out) i (by rw[HN.out];exact hlt)
   subst ea
   have X1:Hid ((nd S i).h=k→R=i):=fun h=>T1.out i hlt h NF.out
   have NX:Hid ((nd S i).h≠k→∀ j,j<i+1→(nd S j).h≠k):=fun h j hj=>by
    by_cases e:j=i
    ·subst e;exact h
    ·exact NF.out j (by omega)
   clear NF
   generalize nd S i=x at *
   obtain⟨xu,xn,xt,xm,xp,xks,xh,xc⟩:=x
   dsimp only at c0 c1 c2 c3 c4 c5 c6 c7 NX X1
   generalize xks.length=xl at *
   by_cases hh:xh=k
   ·subst hh
    have HR:Hid (R=i):=X1.out rfl
    clear X1 NX
    go_wp2_with fail
    go_ret
    exact⟨by first|(rw[HR.out];done)|exact HR.out.symm|simp[HR.out],HB.out.trans ((zab _ _).mono HB.out.size)⟩
   ·have h1:(xh == k)=false:=beq_eq_false_iff_ne.2 hh
    have h2:decide (xh=k)=false:=decide_eq_false hh
    have NX2:Hid (∀ j,j<i+1→(nd S j).h≠k):=NX.out hh
    clear X1 NX
    go_wp2_with fail
    go_roundg (n-(i+1))
    case measure=>omega
    case rel=>exact⟨i+1,by omega,by omega,by go_num,HB.out.trans ((zab _ _).mono HB.out.size),NX2⟩
  ·have hie:i=n:=by omega
   subst hie
   have HR:Hid (R = -1):=T2.out NF.out
   clear NF
   go_wp2_with fail
   go_ret
   exact⟨by first|(rw[HR.out];done)|exact HR.out.symm|simp[HR.out],HB.out⟩
end Go.Proofs.YtojlkdekdbdpoaaGreat
