/-
  x
-/
import Derived.Test.YtojlkdekdbdpoaaGreatJLw
import Derived.Deep.DeepCutAuto
import Derived.Test.YtojlkdekdbdpoaaGreatJCmDsDtDu
import Derived.Test.YtojlkdekdbdpoaaGreatJRlRdRwRxaRx
import Derived.Test.YtojlkdekdbdpoaaGreatJRyn
import Derived.Test.YtojlkdekdbdpoaaGreatJRr
import Derived.Test.YtojlkdekdbdpoaaGreatJQdQe
namespace Go.Proofs.YtojlkdekdbdpoaaGreat
open Go.RowKit
set_option linter.unusedVariables false
theorem zmE(a:Option Addr)(c:Nat)(S:List Nd)(W:World)(bo bs bw bg mb cnt:Nat)(gf:Int→Bool)(wf:WF S)(hC:RChk a c S)(hbo:bo<W.heap.size)(hbs:bs≠bo)(hbw:bw≠bo)(hbg:bg≠bo)(hmb:mb≠bo)
  (hnd:∀ w1,Off (fun k=>k=bo) W w1→NdsAt w1 a S) (cs:W.cell? ⟨bs,0,none⟩=some (.slice a S.length c)) (cw:W.cell? ⟨bw,0,none⟩=some (.func (.func 79) #[] #[.pointer (some ⟨bo,0,none⟩),.pointer (some ⟨bs,0,none⟩),.pointer (some ⟨bw,0,none⟩),.pointer (some ⟨bg,0,none⟩)])) (cg:W.cell? ⟨bg,0,none⟩=some (.map (some mb))) (mk:zax W mb cnt gf)
  (hab:∀ b o,a=some ⟨b,o,none⟩→b≠bo) (hgf:∀ k:Nat,gf k=decide (givT S S.length k≠[])) :
  ∀ (f p:Nat) (l:List Int) (w1:World),p<S.length→DeepG (showF S (givT S S.length)) S.length f p→l.length+(zbs (showF S (givT S S.length)) f p).length≤1000000→OrdI W bo l w1 →
  Calls Tryz.prog 79 #[.int .i64 (p:Int),.pointer (some ⟨bo,0,none⟩),.pointer (some ⟨bs,0,none⟩),.pointer (some ⟨bw,0,none⟩),.pointer (some ⟨bg,0,none⟩)] w1 fun e w2=>e=.returned (.tuple #[])∧OrdI W bo (l++zbs (showF S (givT S S.length)) f p) w2:=by
 have step:∀ (p:Nat) (sub:Int→List Int) (l:List Int) (w1:World),p<S.length→(∀ k ∈ showF S (givT S S.length) p,∀ l w1,l.length+(sub k).length≤1000000→OrdI W bo l w1→Calls Tryz.prog 79 #[.int .i64 k,.pointer (some ⟨bo,0,none⟩),.pointer (some ⟨bs,0,none⟩),.pointer (some ⟨bw,0,none⟩),.pointer (some ⟨bg,0,none⟩)] w1 fun e w2=>e=.returned (.tuple #[])∧OrdI W bo (l++sub k) w2) →
   l.length+1+((showF S (givT S S.length) p).flatMap sub).length≤1000000→OrdI W bo l w1→Calls Tryz.prog 79 #[.int .i64 (p:Int),.pointer (some ⟨bo,0,none⟩),.pointer (some ⟨bs,0,none⟩),.pointer (some ⟨bw,0,none⟩),.pointer (some ⟨bg,0,none⟩)] w1 fun e w2=>e=.returned (.tuple #[])∧OrdI W bo (l++(p:Int) ::(showF S (givT S S.length) p).flatMap sub) w2:=by
  intro p sub l w1 hp hsub hlen hI
  by_cases hr:rootE S p = -1
  ·by_cases hg:givT S S.length p=[]
   ·have e:showF S (givT S S.length) p=(nd S p).ks:=by unfold showF;rw[if_neg (by simp[hr]),if_neg (by simp[hg])]
    rw[e] at hsub hlen ⊢
    exact zmV a c S W bo bs bw bg mb cnt gf wf hC hbo hbs hbw hbg hmb hnd cs cw cg mk p hp sub hab hr (by rw[hgf p,hg];simp) hsub l w1 hlen hI
   ·obtain⟨r,H,rest,h1,h2,h3,h4,h5⟩:=zmd wf hg
    have e:showF S (givT S S.length) p=(nd S H).ks.filter (fun c=>decide (toF S c.toNat=(p:Int))):=by unfold showF;rw[if_neg (by simp[hr]),if_pos hg];exact h5
    rw[e] at hsub hlen ⊢
    exact zlT a c S W bo bs bw bg mb cnt gf wf hC hbo hbs hbw hbg hmb hnd cs cw cg mk p hp sub hab hr (by rw[hgf p];simp[hg]) r H rest h1 h2 h3 h4 hsub l w1 hlen hI
  ·obtain⟨r,h1,h2,_⟩:=zby S p hr
   have e:showF S (givT S S.length) p=(nd S r).ks:=by unfold showF;rw[if_pos hr,h2,Int.toNat_natCast]
   rw[e] at hsub hlen ⊢
   exact zmO a c S W bo bs bw bg mb cnt gf wf hC hbo hbs hbw hbg hmb hnd cs cw cg mk p hp sub hab r h1 h2 hsub l w1 hlen hI
 intro f
 induction f with
 | zero =>
  intro p l w1 hp hD hlen hI
  have hk:showF S (givT S S.length) p=[]:=hD
  have h:=step p (fun _=>[]) l w1 hp (fun k hk' => by rw[hk] at hk'; cases hk') (by simp only[zbs] at hlen;rw[hk];simpa using hlen) hI
  rw[hk] at h
  exact h
 | succ f ih =>
  intro p l w1 hp hD hlen hI
  exact step p (fun k=>zbs (showF S (givT S S.length)) f k.toNat) l w1 hp (fun k hk l w1 hl hI1=>by
   obtain⟨⟨h1,h2⟩,h3⟩:=hD k hk
   have:=ih k.toNat l w1 (by omega) h3 hl hI1
   rwa [Int.toNat_of_nonneg h1] at this) (by simp only[zbs,List.length_cons] at hlen;omega) hI
end Go.Proofs.YtojlkdekdbdpoaaGreat

namespace Go.Proofs.YtojlkdekdbdpoaaGreat
set_option maxRecDepth 100000
set_option maxHeartbeats 4000000
open Go.RowKit
set_option linter.unusedVariables false
theorem zlE(a:Option Addr)(c:Nat)(S:List Nd)(p u E:Int)(w:World)(hN:S.length≤9223372036854775807)(hC:RChk a c S)(hS:NdsAt w a S)(hE:zao S [(p,u)]=E)(hE0:E≠0) :
  Calls Tryz.prog 36 #[.agg #[.slice a S.length c],.agg #[.int .i64 p,.int .i64 u]] w fun e w' => e=.returned (.tuple #[.slice none 0 0,.int .i64 E])∧Below w.heap.size w w' := by
 have df:=fun(W:World) (ha:Option Addr) (hW:NdsAt W a S) (hH:zak W ha [(p,u)])=>zaW a c S ha 1 [(p,u)] W hN hC hW (by simp) hH
 rw[hE] at df
 have DF:Hid _:=df
 have HS:Hid (NdsAt w a S):=hS
 have hz:(E == 0)=false:=by simp[hE0]
 have hz2:decide (E=0)=false:=decide_eq_false hE0
 clear hS hC df hE
 generalize S.length=n at *
 go_enter Tryz.func36,Tryz.ntmps36
 go_wp2_with fail
 refine Calls.mono (DF.out _ _ (HS.out.below (zaj _ _ _ _)) (zaP _ _ _ _ (by go_simp) (by go_simp))) ?_
 rintro e w1 ⟨rfl,hb1⟩
 simp only[World.size_alloc] at hb1
 obtain⟨l0,l1,hsz,hB1⟩:=zfi hb1
 go_wp2_with fail
 refine bodyPost_ret (v:=.tuple #[.slice none 0 0,.int .i64 E]) (by simp[results,Tryz.results36,go_sem]) rfl ⟨rfl,hB1⟩
def zcc(S:List Nd)(i:Nat)(x:Int):Bool:=(List.range i).any fun j=>(nd S j).u && decide (toF S j=x)
theorem zja{S:List Nd}{i:Nat}(hu:(nd S i).u=true)(x:Int):(if x=toF S i then true else zcc S i x)=zcc S (i+1) x:=by
 unfold zcc
 rw[List.range_succ,List.any_append]
 by_cases e:x=toF S i
 ·simp[e,hu]
 ·have:¬ toF S i=x:=fun h=>e h.symm
  simp[e,this]
theorem zls{S:List Nd}{i:Nat}(hu:(nd S i).u=false)(x:Int):zcc S i x=zcc S (i+1) x:=by
 unfold zcc
 rw[List.range_succ,List.any_append]
 simp[hu]
theorem zkw{S:List Nd}(h:WF S)(k:Nat):zcc S S.length (k:Int)=decide (givT S S.length k≠[]):=by
 rw[Bool.eq_iff_iff,decide_eq_true_iff,zjL h]
 unfold zcc
 rw[List.any_eq_true]
 constructor
 ·rintro⟨j,hj,h2⟩
  simp at h2
  exact⟨j,List.mem_range.1 hj,h2.1,h2.2⟩
 ·rintro⟨n,hn,h2,h3⟩
  exact⟨n,List.mem_range.2 hn,by simp[h2,h3]⟩
theorem zlW{S:List Nd}(h:WF S){k:Nat}(hk:k<S.length):-1≤toF S k∧toF S k<S.length:=by
 unfold toF toL
 cases hf:(zcl S k).find? (fun s=>decide ((k:Int) ∈ s.gv)) with
 | none=>simp;omega
 | some s =>
  have h1:=List.mem_of_find?_eq_some hf
  unfold zcl at h1
  split at h1
  ·cases h1
  ·obtain⟨_,q,_,_,_,_,e,hq,_⟩:=zaX h h1
   show -1≤s.pl∧s.pl < _
   omega
theorem znC(a:Option Addr)(c:Nat)(S:List Nd)(k:Nat)(u:Int)(w:World)(wf:WF S)(hC:RChk a c S)(hS:NdsAt w a S)(hk:k<S.length)(hE:zao S [((k:Int),u)]=0) :
  Calls Tryz.prog 36 #[.agg #[.slice a S.length c],.agg #[.int .i64 (k:Int),.int .i64 u]] w fun e w' => ∃ v,e=.returned (.tuple #[v,.int .i64 0])∧Below w.heap.size w w' ∧ w'.ownsRow w.heap.size 3 1 v (flatF S k).length ((flatF S k).map (Value.int .i64)):=by
 have hN:=wf.small
 have df:=fun(W:World) (ha:Option Addr) (hW:NdsAt W a S) (hH:zak W ha [((k:Int),u)])=>zaW a c S ha 1 [((k:Int),u)] W (by omega) hC hW (by simp) hH
 rw[hE] at df
 have DF:Hid _:=df
 have HS:Hid (NdsAt w a S):=hS
 have TO:Hid (∀ (y:Nat),y<S.length→∀ w1,NdsAt w1 a S→Calls _ _ _ _ _):=fun y hy w1 h1=>znq a c S y w1 wf hC hy h1
 have TR:Hid (∀ y,y<S.length→-1≤toF S y∧toF S y<S.length):=fun y hy=>zlW wf hy
 have GU:Hid (∀ i,(nd S i).u=true→∀ x,(if x=toF S i then true else zcc S i x)=zcc S (i+1) x):=fun i h x=>zja h x
 have GN:Hid (∀ i,(nd S i).u=false→∀ x,zcc S i x=zcc S (i+1) x):=fun i h x=>zls h x
 have FLW:Hid (∀ (W:World) (bo bs bw bg mb cnt:Nat),bo<W.heap.size→bs≠bo→bw≠bo→bg≠bo→mb≠bo→(∀ w1,Off (fun k=>k=bo) W w1→NdsAt w1 a S)→W.cell? ⟨bs,0,none⟩=some (.slice a S.length c)→W.cell? ⟨bw,0,none⟩=some (.func (.func 79) #[] #[.pointer (some ⟨bo,0,none⟩),.pointer (some ⟨bs,0,none⟩),.pointer (some ⟨bw,0,none⟩),.pointer (some ⟨bg,0,none⟩)])→W.cell? ⟨bg,0,none⟩=some (.map (some mb))→zax W mb cnt (zcc S S.length)→(∀ b o,a=some ⟨b,o,none⟩→b≠bo)→∀ w1,OrdI W bo [] w1 →
   Calls Tryz.prog 79 #[.int .i64 (k:Int),.pointer (some ⟨bo,0,none⟩),.pointer (some ⟨bs,0,none⟩),.pointer (some ⟨bw,0,none⟩),.pointer (some ⟨bg,0,none⟩)] w1 fun e w2=>e=.returned (.tuple #[])∧OrdI W bo (flatF S k) w2):=fun W bo bs bw bg mb cnt h1 h2 h3 h4 h5 h6 h7 h8 h9 h10 h11 w1 hI =>
  zmE a c S W bo bs bw bg mb cnt (zcc S S.length) wf hC h1 h2 h3 h4 h5 h6 h7 h8 h9 h10 h11 (fun j=>zkw wf j) (farF S) k [] w1 hk (zez wf (zlZ wf) hk) (by have:=zjs wf hk;unfold flatF at this;simp;omega) hI
 have eg:=enters_of Tryz.func79 (by kernel_rfl) rfl
 have hmm:=@run_makeMap Tryz.prog
 clear hS hC df hE wf
 generalize flatF S k=RES at *
 obtain⟨n,hn⟩:∃ n,S.length=n:=⟨_,rfl⟩
 have HN:Hid (S.length=n):=hn
 rw[hn] at hN hk DF TO TR FLW ⊢
 clear hn
 go_enter Tryz.func36,Tryz.ntmps36
 go_wp2_with fail
 refine Calls.mono (DF.out _ _ (HS.out.below (zaj _ _ _ _)) (zaP _ _ _ _ (by go_simp) (by go_simp))) ?_
 rintro e w1 ⟨rfl,hb1⟩
 simp only[World.size_alloc] at hb1
 obtain⟨l0,l1,hsz,hB1⟩:=zfi hb1
 have HB1:Hid _:=hB1
 have q0:w.heap.size<w1.heap.size:=by omega
 have q1:w.heap.size+1<w1.heap.size:=by omega
 clear hb1 hB1 DF
 have MK0:Hid (zax ((w1.alloc (.map #[] 0)).alloc (.cells #[.map (some w1.heap.size)] 112)) w1.heap.size 0 (zcc S 0)):=((zax.made w1).kept (Below.heap_alloc _ _ _ (by simp))).congr (fun x=>rfl)
 have G0:Hid (((w1.alloc (.map #[] 0)).alloc (.cells #[.map (some w1.heap.size)] 112)).heap[w1.heap.size+1]?=some (.cells #[.map (some w1.heap.size)] 112 (0,0))):=by
  have:=heap_alloc_new (w1.alloc (.map #[] 0)) (.cells #[.map (some w1.heap.size)] 112)
  rw[World.size_alloc] at this
  exact this
 go_wp2_with fail
 go_loopg [23] n (fun g s wr=>∃ i:Nat,i≤n∧n-i≤g∧s=.int .i64 i∧w1.heap.size+2≤wr.heap.size∧Hid (Below w1.heap.size w1 wr)∧wr.heap[w1.heap.size+1]?=some (.cells #[.map (some w1.heap.size)] 112 (0,0))∧Hid (zax wr w1.heap.size i (zcc S i)))
 case atStart=>exact⟨0,by omega,by omega,rfl,by simp,zaf _ _ _,G0.out,MK0⟩
 case round =>
  obtain⟨i,hi,hg,rfl,hsz5,HB5,bG,MK⟩:=hrel
  clear MK0 G0
  have m0:=keepC l0 HB5.out
  have m1:=keepC l1 HB5.out
  have cG:=zbh bG
  have z0:=World.block_lt_of_cell? _ _ m0
  have z1:=World.block_lt_of_cell? _ _ m1
  have zG:=World.block_lt_of_cell? _ _ cG
  have HBW:Hid (Below w.heap.size w wr):=HB1.out.trans (HB5.out.mono HB1.out.size)
  by_cases hlt:i<n
  ·have hlt2:(i:Int)<(n:Int):=by omega
   obtain⟨nb,no,ea,c0,c1,c2,c3,c4,⟨ka,kc,c5,_⟩,c6,c7⟩:=(HS.out.below HBW.out) i (by rw[HN.out];exact hlt)
   subst ea
   have TOi:Hid _:=TO.out i hlt
   have TRi:=TR.out i hlt
   have GUi:Hid _:=GU.out i
   have GNi:Hid _:=GN.out i
   generalize nd S i=x at *
   obtain⟨xu,xn,xt,xm,xp,xks,xh,xc⟩:=x
   dsimp only at c0 c1 c2 c3 c4 c5 c6 c7 GUi GNi
   generalize xks.length=xl at *
   obtain⟨tt,htt⟩:∃ z,toF S i=z:=⟨_,rfl⟩
   rw[htt] at TOi TRi GUi
   clear htt
   cases xu with
   | false =>
    have MKx:Hid (∀ o1,zax (wr.alloc o1) w1.heap.size (i+1) (zcc S (i+1))):=fun o1=>((MK.out.kept ((zab wr o1).block _ MK.out.lt)).mono (by omega)).congr (GNi.out rfl)
    have BGx:Hid (∀ o1,(wr.alloc o1).heap[w1.heap.size+1]?=some (.cells #[.map (some w1.heap.size)] 112 (0,0))):=fun o1=>((zab wr o1).block _ zG).trans bG
    go_wp2_with fail
    go_roundg (n-(i+1))
    case measure=>omega
    case rel=>exact⟨i+1,by omega,by omega,by go_num,by simp;omega,HB5.out.trans ((zab _ _).mono (by omega)),BGx.out _,MKx.out _⟩
   | true =>
    have hwf:(Lit.int .i64 tt).wf=true:=by
     unfold Lit.wf
     simp[IntKind.min,IntKind.max,IntKind.signed,IntKind.bits]
     omega
    have ne1:=World.new_ne wr _ m0
    have ne2:=World.new_ne wr _ cG
    have HBA:Hid (∀ o1,Below w.heap.size w (wr.alloc o1).drew):=fun o1=>(HBW.out.trans ((zab _ _).mono HBW.out.size)).drew
    have CALLD:Hid (∀ o1 w6,Below (wr.alloc o1).drew.heap.size (wr.alloc o1).drew w6→∃ w7,(Instr.mapUpdate 112 (.map (some w1.heap.size)) (.int .i64 tt) (.bool true)).run Tryz.prog w6=.ok () w7∧Hid (zax w7 w1.heap.size (i+1) (zcc S (i+1)))∧w6.cell? ⟨w.heap.size,0,none⟩=some (.slice (some ⟨nb,no,none⟩) n c)∧w6.cell? ⟨w1.heap.size+1,0,none⟩=some (.map (some w1.heap.size))∧w7.cell? ⟨w.heap.size,0,none⟩=some (.slice (some ⟨nb,no,none⟩) n c)∧w7.cell? ⟨w1.heap.size+1,0,none⟩=some (.map (some w1.heap.size))∧Hid (w7.heap[w1.heap.size+1]?=some (.cells #[.map (some w1.heap.size)] 112 (0,0)))∧Hid (Below w1.heap.size w1 w7)∧w1.heap.size+2≤w7.heap.size):=fun o1 w6 hb=>by
     have hb0:Below wr.heap.size wr w6:=((zab wr o1).drew).trans (hb.mono (by show wr.heap.size≤(wr.alloc o1).heap.size;simp))
     have hs6:=hb0.size
     obtain⟨w7,hput,mk7,gr7⟩:=(MK.out.kept (hb0.block _ MK.out.lt)).put (t:=112) Tryz.underlying112 (by unfold maxLen;omega) (k:=tt) hwf true
     have hs7:=gr7.size
     have b6:=(hb0.block _ zG).trans bG
     have b7:=(gr7.block (w1.heap.size+1) (by omega) (by intro e;have:=Option.some.inj e;omega)).trans b6
     exact⟨w7,hput,mk7.congr (GUi.out rfl),keepC m0 hb0,zbh b6,gr7.cell (a:=⟨w.heap.size,0,none⟩) (keepC m0 hb0) (by intro e;have:w.heap.size=w1.heap.size:=Option.some.inj e;omega),zbh b7,b7,(HB5.out.trans (hb0.mono (by omega))).grown gr7 (by omega) (fun k hk=>by cases hk;exact Nat.le_refl _),by omega⟩
    go_wp2_with fail
    go_region_held3 (fun w'' => w''.cell? ⟨w.heap.size,0,none⟩=some (.slice (some ⟨nb,no,none⟩) n c)∧w''.cell? ⟨w1.heap.size+1,0,none⟩=some (.map (some w1.heap.size))) (go_keep) (first|(go_at_call 78;refine(Calls.mono (TOi.out _ ?nd) ?_);(case nd=>exact HS.out.below (HBA.out _));rintro e w6 ⟨rfl,hb⟩;obtain⟨w7,hput,MK7,s0,s1,p0,p1,BG7,HB7,hs7⟩:=CALLD.out _ w6 hb;clear hb))
    go_wp2_with fail
    go_roundg (n-(i+1))
    case measure=>omega
    case rel=>exact⟨i+1,by omega,by omega,by go_num,hs7,HB7,BG7.out,MK7⟩
  ·have hie:n=i:=by omega
   subst hie
   obtain⟨V,hV⟩:∃ V,V=wr:=⟨_,rfl⟩
   subst hV
   obtain⟨W9,hW9⟩:∃ W9,(V.alloc (.cells #[.slice none 0 0] 29)).alloc (.cells #[.func (.func 79) #[] #[.pointer (some ⟨V.heap.size,0,none⟩),.pointer (some ⟨w.heap.size,0,none⟩),.pointer (some ⟨V.heap.size+1,0,none⟩),.pointer (some ⟨w1.heap.size+1,0,none⟩)]] 114)=W9:=⟨_,rfl⟩
   have hs9:W9.heap.size=V.heap.size+2:=by rw[← hW9];simp
   have hb9:Below V.heap.size V W9:=by rw[← hW9];exact zaf _ _ _
   have e0:=keepC m0 hb9
   have e1:=keepC m1 hb9
   have eG:=keepC cG hb9
   have eO:W9.cell? ⟨V.heap.size,0,none⟩=some (.slice none 0 0):=by rw[← hW9];exact zaL V _ _ 0 _ rfl
   have eW:W9.cell? ⟨V.heap.size+1,0,none⟩=some (.func (.func 79) #[] #[.pointer (some ⟨V.heap.size,0,none⟩),.pointer (some ⟨w.heap.size,0,none⟩),.pointer (some ⟨V.heap.size+1,0,none⟩),.pointer (some ⟨w1.heap.size+1,0,none⟩)]):=by rw[← hW9];exact zaN V _ _ 0 _ rfl
   have eF:W9.frozen? ⟨V.heap.size,0,none⟩=false:=by rw[← hW9];exact zbp ((Below.heap_alloc _ _ _ (by simp)).trans (heap_alloc_new V _))
   have MK9:=MK.out.kept (hb9.block _ MK.out.lt)
   have hmlt:=MK.out.lt
   have OI:OrdI W9 V.heap.size [] W9:=⟨Off.refl _ _,_,eO,eF,World.ownsRow_nil _ _ _ _⟩
   have NDX:∀ w5,Off (fun k=>k=V.heap.size) W9 w5→NdsAt w5 a S:=fun w5 h5=>(HS.out.below HBW.out).below (hb9.trans (h5.below (by omega) (fun k hk=>by have:k=V.heap.size:=hk;omega)))
   have NAB:S.length≠0→∀ b o,a=some ⟨b,o,none⟩→b≠V.heap.size:=fun h0 b o e=>by
    obtain⟨b0,o0,e0,c0,_⟩:=(HS.out.below HBW.out) 0 (by omega)
    rw[e] at e0
    cases e0
    have:b<V.heap.size:=World.block_lt_of_cell? _ _ c0
    omega
   have FW:Hid _:=FLW.out W9 V.heap.size w.heap.size (V.heap.size+1) (w1.heap.size+1) w1.heap.size n (by omega) (by omega) (by omega) (by omega) (by omega) NDX e0 eW eG MK9 (NAB (by rw[HN.out];omega)) W9 OI
   have HB9:Hid (Below w.heap.size w W9):=HBW.out.trans (hb9.mono HBW.out.size)
   have HS9:Hid (V.heap.size<W9.heap.size∧V.heap.size+1<W9.heap.size∧w.heap.size≤V.heap.size):=⟨by omega,by omega,by omega⟩
   have x0:=World.block_lt_of_cell? _ _ e0
   have x1:=World.block_lt_of_cell? _ _ e1
   have x2:=HS9.out.1
   have x3:=HS9.out.2.1
   clear MK9 OI NDX NAB hs9 hb9
   go_upto_region 14 with fail
   try rw[hW9]
   clear hW9
   go_wp2_with fail
   refine Calls.mono FW.out ?_
   rintro e w8 ⟨rfl,hOff,v8,c8,_,own8⟩
   have HB8:Hid (Below w.heap.size w w8):=HB9.out.trans (hOff.below HB9.out.size (fun j hj=>by have:j=V.heap.size:=hj;have:=HS9.out.2.2;omega))
   have OW8:Hid (w8.ownsRow w.heap.size 3 1 v8 RES.length (RES.map (Value.int .i64))):=zas own8 HB9.out.size
   obtain⟨ra,rc,hv8,_⟩:=zcb own8
   subst hv8
   clear own8 hOff
   obtain⟨rl,hrl⟩:∃ z,RES.length=z:=⟨_,rfl⟩
   have HRL:Hid (RES.length=rl):=hrl
   rw[hrl] at OW8 c8
   clear hrl
   go_wp2_with fail
   refine bodyPost_ret (v:=.tuple #[.slice ra rl rc,.int .i64 0]) (by simp[results,Tryz.results36,go_sem]) rfl ⟨_,rfl,HB8.out,by rw[HRL.out];exact OW8.out⟩
end Go.Proofs.YtojlkdekdbdpoaaGreat

namespace Go.Proofs.YtojlkdekdbdpoaaGreat
set_option maxRecDepth 100000
set_option maxHeartbeats 4000000
open Go.RowKit
set_option linter.unusedVariables false
abbrev zka(f:Nat)(S T:List Nd)(more:Array Value)(h:Int × Int)(E:Int):Prop:=∀ (a:Option Addr) (c:Nat) W,NdsAt W a S →
 Calls Tryz.prog f (#[.agg #[.slice a S.length c]] ++ more) W fun e w' => ∃ a' c', e=.returned (.tuple #[.agg #[.slice a' T.length c'],.agg #[.int .i64 h.1,.int .i64 h.2],.int .i64 E])∧Below W.heap.size W w' ∧ ∀ w3:World,(∀ b,W.heap.size≤b→w3.heap[b]?=w'.heap[b]?)→NdsAt w3 a' T
def znT(f:Nat):Prop:=∀ (S:List Nd) (t:Int),WF S→zka f S (rS (makeE S t) (mkS S t)) #[.int .i64 t] (rH (makeE S t) (mkH S)) (makeE S t)
def znG(f:Nat):Prop:=∀ (S:List Nd) (h:Int × Int) (b:Bool),WF S→zka f S (rS (hosE S h.1 h.2) (hosS S h.1 b)) #[hdV h,.bool b] (rH (hosE S h.1 h.2) (mkH S)) (hosE S h.1 h.2)
theorem zmR(hC:zbH):znT 31:=fun S t wf a c W hW=>by
 have us:∀ i,i<S.length→0≤(nd S i).n∧(nd S i).n≤1000000:=fun i hi=>⟨(wf.uses hi).1,(wf.uses hi).2.1⟩
 by_cases hE:makeE S t=0
 ·obtain⟨_,ht,hf,hfr,hall⟩:=zeN hE
  rw[hE,rS_ok]
  refine(zhn a c S t W (hC.wf wf a c) hW wf.small (zbb wf) ((zcK S).2 wf) ht.1 ht.2 (ffree S) hf hfr us hall).mono (fun e w' ⟨g,cap,K,e1,hb,hO⟩=>⟨some ⟨g,0,none⟩,cap,?_,hb,fun w3 hw3=>(hO.other (fun b hb _=>hw3 b (by omega))).ndsAt (by simp)⟩)
  rw[e1]
  unfold mkS
  rw[List.length_set]
  rfl
 ·rw[rS_no hE,rH_no hE]
  exact(zhU a c S t _ W (hC.wf wf a c) hW (fun _=>⟨wf.small,zbb wf,us⟩) rfl hE).mono (fun e w' ⟨e1,hb⟩=>⟨none,0,e1,hb,fun w3 _=>zbw _⟩)
theorem zne(hC:zbH):zlD 32:=fun S h wf a c W hW=>by
 obtain⟨P,U⟩:=h
 dsimp only[hdV]
 have hN:S.length≤9223372036854775807:=by have:=wf.small;omega
 unfold freeE
 by_cases hE:findE S P U=0
 ·rw[if_pos hE]
  obtain⟨_,k,e,hk,hu,hkn⟩:=zbm hE
  subst e
  rw[Int.toNat_natCast]
  by_cases hl:zdk S k
  ·rw[if_pos hl,rS_ok]
   refine zgg a c S _ k k U 0 W rfl (hC.wf wf a c) hW wf.small (zbb wf) hk ((zaS _ _ _).trans hE) (fun _=>⟨?_,rfl⟩) (fun i hi h=>?_)
   ·rw[← hkn];rfl
   ·rw[(zgf wf hk).2 hl i hi] at h;cases h
  ·rw[if_neg hl,rS_no (by decide)]
   exact zgg a c S [] k k U 6 W rfl (hC.wf wf a c) hW wf.small (zbb wf) hk ((zaS _ _ _).trans hE) (fun h=>absurd ((zgf wf hk).1 h) hl) (fun i hi h=>⟨rfl,rfl⟩)
 ·rw[if_neg hE,rS_no hE]
  exact(zkC a c S P U _ W hN (hC.wf wf a c) hW (zaS _ _ _) hE).mono (fun e w' ⟨e1,hb⟩=>⟨none,0,e1,hb,zbw _⟩)
theorem ziQ(hC:zbH):zhY 33:=fun S h wf a c W hW=>by
 obtain⟨P,U⟩:=h
 dsimp only[hdV]
 have hN:S.length≤9223372036854775807:=by have:=wf.small;omega
 unfold remE
 by_cases hE:findE S P U=0
 ·rw[if_pos hE]
  obtain⟨_,k,e,hk,hu,hkn⟩:=zbm hE
  subst e
  rw[Int.toNat_natCast]
  have hT:zao S [((k:Int),U)]=0:=(zaS _ _ _).trans hE
  rcases zjQ wf hk with hp |⟨p0,hp1,hp2,hp3⟩
  ·rw[if_pos hp,rS_no (by decide)]
   exact(zna a c S k U W hN (hC.wf wf a c) hW hT hk hp).mono (fun e w' ⟨e1,hb⟩=>⟨none,0,e1,hb,zbw _⟩)
  ·have hG:leaveG S k=zbl S p0 k:=by unfold leaveG;rw[if_neg (by omega),hp3,Int.toNat_natCast]
   rw[if_neg (by omega),rS_ok,hG]
   refine(zpu a c S k p0 U W wf.small (hC.wf wf a c) hW (zbb wf) hT hk hp1 hp2 hp3).mono (fun e w' ⟨a', c', e1,hb,hn⟩=>⟨a', c', ?_,hb,hn⟩)
   rw[e1,zaO]
 ·rw[if_neg hE,rS_no hE]
  exact(znH a c S P U _ W hN (hC.wf wf a c) hW (zaS _ _ _) hE).mono (fun e w' ⟨e1,hb⟩=>⟨none,0,e1,hb,zbw _⟩)
theorem zlz(hC:zbH):znG 38:=fun S h cl wf a c W hW=>by
 obtain⟨P,U⟩:=h
 dsimp only[hdV]
 have hN:S.length≤9223372036854775807:=by have:=wf.small;omega
 have hc:zaA S=0:=(zcK S).2 wf
 have us:∀ i,i<S.length→0≤(nd S i).n∧(nd S i).n≤1000000:=fun i hi=>⟨(wf.uses hi).1,(wf.uses hi).2.1⟩
 unfold hosE
 by_cases hE:findE S P U=0
 ·rw[if_pos hE]
  obtain⟨_,k,e,hk,hu,hkn⟩:=zbm hE
  subst e
  have h0:zao S [((k:Int),U)]=0:=(zaS _ _ _).trans hE
  by_cases hH:hostB S (k:Int)=true
  ·rw[if_pos hH,rS_no (by decide),rH_no (by decide)]
   obtain⟨k1,hk1,hh1⟩:∃ k1,k1<S.length∧(nd S k1).h=(k:Int):=by
    refine Classical.byContradiction fun hn=>?_
    have:hostB S (k:Int)=false:=zbP.2 (fun i hi e=>hn ⟨i,hi,e⟩)
    rw[hH] at this
    cases this
   exact(znn a c S (k:Int) U 6 cl W wf.small (hC.wf wf a c) hW h0 k1 hk1 hh1 rfl).mono (fun e w' ⟨e1,hb⟩=>⟨none,0,e1,hb,fun w3 _=>zbw _⟩)
  ·rw[if_neg hH]
   have hH2:hostB S (k:Int)=false:=by simpa using hH
   have hh:=zbP.1 hH2
   by_cases hM:makeE S 0=0
   ·obtain⟨_,ht,hf,hfr,hall⟩:=zeN hM
    rw[hM,rS_ok]
    unfold hosS
    rw[Int.toNat_natCast]
    refine(zpA a c S k (k:Int) U cl W rfl wf.small (hC.wf wf a c) hW h0 hh (ffree S) hf (fun W2 hW2=>zhn a c S 0 W2 (hC.wf wf a c) hW2 wf.small (zbb wf) hc (by omega) (by omega) (ffree S) hf hfr us hall)).mono (fun e w' ⟨a', c', e1,hb,hn⟩=>⟨a', c', ?_,hb,hn⟩)
    rw[e1,List.length_set]
    rfl
   ·rw[rS_no hM,rH_no hM]
    exact(zlw a c S (k:Int) U _ cl W wf.small (hC.wf wf a c) hW h0 hh (fun W2 hW2=>zhU a c S 0 _ W2 (hC.wf wf a c) hW2 (fun _=>⟨wf.small,zbb wf,us⟩) rfl hM) hM).mono (fun e w' ⟨e1,hb⟩=>⟨none,0,e1,hb,fun w3 _=>zbw _⟩)
 ·rw[if_neg hE,rS_no hE,rH_no hE]
  exact(zlY a c S P U _ cl W hN (hC.wf wf a c) hW (zaS _ _ _) hE).mono (fun e w' ⟨e1,hb⟩=>⟨none,0,e1,hb,fun w3 _=>zbw _⟩)
theorem zof{S:List Nd}{P pu C cu:Int}{hs:List (Int × Int)}(wf:WF S)(hm:hs.length≤1):zjg S (rS (insE S P pu C cu hs) (insS S P C hs)) P C hs (zao S ((P,pu) ::(C,cu) :: hs)) (insE S P pu C cu hs):=by
 by_cases hE:zao S ((P,pu) ::(C,cu) :: hs)=0
 ·obtain⟨_,hx⟩:=ziW hE
  obtain⟨pa,e1,hpa,hpu,hpn⟩:=hx (P,pu) (by simp)
  obtain⟨ch,e2,hch,hcu,hcn⟩:=hx (C,cu) (by simp)
  dsimp only at e1 e2 hpn hcn
  subst e1
  subst e2
  have hK:=zbb wf
  refine .inr ⟨pa,ch,rfl,rfl,hE,wf.small,hpa,hch,fun hf=>?_,fun hf=>⟨fun h hh=>?_,?_⟩⟩
  ·have e:insE S pa pu ch cu hs=6:=by unfold insE;rw[if_pos hE,Int.toNat_natCast,Int.toNat_natCast,if_neg (by rw[hf];decide)]
   rw[e]
   exact⟨rfl,rS_no (by decide)⟩
  ·obtain⟨q,e,hq,_⟩:=hx h (by simp[hh])
   exact⟨q,e,hq⟩
  ·have pt:Puts S pa ch:=⟨wf,hpa,hch,hpu,hcu,hf⟩
   obtain⟨f1,f2,f3⟩:=zcS hf
   have hl:=zaC S ch
   have wfl:=wf.leaveG hch
   have hp0:=zjQ wf hch
   have hkl:(nd (leaveG S ch) pa).ks.length≤24:=wfl.kids_small (by rw[hl];exact hpa)
   unfold insE insS
   rw[if_pos hE]
   simp only[Int.toNat_natCast]
   rw[if_pos hf]
   match hs,hm,hE,hx with
   | [],_,hE,hx =>
    have hno:(-1:Int) ∉ (nd (leaveG S ch) pa).ks:=fun h=>by
     obtain⟨k,e,_⟩:=wfl.kid (by rw[hl];exact hpa) h
     omega
    refine⟨fun⟨h,hh,_⟩=>(by cases hh),fun _=>⟨rfl,hK,by rw[rS_ok,zaB,hl],.inr ⟨show (-1:Int)≠ch by omega,by show (-1:Int)≤-1;omega,f2,hp0,(nd (leaveG S ch) pa).ks.length,?_,by omega,rS_ok⟩⟩⟩
    show insL (-1) ch _ ++ _=_
    rw[zfE hno,zpi]
    rfl
   | [(Q,qu)],_,hE,hx =>
    obtain⟨q,e3,hq,hqu,hqn⟩:=hx (Q,qu) (by simp)
    dsimp only at e3 hqn
    subst e3
    dsimp only
    rw[Int.toNat_natCast]
    have hone:∀ h ∈ [((q:Int),qu)],(nd S h.1.toNat).p=(nd S q).p:=fun h hh=>by
     have:h=((q:Int),qu):=by simpa using hh
     subst this
     rw[Int.toNat_natCast]
    by_cases hqp:(nd S q).p=pa
    ·rw[if_pos hqp,rS_ok]
     refine⟨fun⟨h,hh,hne⟩=>absurd ((hone h hh).trans hqp) hne,fun _=>?_⟩
     by_cases hqc:q=ch
     ·subst hqc
      rw[if_pos rfl]
      exact⟨rfl,hK,rfl,.inl ⟨rfl,rfl⟩⟩
     ·rw[if_neg (by omega)]
      obtain⟨at', hat,hatL,hatq⟩:=pt.ahead hq hqp hqc
      rw[hat,Int.toNat_natCast]
      refine⟨rfl,hK,by rw[zaB,hl],.inr ⟨show (q:Int)≠ch by omega,by show (-1:Int)≤(q:Int);omega,f2,hp0,at', ?_,by omega,rfl⟩⟩
      show insL (q:Int) ch _++(if (q:Int) = -1 then [(ch:Int)] else [])=_
      rw[if_neg (by omega),List.append_nil]
      exact zlB (wfl.kids_nodup (by rw[hl];exact hpa)) hatL hatq
    ·rw[if_neg hqp]
     exact⟨fun _=>⟨rfl,rS_no (by decide)⟩,fun h=>absurd ((hone _ (List.mem_singleton.2 rfl)).symm.trans (h _ (List.mem_singleton.2 rfl))) hqp⟩
   | _ :: _ :: _,h,_,_=>exact absurd h (by simp)
 ·have e:insE S P pu C cu hs=zao S ((P,pu) ::(C,cu) :: hs):=by unfold insE;rw[if_neg hE]
  exact .inl ⟨hE,e,by rw[e,rS_no hE]⟩
theorem zfw(hC:zbH):zia 37:=fun S h g hs ha hc wf hm a c W hW hH =>
 zoD a c S h.1 g.1 h.2 g.2 ha hc hs _ _ _ W (by have:=wf.small;omega) (hC.wf wf a c) hW hH hm rfl (zof wf hm)
theorem zkX(hC:zbH):zjU 35:=fun S h t m qa qc wf a c W hW hQ=>by
 obtain⟨P,U⟩:=h
 dsimp only[hdV]
 have hN:S.length≤9223372036854775807:=by have:=wf.small;omega
 unfold cntE
 by_cases hE:findE S P U=0
 ·rw[if_pos hE]
  obtain⟨_,k,e,hk,hu,hkn⟩:=zbm hE
  subst e
  rw[Int.toNat_natCast]
  by_cases hq:zcd [⟨t,m,false⟩]=0
  ·rw[hq,if_pos rfl]
   exact(zml a c S k U qa qc [⟨t,m,false⟩] W wf hk hu ((zaS _ _ _).trans hE) hW hQ hq (hC.wf wf a c)).mono (fun e w' ⟨fa,fc,e1,hb,hi,_⟩=>⟨fa,fc,_,e1,hb,rfl⟩)
  ·rw[if_neg hq]
   exact(zkR a c S k U _ qa qc [⟨t,m,false⟩] W wf hk (hC.wf wf a c) hW ((zaS _ _ _).trans hE) (by simp) hQ rfl hq).mono (fun e w' ⟨e1,hb⟩=>⟨none,0,0,e1,hb,rfl⟩)
 ·rw[if_neg hE,if_neg hE]
  exact(zlu a c S P U _ _ W hN (hC.wf wf a c) hW (zaS _ _ _) hE).mono (fun e w' ⟨e1,hb⟩=>⟨none,0,0,e1,hb,rfl⟩)
theorem zms(hC:zbH):zlR 36:=fun S h wf a c W hW=>by
 obtain⟨P,U⟩:=h
 dsimp only[hdV]
 have hN:S.length≤9223372036854775807:=by have:=wf.small;omega
 by_cases hE:findE S P U=0
 ·obtain⟨_,k,e,hk,hu,hkn⟩:=zbm hE
  subst e
  rw[Int.toNat_natCast,hE,if_pos rfl]
  refine(znC a c S k U W wf (hC.wf wf a c) hW hk ((zaS _ _ _).trans hE)).mono ?_
  rintro e w' ⟨v,rfl,hb,hown⟩
  obtain⟨sa,sc,rfl,hi⟩:=zcb hown
  exact⟨sa,sc,_,rfl,hb,rfl⟩
 ·rw[if_neg hE]
  exact(zlE a c S P U _ W hN (hC.wf wf a c) hW (zaS _ _ _) hE).mono (fun e w' ⟨e1,hb⟩=>⟨none,0,0,e1,hb,rfl⟩)
end Go.Proofs.YtojlkdekdbdpoaaGreat
