/-
  x
-/
import Derived.Test.YtojlkdekdbdpoaaGreatJTjUaUb
import Derived.Deep.RegionLawGrows
import Derived.Deep.RegionHeld3
import Derived.Test.YtojlkdekdbdpoaaGreatJSkSlSmBkTa
namespace Go.Proofs.YtojlkdekdbdpoaaGreat
open Go.RowKit
def leaveG(S:List Nd)(ch:Nat):List Nd:=if (nd S ch).p = -1 then S else zbl S (nd S ch).p.toNat ch
theorem zaC(S:List Nd)(ch:Nat):(leaveG S ch).length=S.length:=by
 unfold leaveG
 split
 ·rfl
 ·exact zaO _ _ _
theorem Own.up{w:World}{B g:Nat}{S:List Nd}{kb kc:Nat→Nat}(h:Own w B g S kb kc S.length)(w3:World)(hup:∀ b,g≤b→w3.heap[b]?=w.heap[b]?):NdsAt w3 (some ⟨g,0,none⟩) S:=by
 obtain⟨hB,F,hF,hN,hg,hd⟩:=h
 refine Own.nds (B:=B) (kb:=kb) (kc:=kc) ⟨hB,F,hF.of_block (hup g (Nat.le_refl _)),fun i hi=>?_,hg,hd⟩
 obtain⟨e0,e1,e2,e3,e4,e5,e6,e7,e8,e8b,G,hG,e9⟩:=hN i hi
 exact⟨e0,e1,e2,e3,e4,e5,e6,e7,e8,e8b,G,hG.of_block (hup (kb i) (Nat.le_of_lt (hg i hi))),e9⟩
def OwnX(g n:Nat)(kb:Nat→Nat):Nat→Prop:=fun b=>b=g∨∃ i,i<n∧b=kb i
theorem zmI(B g c:Nat)(S:List Nd)(kb kc:Nat→Nat)(ch:Nat)(w:World)(hO:Own w B g S kb kc S.length)(hch:ch<S.length)(hp:(nd S ch).p = -1∨∃ pa:Nat,pa<S.length∧pa≠ch∧(nd S ch).p=pa) :
  Calls Tryz.prog 91 #[.slice (some ⟨g,0,none⟩) S.length c,.int .i64 ch] w fun e w' => e=.returned (.tuple #[])∧Off (OwnX g S.length kb) w w' ∧ Own w' B g (leaveG S ch) kb kc (leaveG S ch).length:=by
 rcases hp with hp |⟨pa,hpa,hne,hp⟩
 ·have hc:w.cell? ⟨g,ch*8+4,none⟩=some (.int .i64 (-1)):=by
   obtain⟨_,F,hF,hN,_,_⟩:=hO
   obtain⟨_,_,_,_,e4,_⟩:=hN ch hch
   rw[hF.cell (by omega),e4,hp]
  refine(zlg g c S.length ch w hch hc).mono ?_
  rintro e w' ⟨he,hb⟩
  refine⟨he,Off.of_below hb,?_⟩
  unfold leaveG
  rw[if_pos hp]
  exact hO.below hb
 ·refine(zhj B g c S kb kc pa ch w hO hpa hch hne hp).mono ?_
  rintro e w' ⟨he,hoff,hO'⟩
  refine⟨he,hoff.mono (fun k _ hk=>?_),?_⟩
  ·rcases hk with hk|hk
   ·exact Or.inl hk
   ·exact Or.inr ⟨pa,hpa,hk⟩
  ·unfold leaveG
   rw[if_neg (by omega),hp,Int.toNat_natCast]
   exact hO'
end Go.Proofs.YtojlkdekdbdpoaaGreat

namespace Go.Proofs.YtojlkdekdbdpoaaGreat
set_option maxRecDepth 100000
set_option maxHeartbeats 4000000
open Go.RowKit
theorem zoW:(Tryz.prog.info? 60).map (fun i=>(i.zero,i.size,i.bytes))=some (some (.agg #[.int .i64 0,.int .i64 0]),2,16):=by kernel_rfl
theorem zfg(ha:Option Addr)(hc:Nat)(hs:List (Int × Int))(p u:Int)(w:World)(hL:hs.length≤9223372036854775807)(hH:zak w ha hs) :
  Calls Tryz.prog 122 #[.slice ha hs.length hc,.agg #[.int .i64 p,.int .i64 u]] w fun e w' => e=.returned (.bool (decide ((p,u) ∈ hs)))∧Below w.heap.size w w' := by
 have d1:=fun o1=>zjd ha hc hs p u (w.alloc o1) hL (hH.below ((Below.refl _ _).alloc (Nat.le_refl _) o1))
 have R:Hid (∀ r:Int,((0≤r)↔(p,u) ∈ hs)→decide (0≤r)=decide ((p,u) ∈ hs)):=fun r h=>by
  by_cases e:(p,u) ∈ hs
  ·rw[decide_eq_true e,decide_eq_true (h.2 e)]
  ·rw[decide_eq_false e,decide_eq_false (fun x=>e (h.1 x))]
 clear hH
 generalize decide ((p,u) ∈ hs)=q at *
 generalize ((p,u) ∈ hs)=Q at *
 generalize hs.length=m at *
 go_enter Tryz.func122,Tryz.ntmps122
 go_wp2_with (go_at_call 137;refine(d1 _).mono ?_;rintro e w1 ⟨r,rfl,hb,hr⟩;have HR:Hid _:=hr;clear hr)
 go_ret
 refine⟨?_,((Below.refl _ _).alloc (Nat.le_refl _) _).trans (hb.mono (by simp))⟩
 rw[← R.out r HR.out]
 rfl
theorem zbo{w w1:World}{a:Option Addr}{n c:Nat}{p pu x xu:Int}(hb:Below (w.heap.size+1+1+1+1) ((((w.alloc (.cells #[.slice a n c] 24)).alloc (.cells #[.int .i64 p,.int .i64 pu] 60)).alloc (.cells #[.int .i64 x,.int .i64 xu] 60)).alloc (.cells #[.slice none 0 0] 24)) w1) :
  w1.cell? ⟨w.heap.size,0,none⟩=some (.slice a n c)∧w1.cell? ⟨w.heap.size+1,0,none⟩=some (.int .i64 p)∧w1.cell? ⟨w.heap.size+1,1,none⟩=some (.int .i64 pu)∧w1.cell? ⟨w.heap.size+1+1,0,none⟩=some (.int .i64 x)∧w1.cell? ⟨w.heap.size+1+1,1,none⟩=some (.int .i64 xu)∧w1.cell? ⟨w.heap.size+1+1+1,0,none⟩=some (.slice none 0 0)∧(∀ o,w1.frozen? ⟨w.heap.size+1+1+1,o,none⟩=false):=by
 refine⟨?_,?_,?_,?_,?_,?_,fun o=>?_⟩
 ·exact(hb.cell (by first|(simp;done)|(simp;omega))).trans (by go_simp)
 ·exact(hb.cell (by first|(simp;done)|(simp;omega))).trans (by go_simp)
 ·exact(hb.cell (by first|(simp;done)|(simp;omega))).trans (by go_simp)
 ·exact(hb.cell (by first|(simp;done)|(simp;omega))).trans (by go_simp)
 ·exact(hb.cell (by first|(simp;done)|(simp;omega))).trans (by go_simp)
 ·exact(hb.cell (by first|(simp;done)|(simp;omega))).trans (by go_simp)
 ·exact(hb.frozen (by first|(simp;done)|(simp;omega))).trans (by go_simp)
theorem zan(w:World)(o1 o2 o3 o4:Obj):Below w.heap.size w ((((w.alloc o1).alloc o2).alloc o3).alloc o4):=(zaj w o1 o2 o3).alloc (by simp;omega) _
theorem zbX{w1:World}{p:Addr}{v:Value}(h:w1.cell? p=some v)(o1:Obj):(w1.alloc o1).cell? p=some v :=
 (((Below.refl _ _).alloc (Nat.le_refl _) o1).cell (World.block_lt_of_cell? _ _ h)).trans h
theorem zeA(W:World)(b:Nat)(p u x y:Int)(h1:W.cell? ⟨b,0,none⟩=some (.int .i64 p))(h2:W.cell? ⟨b,1,none⟩=some (.int .i64 u))(h3:W.cell? ⟨b,2,none⟩=some (.int .i64 x))(h4:W.cell? ⟨b,3,none⟩=some (.int .i64 y)):zak W (some ⟨b,0,none⟩) [(p,u),(x,y)]:=fun i hi=>by
 match i,hi with
 | 0,_=>exact⟨b,0,rfl,by simpa using h1,by simpa using h2⟩
 | 1,_=>exact⟨b,0,rfl,by simpa using h3,by simpa using h4⟩
end Go.Proofs.YtojlkdekdbdpoaaGreat

namespace Go.Proofs.YtojlkdekdbdpoaaGreat
open Go.RowKit
structure WF (S:List Nd):Prop where
 small:S.length≤24
 node:∀ i,i<S.length→nodeE S.length (nd S i)=0
 kids:zcQ S
 hosts:HostU S S.length
 noring:∀ i,i<S.length→zbd S i i=false
theorem zcy(N:Int):∀ l:List Nd,zbG N l=0↔∀ x ∈ l,nodeE N x=0
 | []=>by simp[zbG]
 | x :: r=>by
  simp only[zbG,List.mem_cons]
  by_cases h:nodeE N x=0
  ·rw[if_pos h,zcy N r]
   exact⟨fun H y hy=>hy.elim (fun e=>by rw[e];exact h) (H y),fun H y hy=>H y (Or.inr hy)⟩
  ·rw[if_neg h]
   exact⟨fun H=>absurd H h,fun H=>absurd (H x (Or.inl rfl)) h⟩
theorem zcK(S:List Nd):zaA S=0↔WF S:=by
 unfold zaA treeE ringB
 constructor
 ·intro h
  split at h
  ·omega
  ·rename_i h24
   split at h
   ·rename_i h1
    rw[zcy] at h1
    split at h
    ·rename_i h2
     split at h
     ·rename_i h3
      split at h
      ·omega
      ·rename_i h4
       refine⟨by omega,fun i hi=>h1 _ (by rw[zaF hi];exact List.getElem_mem hi),of_decide_eq_true h2,of_decide_eq_true h3,fun i hi=>?_⟩
       simp only[Bool.not_eq_true,List.any_eq_false,List.mem_range] at h4
       have:=h4 i hi
       simpa using this
     ·omega
    ·omega
   ·exact absurd h (by assumption)
 ·rintro⟨h0,h1,h2,h3,h4⟩
  rw[if_neg (by omega),if_pos ((zcy _ _).2 fun x hx=>by
   obtain⟨i,hi,rfl⟩:=List.getElem_of_mem hx
   have:=h1 i hi
   rwa [zaF hi] at this),if_pos (decide_eq_true h2),if_pos (decide_eq_true h3),if_neg]
  simp only[Bool.not_eq_true,List.any_eq_false,List.mem_range]
  intro i hi
  rw[h4 i hi]
theorem zaV{N:Int}{x:Nd}(h:nodeE N x=0):zbF x=true∧zbk N x=true∧formB x=true:=by
 unfold nodeE at h
 split at h
 ·split at h
  ·split at h
   ·exact⟨by assumption,by assumption,by assumption⟩
   ·omega
  ·omega
 ·omega
theorem WF.kid{S:List Nd}(h:WF S){i:Nat}(hi:i<S.length){x:Int}(hx:x ∈ (nd S i).ks) :
  ∃ k:Nat,x=k∧k<S.length∧(nd S k).u=true∧(nd S k).p=i∧zae (nd S k)=i:=by
 have h1:=(zdO (zdZ (h.node i hi))).1 x hx
 obtain⟨h2,h3,h4⟩:=h.kids.1 i hi x hx
 obtain⟨k,rfl⟩:∃ k:Nat,x=(k:Int):=⟨x.toNat,by omega⟩
 have hk:k<S.length:=by omega
 simp only[Int.toNat_natCast] at h3 h4
 refine⟨k,rfl,hk,h3,h4,?_⟩
 have hf:=(zaV (h.node k hk)).2.2
 unfold formB at hf
 rw[if_pos h3] at hf
 unfold zae
 split at hf
 ·cases hf
 ·split at hf
  ·rename_i hh
   rw[if_pos hh];exact h4
  ·have:=of_decide_eq_true hf
   omega
def Up(S:List Nd):Nat→Nat→Nat→Prop
 | 0,x,p=>x=p
 | j+1,x,p=>∃ y:Nat,y<S.length∧zae (nd S x)=y∧Up S j y p
theorem Up.det{S:List Nd}:∀ {j x p q:Nat},Up S j x p→Up S j x q→p=q
 | 0,_,_,_,h,k=>by cases h;cases k;rfl
 | j+1,_,_,_,⟨y,_,h2,h3⟩,⟨y', _,k2,k3⟩=>by
  have:y=y' := by omega
  subst this
  exact Up.det h3 k3
theorem Up.trans{S:List Nd}:∀ {i j x y z:Nat},Up S i x y→Up S j y z→Up S (i+j) x z
 | 0,j,_,_,_,h,k=>by cases h;simpa using k
 | i+1,j,_,_,_,⟨y', h1,h2,h3⟩,k=>by
  rw[show i+1+j=(i+j)+1 by omega]
  exact⟨y', h1,h2,Up.trans h3 k⟩
theorem Up.split{S:List Nd}:∀ {i j x z:Nat},Up S (i+j) x z→∃ y,Up S i x y∧Up S j y z
 | 0,j,x,_,h=>⟨x,rfl,by simpa using h⟩
 | i+1,j,x,z,h=>by
  rw[show i+1+j=(i+j)+1 by omega] at h
  obtain⟨y', h1,h2,h3⟩:=h
  obtain⟨y,k1,k2⟩:=Up.split h3
  exact⟨y,⟨y', h1,h2,k1⟩,k2⟩
theorem zhi{S:List Nd}:∀ {j x above f:Nat} (st:Bool),Up S (j+1) x above→j+1≤f→zbi S zae (zch above) f (zae (nd S x)) st=true
 | j,x,above,0,_,_,hf=>by omega
 | j,x,above,f+1,st,⟨y,h1,h2,h3⟩,hf=>by
  rw[h2]
  have hp:isPl S.length (y:Int)=true:=decide_eq_true ⟨by omega,by omega⟩
  simp only[zbi,hp,if_true,zch,Int.toNat_natCast]
  by_cases e:(y:Int)=(above:Int)
  ·simp[e]
  ·simp only[decide_eq_false e,Bool.not_false,if_true]
   cases j with
   | zero=>exact absurd (by cases h3;rfl) e
   | succ j=>exact zhi _ h3 (by omega)
theorem WF.no_ring{S:List Nd}(h:WF S){x j:Nat}(hx:x<S.length)(h1:1≤j)(h2:j≤S.length):¬ Up S j x x:=fun hu=>by
 obtain⟨j,rfl⟩:∃ i,j=i+1:=⟨j-1,by omega⟩
 have:=h.noring x hx
 unfold zbd at this
 have hp:isPl S.length (x:Int)=true:=decide_eq_true ⟨by omega,by omega⟩
 rw[hp,if_pos rfl,Int.toNat_natCast,zhi false hu h2] at this
 cases this
theorem WF.up_one{S:List Nd}{i k:Nat}(hi:i<S.length)(hr:zae (nd S k)=i):Up S 1 k i:=⟨i,hi,hr,rfl⟩
theorem zfj{N:Nat}{l:List Nat}(h:l.Nodup)(hl:∀ y ∈ l,y<N):l.length≤N:=by
 have:=h.length_le_of_subset (l₂:=List.range N) (fun y hy=>List.mem_range.2 (hl y hy))
 simpa using this
theorem WF.deep{S:List Nd}(h:WF S):∀ (f x:Nat) (r:List Nat),x<S.length→(x :: r).Nodup→(∀ y ∈ r,y<S.length)→(∀ y ∈ r,∃ j,1≤j∧j≤r.length∧Up S j x y)→S.length≤f+r.length+1→Deep S f x:=by
 have step:∀ (x:Nat) (r:List Nat),x<S.length→(x :: r).Nodup→(∀ y ∈ r,y<S.length)→(∀ y ∈ r,∃ j,1≤j∧j≤r.length∧Up S j x y)→∀ k:Nat,k<S.length→zae (nd S k)=x →
   (k :: x :: r).Nodup∧(∀ y ∈ x :: r,y<S.length)∧(∀ y ∈ x :: r,∃ j,1≤j∧j≤(x :: r).length∧Up S j k y):=fun x r hx hn hr hu k hk hrk=>by
  have hall:∀ y ∈ x :: r,y<S.length:=fun y hy=>by
   rcases List.mem_cons.1 hy with rfl|hy
   ·exact hx
   ·exact hr y hy
  have hlen:=zfj hn hall
  have hup:∀ y ∈ x :: r,∃ j,1≤j∧j≤(x :: r).length∧Up S j k y:=fun y hy=>by
   rcases List.mem_cons.1 hy with rfl|hy
   ·exact⟨1,by omega,by simp,WF.up_one hx hrk⟩
   ·obtain⟨j,j1,j2,j3⟩:=hu y hy
    exact⟨1+j,by omega,by simp;omega,(WF.up_one hx hrk).trans j3⟩
  refine⟨List.nodup_cons.2 ⟨fun hm=>?_,hn⟩,hall,hup⟩
  obtain⟨j,j1,j2,j3⟩:=hup k hm
  exact h.no_ring hk j1 (by omega) j3
 intro f
 induction f with
 | zero =>
  intro x r hx hn hr hu hf
  show (nd S x).ks=[]
  cases hks:(nd S x).ks with
  | nil=>rfl
  | cons k ks =>
   obtain⟨k', rfl,hk,_,_,hrk⟩:=h.kid hx (x:=k) (by rw[hks];simp)
   obtain⟨h1,h2,h3⟩:=step x r hx hn hr hu k' hk hrk
   have:=zfj h1 (fun y hy=>by
    rcases List.mem_cons.1 hy with rfl|hy
    ·exact hk
    ·exact h2 y hy)
   simp at this
   omega
 | succ f ih =>
  intro x r hx hn hr hu hf k hk
  obtain⟨k', rfl,hk', _,_,hrk⟩:=h.kid hx hk
  obtain⟨h1,h2,h3⟩:=step x r hx hn hr hu k' hk' hrk
  refine⟨⟨by omega,by omega⟩,?_⟩
  rw[Int.toNat_natCast]
  exact ih k' (x :: r) hk' h1 h2 h3 (by simp;omega)
theorem WF.deep_all{S:List Nd}(h:WF S){p:Nat}(hp:p<S.length):Deep S S.length p :=
 h.deep S.length p [] hp (by simp) (fun y hy=>by cases hy) (fun y hy=>by cases hy) (by omega)
end Go.Proofs.YtojlkdekdbdpoaaGreat

namespace Go.Proofs.YtojlkdekdbdpoaaGreat
set_option maxRecDepth 100000
set_option maxHeartbeats 4000000
open Go.RowKit
theorem zdJ{w w1:World}{v:Value}{x y:Int}(hb:Below (w.heap.size+1+1+1) (((w.alloc (.cells #[v] 24)).alloc (.cells #[.int .i64 x,.int .i64 y] 60)).alloc (.cells #[.bool false,.int .i64 0,.int .i64 0,.int .i64 0,.int .i64 0,.slice none 0 0,.int .i64 0,.bool false] 44)) w1) :
  (w1.cell? ⟨w.heap.size,0,none⟩=some v∧w1.cell? ⟨w.heap.size+1,0,none⟩=some (.int .i64 x)∧w1.cell? ⟨w.heap.size+1,1,none⟩=some (.int .i64 y)) ∧
  (w1.cell? ⟨w.heap.size+1+1,0,none⟩=some (.bool false)∧w1.cell? ⟨w.heap.size+1+1,1,none⟩=some (.int .i64 0)∧w1.cell? ⟨w.heap.size+1+1,2,none⟩=some (.int .i64 0)∧w1.cell? ⟨w.heap.size+1+1,3,none⟩=some (.int .i64 0)∧w1.cell? ⟨w.heap.size+1+1,4,none⟩=some (.int .i64 0)∧w1.cell? ⟨w.heap.size+1+1,5,none⟩=some (.slice none 0 0)∧w1.cell? ⟨w.heap.size+1+1,6,none⟩=some (.int .i64 0)∧w1.cell? ⟨w.heap.size+1+1,7,none⟩=some (.bool false)) ∧
  (∀ o,w1.frozen? ⟨w.heap.size+1+1,o,none⟩=false)∧Below w.heap.size w w1:=by
 refine⟨⟨?_,?_,?_⟩,⟨?_,?_,?_,?_,?_,?_,?_,?_⟩,fun o=>?_,(zaj _ _ _ _).trans (hb.mono (by omega))⟩
 all_goals first|exact(hb.cell (by first|(simp;done)|(simp;omega))).trans (by go_simp)|exact(hb.frozen (by first|(simp;done)|(simp;omega))).trans (by go_simp)
def findE(S:List Nd)(p u:Int):Int:=if zaA S=0 then zbV S p u else zaA S
theorem znb{S:List Nd}{p u:Int}(h:WF S)(hh:zbV S p u=0):findE S p u=0:=by
 rw[findE,if_pos ((zcK S).mpr h)]
 exact hh
theorem zdT{S:List Nd}{p u:Int}(h:findE S p u=0):zaA S=0∧zbV S p u=0:=by
 unfold findE at h
 by_cases hc:zaA S=0
 ·rw[if_pos hc] at h
  exact⟨hc,h⟩
 ·rw[if_neg hc] at h
  exact absurd h hc
theorem zfk(a:Option Addr)(c:Nat)(S:List Nd)(p u E:Int)(w:World)(hN:S.length≤9223372036854775807)(hB:Big S)(hS:NdsAt w a S)(hE:findE S p u=E)(hE0:E≠0) :
  Calls Tryz.prog 87 #[.agg #[.slice a S.length c],.agg #[.int .i64 p,.int .i64 u]] w fun e w' => e=.returned (.tuple #[.agg #[.bool false,.int .i64 0,.int .i64 0,.int .i64 0,.int .i64 0,.slice none 0 0,.int .i64 0,.bool false],.int .i64 E])∧Below w.heap.size w w' := by
 have d0:=fun W hW=>zcO a c S W hN hB hW
 have d1:=fun W hW=>zfG a c S p u W hN hW
 have HS:Hid (NdsAt w a S):=hS
 have hz:(E == 0)=false:=by simp[hE0]
 unfold findE at hE
 by_cases hc:zaA S=0
 ·rw[if_pos hc] at hE
  rw[hE] at d1
  rw[hc] at d0
  have D0:Hid _:=d0
  have D1:Hid _:=d1
  clear hS d0 d1 hE hB hc
  generalize S.length=n at *
  go_enter Tryz.func87,Tryz.ntmps87
  go_wp2_with (go_at_call 19;refine(D0.out _ (HS.out.below (zaj _ _ _ _))).mono ?_;rintro e w1 ⟨rfl,hb1⟩;simp only[World.size_alloc] at hb1;obtain⟨⟨l0,l1,l2⟩,⟨z0,z1,z2,z3,z4,z5,z6,z7⟩,hz', hbo⟩:=zdJ hb1)
  refine(D1.out _ (HS.out.below hbo)).mono ?_
  rintro e w2 ⟨rfl,hb2⟩
  have hs1:=hb1.size
  simp only[World.size_alloc] at hs1
  have hb12:=hb1.trans (hb2.mono hs1)
  clear l0 l1 l2 z0 z1 z2 z3 z4 z5 z6 z7 hz' hbo hb1 hb2
  obtain⟨⟨l0,l1,l2⟩,⟨z0,z1,z2,z3,z4,z5,z6,z7⟩,hz', hbo⟩:=zdJ hb12
  go_wp2
  refine bodyPost_ret (v:=.tuple #[.agg #[.bool false,.int .i64 0,.int .i64 0,.int .i64 0,.int .i64 0,.slice none 0 0,.int .i64 0,.bool false],.int .i64 E]) (by simp[results,Tryz.results87,go_sem,z0,z1,z2,z3,z4,z5,z6,z7]) rfl ⟨rfl,?_⟩
  exact(((((((hbo.setCell (by simp;omega) _).setCell (by simp;omega) _).setCell (by simp;omega) _).setCell (by simp;omega) _).setCell (by simp;omega) _).setCell (by simp;omega) _).setCell (by simp;omega) _).setCell (by simp;omega) _
 ·rw[if_neg hc] at hE
  rw[hE] at d0
  have D0:Hid _:=d0
  clear hS d0 d1 hE hB hc
  generalize S.length=n at *
  go_enter Tryz.func87,Tryz.ntmps87
  go_wp2_with (go_at_call 19;refine(D0.out _ (HS.out.below (zaj _ _ _ _))).mono ?_;rintro e w1 ⟨rfl,hb1⟩;simp only[World.size_alloc] at hb1;obtain⟨⟨l0,l1,l2⟩,⟨z0,z1,z2,z3,z4,z5,z6,z7⟩,hz', hbo⟩:=zdJ hb1)
  refine bodyPost_ret (v:=.tuple #[.agg #[.bool false,.int .i64 0,.int .i64 0,.int .i64 0,.int .i64 0,.slice none 0 0,.int .i64 0,.bool false],.int .i64 E]) (by simp[results,Tryz.results87,go_sem,z0,z1,z2,z3,z4,z5,z6,z7]) rfl ⟨rfl,?_⟩
  exact(((((((hbo.setCell (by simp;omega) _).setCell (by simp;omega) _).setCell (by simp;omega) _).setCell (by simp;omega) _).setCell (by simp;omega) _).setCell (by simp;omega) _).setCell (by simp;omega) _).setCell (by simp;omega) _
theorem find_ok(a:Option Addr)(c:Nat)(S:List Nd)(k:Nat)(u:Int)(w:World)(hN:S.length≤9223372036854775807)(hB:Big S)(hS:NdsAt w a S)(hk:k<S.length)(hE:findE S k u=0)(hK:(nd S k).ks.length≤1000000) :
  Calls Tryz.prog 87 #[.agg #[.slice a S.length c],.agg #[.int .i64 k,.int .i64 u]] w fun e w' => ∃ g,e=.returned (.tuple #[.agg #[.bool (nd S k).u,.int .i64 (nd S k).n,.int .i64 (nd S k).t,.int .i64 (nd S k).m,.int .i64 (nd S k).p,.slice (some ⟨g,0,none⟩) (nd S k).ks.length (nd S k).ks.length,.int .i64 (nd S k).h,.bool (nd S k).c],.int .i64 0])∧Below w.heap.size w w' ∧ zah w' (some ⟨g,0,none⟩) (nd S k).ks:=by
 have d1:=fun W hW=>zfG a c S k u W hN hW
 rw[(zdT hE).2] at d1
 have D1:Hid _:=d1
 have d0:=fun W hW=>zcO a c S W hN hB hW
 rw[(zdT hE).1] at d0
 have D0:Hid _:=d0
 have HS:Hid (NdsAt w a S):=hS
 have d2:=fun ka kc W hW=>zfd (nd S k) ka kc W hK hW
 have D2:Hid _:=d2
 have NX:Hid (∀ w1,Below w.heap.size w w1→∃ b o,a=some ⟨b,o,none⟩∧NdAt w1 b (o+k*8) (nd S k)):=fun w1 h1=>(hS.below h1) k hk
 have hk2:(k:Int)<(S.length:Int):=by omega
 have IR:Hid (∀ (W:World) g,W.rowIs g 3 (nd S k).ks.length (fun j=>.int .i64 ((nd S k).ks.getD j 0))→zah W (some ⟨g,0,none⟩) (nd S k).ks):=fun W g h=>zbI h (Nat.le_refl _) (fun _ _=>rfl)
 clear hS d0 d1 d2 hE hK hB
 generalize nd S k=x at *
 obtain⟨xu,xn,xt,xm,xp,xks,xh,xc⟩:=x
 unfold NdAt at NX
 dsimp only at *
 generalize hL:xks.length=L at *
 have HL:Hid _:=hL
 clear hL
 generalize S.length=n at *
 go_enter Tryz.func87,Tryz.ntmps87
 go_wp2_with (go_at_call 19;refine(D0.out _ (HS.out.below (zaj _ _ _ _))).mono ?_;rintro e w0 ⟨rfl,hb0⟩;simp only[World.size_alloc] at hb0;obtain⟨⟨l0,l1,l2⟩,⟨z0,z1,z2,z3,z4,z5,z6,z7⟩,hz', hbo0⟩:=zdJ hb0)
 refine(D1.out _ (HS.out.below hbo0)).mono ?_
 rintro e w1 ⟨rfl,hb1'⟩
 have hs0:=hb0.size
 simp only[World.size_alloc] at hs0
 have hb1:=hb0.trans (hb1'.mono hs0)
 clear l0 l1 l2 z0 z1 z2 z3 z4 z5 z6 z7 hz' hbo0 hb0 hb1'
 obtain⟨⟨l0,l1,l2⟩,⟨z0,z1,z2,z3,z4,z5,z6,z7⟩,hz', hbo⟩:=zdJ hb1
 obtain⟨b,o,rfl,c0,c1,c2,c3,c4,⟨ka,kc,c5,hks⟩,c6,c7⟩:=NX.out _ hbo
 have HKS:Hid _:=hks
 have HB1:Hid _:=hb1
 clear hks hb1 hbo
 go_wp2_with fail
 refine(D2.out ka kc _ HKS.out).mono ?_
 rintro e w2 ⟨g,rfl,hb2,hg,hrow⟩
 have hs1:=HB1.out.size
 simp only[World.size_alloc] at hs1
 have hb12:=HB1.out.trans (hb2.mono hs1)
 clear l0 l1 l2 z0 z1 z2 z3 z4 z5 z6 z7 hz' c0 c1 c2 c3 c4 c5 c6 c7
 obtain⟨⟨l0,l1,l2⟩,⟨z0,z1,z2,z3,z4,z5,z6,z7⟩,hz', hbo⟩:=zdJ hb12
 have HBO:Hid _:=hbo
 have HR:Hid (w2.rowIs g 3 L (fun j=>.int .i64 (xks.getD j 0))):=hrow
 clear hb2 hb12 hbo hrow
 go_wp2
 refine bodyPost_ret (v:=.tuple #[.agg #[.bool xu,.int .i64 xn,.int .i64 xt,.int .i64 xm,.int .i64 xp,.slice (some ⟨g,0,none⟩) L L,.int .i64 xh,.bool xc],.int .i64 0]) (by simp[results,Tryz.results87,go_sem,z0,z1,z2,z3,z4,z5,z6,z7]) rfl ⟨g,rfl,?_,?_⟩
 ·exact(((((((HBO.out.setCell (by simp;omega) _).setCell (by simp;omega) _).setCell (by simp;omega) _).setCell (by simp;omega) _).setCell (by simp;omega) _).setCell (by simp;omega) _).setCell (by simp;omega) _).setCell (by simp;omega) _
 ·refine IR.out _ g ?_
  exact(((((((HR.out.setOther (by simp;omega) _).setOther (by simp;omega) _).setOther (by simp;omega) _).setOther (by simp;omega) _).setOther (by simp;omega) _).setOther (by simp;omega) _).setOther (by simp;omega) _).setOther (by simp;omega) _
end Go.Proofs.YtojlkdekdbdpoaaGreat
