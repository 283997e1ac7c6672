/-
  x
-/
import Derived.Test.YtojlkdekdbdpoaaGreatJLgLhCa
import Derived.Test.YtojlkdekdbdpoaaGreatJSfSgBa
import Derived.Test.YtojlkdekdbdpoaaGreatJSaSbScSdSe
import Derived.Test.YtojlkdekdbdpoaaGreatJSrWfXdZaTlTmTnZf
import Derived.Test.YtojlkdekdbdpoaaGreatJVeVfVg
namespace Go.Proofs.YtojlkdekdbdpoaaGreat
set_option maxRecDepth 100000
set_option maxHeartbeats 4000000
open Go.RowKit
def ClAt(w:World)(b o:Nat)(x:Cl):Prop :=
 w.cell? ⟨b,o,none⟩=some (.int .i64 x.n)∧∃ ka kc,w.cell? ⟨b,o+1,none⟩=some (.slice ka x.ks.length kc)∧zah w ka x.ks
theorem ClAt.below{w w' : World}{b o:Nat}{x:Cl}(h:ClAt w b o x)(hb:Below w.heap.size w w'):ClAt w' b o x:=by
 obtain⟨c0,ka,kc,c1,hk⟩:=h
 exact⟨keepC c0 hb,ka,kc,keepC c1 hb,hk.below hb⟩
def ClsAt(w:World)(a:Option Addr)(G:List Cl):Prop :=
 ∀ i,i<G.length→∃ b o,a=some ⟨b,o,none⟩∧ClAt w b (o+i*2) (cl G i)
theorem ClsAt.below{w w' : World}{a:Option Addr}{G:List Cl}(h:ClsAt w a G)(hb:Below w.heap.size w w'):ClsAt w' a G:=fun i hi=>by
 obtain⟨b,o,e,hn⟩:=h i hi
 exact⟨b,o,e,hn.below hb⟩
def BigC(G:List Cl):Prop:=∀ i,i<G.length→(cl G i).ks.length≤9223372036854775807
def zbB(G:List Cl):Int:=if 24<G.length then 1 else cellsE G.length G
theorem zky(x:Int)(m b:Nat)(w:World)(hm:m≤24)(hc:w.cell? ⟨b,0,none⟩=some (.int .i64 (m:Int))) :
  Calls Tryz.prog 105 #[.int .i64 x,.pointer (some ⟨b,0,none⟩)] w fun e w' => e=.returned (.bool (!decide (0≤x∧x≤(m:Int)-1)))∧w' = w:=by
 have hw:=zaU x 0 ((m:Int)-1)
 generalize decide (0≤x∧x≤(m:Int)-1)=r at hw
 go_enter Tryz.func105,Tryz.ntmps105
 go_wp2_with (go_at_call 39;refine(hw _).mono ?_;rintro e w' ⟨rfl,rfl⟩)
 go_ret
 exact⟨rfl,rfl⟩
theorem zgM(x:Cl)(ka:Option Addr)(kc m:Nat)(w:World)(hm:m≤24)(hbig:x.ks.length≤9223372036854775807)(hks:zah w ka x.ks) :
  Calls Tryz.prog 63 #[.agg #[.int .i64 x.n,.slice ka x.ks.length kc],.int .i64 (m:Int)] w fun e w' => e=.returned (.int .i64 (cellE m x))∧Below w.heap.size w w' := by
 unfold cellE
 by_cases h1:x.n < -1000000∨1000000<x.n
 ·rw[if_pos h1]
  have hw:=fun W=>zeu x.n (-1000000) 1000000 W h1
  clear hks h1
  generalize x.ks.length=l at *
  generalize x.n=xn at *
  go_enter Tryz.func63,Tryz.ntmps63
  go_wp2_with (go_at_call 39;refine(hw _).mono ?_;rintro e w' ⟨rfl,rfl⟩)
  go_ret
  exact⟨rfl,zaf _ _ _⟩
 ·rw[if_neg h1]
  have hw:=fun W=>zcT x.n (-1000000) 1000000 W (by omega) (by omega)
  by_cases h2:8<x.ks.length
  ·rw[if_pos h2]
   clear hks h1
   generalize x.ks.length=l at *
   generalize x.n=xn at *
   have h3:(8:Int)<(l:Int):=by omega
   go_enter Tryz.func63,Tryz.ntmps63
   go_wp2_with (go_at_call 39;refine(hw _).mono ?_;rintro e w' ⟨rfl,rfl⟩)
   go_ret
   exact⟨rfl,zaf _ _ _⟩
  ·rw[if_neg h2]
   have hT:∀ w1:World,w1.cell? ⟨w.heap.size+1,0,none⟩=some (.int .i64 (m:Int))→Tells 105 #[.pointer (some ⟨w.heap.size+1,0,none⟩)] (fun k=>!decide (0≤k∧k≤(m:Int)-1)) w1:=fun w1 h1 y w2 hb2 =>
    (zky y m (w.heap.size+1) w2 hm (keepC h1 hb2)).mono (fun e w3 h=>⟨h.1,by rw[h.2];exact Below.refl _ _⟩)
   have d3:=fun(W:World) (hk:zah W ka x.ks) (hc:W.cell? ⟨w.heap.size+1,0,none⟩=some (.int .i64 (m:Int)))=>zdm 105 #[.pointer (some ⟨w.heap.size+1,0,none⟩)] (fun k=>!decide (0≤k∧k≤(m:Int)-1)) ka kc x.ks W hbig hk (enters_of Tryz.func105 (by kernel_rfl) rfl) (hT W hc)
   have K2:Hid (∀ o1 o2,zah ((w.alloc o1).alloc o2) ka x.ks):=fun o1 o2=>hks.below (zaf _ _ _)
   have D3:Hid _:=d3
   have C2:Hid (∀ o1,((w.alloc o1).alloc (.cells #[.int .i64 (m:Int)] 3)).cell? ⟨w.heap.size+1,0,none⟩=some (.int .i64 (m:Int))):=fun o1=>zaN w _ _ 0 _ rfl
   clear hks hT d3 h1
   generalize (x.ks.any fun k=>!decide (0≤k∧k≤(m:Int)-1))=b3 at *
   obtain⟨l,hl⟩:∃ l,x.ks.length=l:=⟨_,rfl⟩
   rw[hl] at D3 h2 hbig ⊢
   clear hl
   generalize x.n=xn at *
   have h3:¬ (8:Int)<(l:Int):=by omega
   cases b3
   all_goals
    go_enter Tryz.func63,Tryz.ntmps63
    go_wp2_with (first|(go_at_call 39;refine(hw _).mono ?_;rintro e w' ⟨rfl,rfl⟩)|(go_at_call 106;refine(D3.out _ (K2.out _ _) (C2.out _)).mono ?_;rintro e w' ⟨rfl,hb⟩))
    go_ret
    exact⟨rfl,(zaf _ _ _).trans (hb.mono (by simp;omega))⟩
theorem zmf{G:List Cl}{k:Nat}(h:k<G.length):G.drop k=cl G k :: G.drop (k+1):=by
 rw[zeL h];exact List.drop_eq_getElem_cons h
theorem zkt(a:Option Addr)(c:Nat)(G:List Cl)(w:World)(hN:G.length≤9223372036854775807)(hB:BigC G)(hS:ClsAt w a G) :
  Calls Tryz.prog 20 #[.agg #[.slice a G.length c]] w fun e w' => e=.returned (.int .i64 (zbB G))∧Below w.heap.size w w' := by
 unfold zbB
 by_cases hbig:24<G.length
 ·rw[if_pos hbig]
  generalize G.length=n at *
  clear hS hB
  have hbig2:(24:Int)<(n:Int):=by omega
  go_enter Tryz.func20,Tryz.ntmps20
  go_wp2
  go_ret
  exact⟨rfl,zab _ _⟩
 ·rw[if_neg hbig]
  have HS:Hid (ClsAt w a G):=hS
  have HCN:Hid (∀ i,i<G.length→∀ ka kc W,zah W ka (cl G i).ks→Calls _ _ _ _ _):=fun i hi ka kc W hW=>zgM (cl G i) ka kc G.length W (by omega) (hB i hi) hW
  have DR:Hid (∀ k,k<G.length→G.drop k=cl G k :: G.drop (k+1)):=fun k hk=>zmf hk
  have DN:Hid (G.drop G.length=[]):=List.drop_length
  have E0:Hid (cellsE G.length G=cellsE G.length (G.drop 0)):=rfl
  clear hS hB
  obtain⟨RES,hR⟩:∃ r,cellsE G.length G=r:=⟨_,rfl⟩
  rw[hR] at E0 ⊢
  clear hR
  obtain⟨n,hn⟩:∃ n,G.length=n:=⟨_,rfl⟩
  have HN:Hid (G.length=n):=hn
  rw[hn] at hN hbig HCN DR DN E0 ⊢
  clear hn
  have hbig2:¬ (24:Int)<(n:Int):=by omega
  go_enter Tryz.func20,Tryz.ntmps20
  go_wp2_with fail
  go_loopg [13] n (fun g s13 wr=>∃ k:Nat,k≤n∧n-k≤g∧s13=.int .i64 k∧Hid (Below w.heap.size w wr)∧wr.cell? ⟨w.heap.size,0,none⟩=some (.slice a n c)∧Hid (RES=cellsE n (G.drop k)))
  case atStart=>exact⟨0,by omega,by omega,rfl,zab _ _,by go_simp,E0⟩
  case round =>
   obtain⟨k,hk,hg,rfl,HB,lb,A⟩:=hrel
   have hlb:=World.block_lt_of_cell? _ _ lb
   by_cases hlt:k<n
   ·have hlt2:(k:Int)<(n:Int):=by omega
    obtain⟨b,o,rfl,c0,ka,kc,c1,hks⟩:=(HS.out.below HB.out) k (by rw[HN.out];exact hlt)
    have hn0:Hid _:=fun W hW=>HCN.out k hlt ka kc W hW
    have KS:Hid (∀ o1,zah (wr.alloc o1) ka (cl G k).ks):=fun o1=>hks.below (zab _ _)
    have EQ:Hid (RES=if cellE n (cl G k)=0 then cellsE n (G.drop (k+1)) else cellE n (cl G k)):=by
     show _=_
     rw[A.out,DR.out k hlt]
     rfl
    clear hks A
    generalize cl G k=x at *
    obtain⟨xn,xks⟩:=x
    dsimp only at c0 c1
    obtain⟨ev,hev⟩:∃ z,cellE n ⟨xn,xks⟩=z:=⟨_,rfl⟩
    rw[hev] at hn0 EQ
    obtain⟨l,hl⟩:∃ z,xks.length=z:=⟨_,rfl⟩
    dsimp only at hn0
    rw[hl] at hn0 c1
    clear hev hl
    go_wp2_with fail
    refine Calls.mono (hn0.out _ (KS.out _)) ?_
    rintro e w1 ⟨rfl,hb⟩
    have hb2:Below wr.heap.size wr w1:=(zab _ _).trans (hb.mono (by simp))
    have HB2:Hid (Below w.heap.size w w1):=HB.out.trans (hb2.mono HB.out.size)
    have lb2:=keepC lb hb2
    clear hb hb2 lb
    by_cases hz:ev=0
    ·subst hz
     have EQ2:Hid (RES=cellsE n (G.drop (k+1))):=by show _=_;rw[EQ.out,if_pos rfl]
     clear EQ
     go_wp2_with fail
     go_roundg (n-(k+1))
     case measure=>omega
     case rel=>exact⟨k+1,by omega,by omega,by go_num,HB2,lb2,EQ2⟩
    ·have hz2:(ev == 0)=false:=by simp[hz]
     have hz3:decide (ev=0)=false:=decide_eq_false hz
     have EQ2:Hid (RES=ev):=by show _=_;rw[EQ.out,if_neg hz]
     clear EQ
     go_wp2_with fail
     go_ret
     exact⟨by rw[EQ2.out];rfl,HB2.out⟩
   ·have:k=n:=by omega
    subst this
    have EQ2:Hid (RES=0):=by show _=_;rw[A.out,DN.out];rfl
    clear A
    go_wp2_with fail
    go_ret
    exact⟨by rw[EQ2.out];rfl,HB.out⟩
theorem zhs(x y:Cl):x=y↔(x.n=y.n∧x.ks=y.ks):=by
 constructor
 ·rintro rfl;exact⟨rfl,rfl⟩
 ·obtain⟨a,b⟩:=x
  obtain⟨c,d⟩:=y
  rintro⟨rfl,rfl⟩
  rfl
def zjS(K:Nat):Prop:=∀ (x y:Cl) (ka ka' : Option Addr) (kc kc' : Nat) (W:World),x.ks.length≤9223372036854775807→zah W ka x.ks→zah W ka' y.ks →
 Calls Tryz.prog K #[.agg #[.int .i64 x.n,.slice ka x.ks.length kc],.agg #[.int .i64 y.n,.slice ka' y.ks.length kc']] W fun e w' => ∃ r:Bool,e=.returned (.bool r)∧Below W.heap.size W w' ∧(r=true↔x=y)
theorem zec(K:Nat)(eg:∀ args w,(callFunc K args).run Tryz.prog w=.ok (.enter K args) w)(hK:zjS K)(a a' : Option Addr)(c c' : Nat)(S S' : List Cl)(w:World)(hN:S.length≤9223372036854775807)(hB:BigC S)(h1:ClsAt w a S)(h2:ClsAt w a' S') :
  Calls Tryz.prog 66 #[.slice a S.length c,.slice a' S'.length c', .func (.func K) #[] #[]] w fun e w' => ∃ r:Bool,e=.returned (.bool r)∧Below w.heap.size w w' ∧(r=true↔S=S'):=by
 by_cases hl:S.length=S'.length
 ·have E1:Hid ((∀ i,i<S.length→cl S i=cl S' i)→S=S'):=fun h=>zpO hl h
  have E2:Hid (∀ i,cl S i≠cl S' i→S≠S'):=fun i h e=>h (by rw[e])
  have H1:Hid (ClsAt w a S):=h1
  have H2:Hid (ClsAt w a' S'):=h2
  have HB:Hid (BigC S):=hB
  have HK:Hid (zjS K):=hK
  have HL:Hid (S'.length=S.length):=hl.symm
  rw[← hl]
  clear h1 h2 hB hl hK
  generalize hn:S.length=n at *
  have HN:Hid _:=hn
  clear hn
  go_enter Tryz.func66,Tryz.ntmps66
  go_wp2
  go_loopg [17] n (fun g s17 wr=>∃ k:Nat,k≤n∧n-k≤g∧s17=.int .i64 k∧Below w.heap.size w wr∧Hid (∀ i,i<k→cl S i=cl S' i))
  case atStart=>exact⟨0,by omega,by omega,rfl,Below.refl _ _,fun i hi=>by omega⟩
  case round =>
   obtain⟨k,hk,hg,rfl,hb,A⟩:=hrel
   by_cases hlt:k<n
   ·have hlt2:(k:Int)<(n:Int):=by omega
    obtain⟨b,o,rfl,c0,ka,kc,c5,hk1⟩:=(H1.out.below hb) k (by rw[HN.out];exact hlt)
    obtain⟨b', o', rfl,e0,ka', kc', e5,hk2⟩:=(H2.out.below hb) k (by rw[HL.out];exact hlt)
    have hbb:=World.block_lt_of_cell? _ _ c0
    have hbb' := World.block_lt_of_cell? _ _ e0
    have d1:=fun o1 o2=>HK.out (cl S k) (cl S' k) ka ka' kc kc' ((wr.alloc o1).alloc o2) (HB.out k (by rw[HN.out];exact hlt)) (hk1.below (zaf _ _ _)) (hk2.below (zaf _ _ _))
    have EK2:Hid _:=E2.out k
    have KK:Hid (cl S k=cl S' k→∀ i,i<k+1→cl S i=cl S' i):=fun h i hi=>by
     by_cases e:i=k
     ·subst e;exact h
     ·exact A.out i (by omega)
    clear hk1 hk2
    have D1:Hid _:=d1
    clear d1
    generalize cl S k=x at *
    generalize cl S' k=y at *
    go_wp2_with fail
    refine(D1.out _ _).mono ?_
    rintro e w3 ⟨r,rfl,hb3,hr⟩
    cases r with
    | true =>
     have HR:Hid _:=hr.1 rfl
     clear hr
     go_wp2
     go_roundg (n-(k+1))
     case measure=>omega
     case rel=>exact⟨k+1,by omega,by omega,by go_num,(hb.trans ((zaf _ _ _).mono hb.size)).trans (hb3.mono (by simp;have:=hb.size;omega)),KK.out HR.out⟩
    | false =>
     have HR:Hid (S≠S'):=EK2.out fun e=>by have:=hr.2 e;cases this
     clear hr
     go_wp2
     go_ret
     exact⟨false,rfl,(hb.trans ((zaf _ _ _).mono hb.size)).trans (hb3.mono (by simp;have:=hb.size;omega)),⟨fun h=>(by cases h),fun h=>absurd h HR.out⟩⟩
   ·have:k=n:=by omega
    subst this
    go_wp2
    go_ret
    exact⟨true,rfl,hb,⟨fun _=>E1.out A.out,fun _=>rfl⟩⟩
 ·have hl' : ¬ ((S.length:Int)=(S'.length:Int)):=by omega
  have HNE:Hid (S≠S'):=fun e=>hl (by rw[e])
  clear h1 h2 hB hK
  generalize S.length=n at *
  generalize S'.length=n' at *
  go_enter Tryz.func66,Tryz.ntmps66
  go_wp2
  go_ret
  exact⟨false,rfl,Below.refl _ _,⟨fun h=>(by cases h),fun h=>absurd h HNE.out⟩⟩
theorem zlo:zjS 67:=by
 intro x y ka ka' kc kc' W hbig h1 h2
 have IFF:Hid (x=y↔(x.n=y.n∧x.ks=y.ks)):=zhs x y
 have d:=fun(w' : World) (i1:zah w' ka x.ks) (i2:zah w' ka' y.ks)=>zcN ka ka' kc kc' x.ks y.ks w' hbig i1 i2
 have D:Hid _:=d
 have I1:Hid (∀ o1 o2,zah ((W.alloc o1).alloc o2) ka x.ks):=fun o1 o2=>h1.below (zaf _ _ _)
 have I2:Hid (∀ o1 o2,zah ((W.alloc o1).alloc o2) ka' y.ks):=fun o1 o2=>h2.below (zaf _ _ _)
 clear h1 h2 d
 obtain⟨xn,xks⟩:=x
 obtain⟨yn,yks⟩:=y
 dsimp only at IFF D I1 I2 ⊢
 obtain⟨xl,hxl⟩:∃ z,xks.length=z:=⟨_,rfl⟩
 obtain⟨yl,hyl⟩:∃ z,yks.length=z:=⟨_,rfl⟩
 rw[hxl,hyl] at D
 rw[hxl,hyl]
 clear hxl hyl hbig
 by_cases he:xn=yn
 ·have IFF2:Hid ((⟨xn,xks⟩:Cl)=⟨yn,yks⟩↔xks=yks):=by show _↔_;rw[IFF.out];simp[he]
  subst he
  clear IFF
  go_enter Tryz.func67,Tryz.ntmps67
  go_wp2_with fail
  refine Calls.mono (D.out _ (I1.out _ _) (I2.out _ _)) ?_
  rintro e w1 ⟨rfl,hb⟩
  have HB:Hid (Below W.heap.size W w1):=(zaf _ _ _).trans (hb.mono (by simp;omega))
  clear hb
  by_cases hk:xks=yks
  ·have HR:Hid _:=IFF2.out.2 hk
   rw[decide_eq_true hk]
   clear hk IFF2
   go_wp2
   go_ret
   exact⟨true,rfl,HB.out,⟨fun _=>HR.out,fun _=>rfl⟩⟩
  ·have HR:Hid _:=fun h=>hk (IFF2.out.1 h)
   rw[decide_eq_false hk]
   clear hk IFF2
   go_wp2
   go_ret
   exact⟨false,rfl,HB.out,⟨fun h=>(by cases h),fun h=>absurd h HR.out⟩⟩
 ·have hd:decide (xn=yn)=false:=decide_eq_false he
  have hd2:(xn == yn)=false:=by simp[he]
  have HR:Hid (¬ (⟨xn,xks⟩:Cl)=⟨yn,yks⟩):=fun h=>he (IFF.out.1 h).1
  clear IFF
  go_enter Tryz.func67,Tryz.ntmps67
  go_wp2_with fail
  go_ret
  exact⟨false,rfl,zaf _ _ _,⟨fun h=>(by cases h),fun h=>absurd h HR.out⟩⟩
theorem znj(a a' : Option Addr)(c c' : Nat)(S S' : List Cl)(w:World)(hN:S.length≤9223372036854775807)(hB:BigC S)(h1:ClsAt w a S)(h2:ClsAt w a' S') :
  Calls Tryz.prog 23 #[.agg #[.slice a S.length c],.agg #[.slice a' S'.length c']] w fun e w' => ∃ r:Bool,e=.returned (.bool r)∧Below w.heap.size w w' ∧(r=true↔S=S'):=by
 have D1:Hid _:=fun o1 o2=>zec 67 (enters_of Tryz.func67 (by kernel_rfl) rfl) zlo a a' c c' S S' ((w.alloc o1).alloc o2) hN hB (h1.below (zaf _ _ _)) (h2.below (zaf _ _ _))
 clear h1 h2 hB
 generalize S.length=n at *
 generalize S'.length=n' at *
 go_enter Tryz.func23,Tryz.ntmps23
 go_wp2_with (go_at_call 66;refine(D1.out _ _).mono ?_;rintro e w1 ⟨r,rfl,hb,hr⟩;have HR:Hid _:=hr;clear hr)
 go_ret
 exact⟨r,rfl,(zaf _ _ _).trans (hb.mono (by simp;omega)),HR.out⟩
theorem ziG:zjS 68:=by
 intro x y ka ka' kc kc' W hbig h1 h2
 have IFF:Hid (x=y↔(x.n=y.n∧x.ks=y.ks)):=zhs x y
 have d:=fun(w' : World) (i1:zah w' ka x.ks) (i2:zah w' ka' y.ks)=>zcN ka ka' kc kc' x.ks y.ks w' hbig i1 i2
 have D:Hid _:=d
 have I1:Hid (∀ o1 o2,zah ((W.alloc o1).alloc o2) ka x.ks):=fun o1 o2=>h1.below (zaf _ _ _)
 have I2:Hid (∀ o1 o2,zah ((W.alloc o1).alloc o2) ka' y.ks):=fun o1 o2=>h2.below (zaf _ _ _)
 clear h1 h2 d
 obtain⟨xn,xks⟩:=x
 obtain⟨yn,yks⟩:=y
 dsimp only at IFF D I1 I2 ⊢
 obtain⟨xl,hxl⟩:∃ z,xks.length=z:=⟨_,rfl⟩
 obtain⟨yl,hyl⟩:∃ z,yks.length=z:=⟨_,rfl⟩
 rw[hxl,hyl] at D
 rw[hxl,hyl]
 clear hxl hyl hbig
 by_cases he:xn=yn
 ·have IFF2:Hid ((⟨xn,xks⟩:Cl)=⟨yn,yks⟩↔xks=yks):=by show _↔_;rw[IFF.out];simp[he]
  subst he
  clear IFF
  go_enter Tryz.func68,Tryz.ntmps68
  go_wp2_with fail
  refine Calls.mono (D.out _ (I1.out _ _) (I2.out _ _)) ?_
  rintro e w1 ⟨rfl,hb⟩
  have HB:Hid (Below W.heap.size W w1):=(zaf _ _ _).trans (hb.mono (by simp;omega))
  clear hb
  by_cases hk:xks=yks
  ·have HR:Hid _:=IFF2.out.2 hk
   rw[decide_eq_true hk]
   clear hk IFF2
   go_wp2
   go_ret
   exact⟨true,rfl,HB.out,⟨fun _=>HR.out,fun _=>rfl⟩⟩
  ·have HR:Hid _:=fun h=>hk (IFF2.out.1 h)
   rw[decide_eq_false hk]
   clear hk IFF2
   go_wp2
   go_ret
   exact⟨false,rfl,HB.out,⟨fun h=>(by cases h),fun h=>absurd h HR.out⟩⟩
 ·have hd:decide (xn=yn)=false:=decide_eq_false he
  have hd2:(xn == yn)=false:=by simp[he]
  have HR:Hid (¬ (⟨xn,xks⟩:Cl)=⟨yn,yks⟩):=fun h=>he (IFF.out.1 h).1
  clear IFF
  go_enter Tryz.func68,Tryz.ntmps68
  go_wp2_with fail
  go_ret
  exact⟨false,rfl,zaf _ _ _,⟨fun h=>(by cases h),fun h=>absurd h HR.out⟩⟩
theorem zle(a a' : Option Addr)(c c' : Nat)(S S' : List Cl)(w:World)(hN:S.length≤9223372036854775807)(hB:BigC S)(h1:ClsAt w a S)(h2:ClsAt w a' S') :
  Calls Tryz.prog 26 #[.agg #[.slice a S.length c],.agg #[.slice a' S'.length c']] w fun e w' => ∃ r:Bool,e=.returned (.bool r)∧Below w.heap.size w w' ∧(r=true↔S=S'):=by
 have D1:Hid _:=fun o1 o2=>zec 68 (enters_of Tryz.func68 (by kernel_rfl) rfl) ziG a a' c c' S S' ((w.alloc o1).alloc o2) hN hB (h1.below (zaf _ _ _)) (h2.below (zaf _ _ _))
 clear h1 h2 hB
 generalize S.length=n at *
 generalize S'.length=n' at *
 go_enter Tryz.func26,Tryz.ntmps26
 go_wp2_with (go_at_call 66;refine(D1.out _ _).mono ?_;rintro e w1 ⟨r,rfl,hb,hr⟩;have HR:Hid _:=hr;clear hr)
 go_ret
 exact⟨r,rfl,(zaf _ _ _).trans (hb.mono (by simp;omega)),HR.out⟩
end Go.Proofs.YtojlkdekdbdpoaaGreat

namespace Go.Proofs.YtojlkdekdbdpoaaGreat
open Go.RowKit
set_option linter.unusedVariables false
structure Rl where
 s:List Nd
 hs:List (Int × Int)
 i:List Cl
 t:List Int
def zaR:Rl:=⟨[],[],[],[]⟩
structure Ac where
 k:Int
 a:Int
 b:Int
 c:Int
 n:Int
structure Rs where
 e:Int
 r:Rl
 o:Int
theorem zbm{S:List Nd}{p u:Int}(h:findE S p u=0):WF S∧∃ k:Nat,p=k∧k<S.length∧(nd S k).u=true∧(nd S k).n=u :=
 ⟨(zcK S).1 (zdT h).1,holds_zero (zdT h).2⟩
theorem ziW{S:List Nd}{hs:List (Int × Int)}(h:zao S hs=0):WF S∧∀ x ∈ hs,∃ k:Nat,x.1=k∧k<S.length∧(nd S k).u=true∧(nd S k).n=x.2:=by
 unfold zao at h
 split at h
 ·rename_i hw
  refine⟨(zcK S).1 hw,?_⟩
  induction hs with
  | nil=>intro x hx;cases hx
  | cons y r ih =>
   unfold zdn at h
   split at h
   ·rename_i h0
    intro x hx
    rcases List.mem_cons.1 hx with rfl|hx
    ·exact holds_zero h0
    ·exact ih h x hx
   ·exact absurd h (by assumption)
 ·exact absurd h (by assumption)
def ffree(S:List Nd):Nat:=S.findIdx freeB
theorem znP{S:List Nd}{k:Nat}(hk:k<S.length)(h1:freeB (nd S k)=true)(h2:∀ i,i<k→freeB (nd S i)=false):ffree S=k:=by
 unfold ffree
 rw[List.findIdx_eq hk]
 refine⟨by rw[← zaF hk];exact h1,fun j hj=>?_⟩
 have:=h2 j hj
 rw[zaF (by omega)] at this
 exact this
theorem znv{S:List Nd}(h:S.any freeB=true):ffree S<S.length∧freeB (nd S (ffree S))=true∧∀ i,i<ffree S→freeB (nd S i)=false:=by
 obtain⟨k,hk,h1,h2⟩:=zkf h
 rw[znP hk h1 h2]
 exact⟨hk,h1,h2⟩
def mkS(S:List Nd)(t:Int):List Nd:=S.set (ffree S) (zbg (nd S (ffree S)) t)
def mkH(S:List Nd):Int × Int:=((ffree S:Int),(nd S (ffree S)).n+1)
theorem zeN{S:List Nd}{t:Int}(h:makeE S t=0):WF S∧(0≤t∧t≤99)∧ffree S<S.length∧freeB (nd S (ffree S))=true∧∀ i,i<ffree S→freeB (nd S i)=false:=by
 unfold makeE at h
 by_cases hc:zaA S=0
 ·rw[if_pos hc] at h
  by_cases ht:0≤t∧t≤99
  ·rw[if_pos ht] at h
   cases hq:S.any freeB with
   | true=>exact⟨(zcK S).1 hc,ht,znv hq⟩
   | false=>rw[hq,if_neg (by simp)] at h;omega
  ·rw[if_neg ht] at h;omega
 ·rw[if_neg hc] at h;exact absurd h hc
instance (S:List Nd) (k:Nat):Decidable (zdk S k):=by unfold zdk;infer_instance
def freeE(S:List Nd)(p u:Int):Int:=if findE S p u=0 then (if zdk S p.toNat then 0 else 6) else findE S p u
def remE(S:List Nd)(p u:Int):Int:=if findE S p u=0 then (if (nd S p.toNat).p = -1 then 6 else 0) else findE S p u
def mrkE(S:List Nd)(p u n:Int):Int:=if findE S p u=0 then (if -1000000≤n∧n≤1000000 then 0 else 2) else findE S p u
def cntE(S:List Nd)(p u:Int)(q:List Tst):Int:=if findE S p u=0 then zcd q else findE S p u
def insE(S:List Nd)(p u q v:Int)(hs:List (Int × Int)):Int :=
 if zao S ((p,u) ::(q,v) :: hs)=0 then (if fitsB S q.toNat p.toNat=true then (match hs with | []=>0|h :: _=>if (nd S h.1.toNat).p=p then 0 else 6) else 6) else zao S ((p,u) ::(q,v) :: hs)
def insS(S:List Nd)(p q:Int)(hs:List (Int × Int)):List Nd :=
 match hs with
 | []=>zaJ (leaveG S q.toNat) p.toNat q.toNat (nd (leaveG S q.toNat) p.toNat).ks.length
 | h :: _=>if h.1=q then S else zaJ (leaveG S q.toNat) p.toNat q.toNat (idx (nd (leaveG S q.toNat) p.toNat).ks h.1).toNat
def hosE(S:List Nd)(p u:Int):Int:=if findE S p u=0 then (if hostB S p=true then 6 else makeE S 0) else findE S p u
def hosS(S:List Nd)(p:Int)(c:Bool):List Nd:=S.set (ffree S) (zbq (nd S (ffree S)) p.toNat c)
def upE(S:List Nd)(p u:Int):Int:=if findE S p u=0 then (if (nd S p.toNat).p = -1 then 6 else 0) else findE S p u
def upH(S:List Nd)(p:Int):Int × Int:=((nd S p.toNat).p,(nd S (nd S p.toNat).p.toNat).n)
def mrkS(S:List Nd)(p n:Int):List Nd:=S.set p.toNat { nd S p.toNat with m:=n }
def ans(E:Int)(R:Rl)(o:Int):Rs:=if E=0 then ⟨0,R,o⟩ else ⟨E,zaR,0⟩
def bad(E:Int):Rs:=⟨E,zaR,0⟩
theorem zdl{E:Int}{R:Rl}{o:Int}(h:(ans E R o).e=0):E=0∧ans E R o=⟨0,R,o⟩:=by
 by_cases hE:E=0
 ·exact⟨hE,if_pos hE⟩
 ·unfold ans at h
  rw[if_neg hE] at h
  exact absurd h hE
def isH(k:Int):Prop:=0≤k∧k≤15
instance (k:Int):Decidable (isH k):=by unfold isH;infer_instance
def hd(R:Rl)(k:Int):Int × Int:=R.hs.getD k.toNat (0,0)
def zay(R:Rl):Int:=if zaA R.s=0 then (if R.hs.length=16 then (if zbB R.i=0 then (if 4800<R.t.length then 1 else 0) else zbB R.i) else 3) else zaA R.s
def aMake(R:Rl)(a n:Int):Rs:=ans (makeE R.s n) ⟨mkS R.s n,R.hs.set a.toNat (mkH R.s),R.i,R.t⟩ 0
def aFree(R:Rl)(h:Int × Int):Rs:=ans (freeE R.s h.1 h.2) ⟨R.s.set h.1.toNat (zbY (nd R.s h.1.toNat)),R.hs,R.i,R.t⟩ 0
def ziE(R:Rl)(h:Int × Int):Rs:=ans (remE R.s h.1 h.2) ⟨leaveG R.s h.1.toNat,R.hs,R.i,R.t⟩ 0
def aGet(R:Rl)(h:Int × Int):Rs:=ans (findE R.s h.1 h.2) R (nd R.s h.1.toNat).m
def aSet(R:Rl)(h:Int × Int)(n:Int):Rs:=ans (mrkE R.s h.1 h.2 n) ⟨mrkS R.s h.1 n,R.hs,R.i,R.t⟩ 0
def aTake(R:Rl)(h:Int × Int)(n:Int):Rs:=if 0≤n∧n<R.i.length then aSet R h (cl R.i n.toNat).n else bad 4
def znr(R:Rl)(h:Int × Int)(t m:Int):Rs:=ans (cntE R.s h.1 h.2 [⟨t,m,false⟩]) R (zcq R.s h.1.toNat [⟨t,m,false⟩]).length
def aFlat(R:Rl)(h:Int × Int):Rs:=ans (findE R.s h.1 h.2) R (flatF R.s h.1.toNat).length
def zdc(R:Rl)(h g:Int × Int)(hs:List (Int × Int)):Rs:=ans (insE R.s h.1 h.2 g.1 g.2 hs) ⟨insS R.s h.1 g.1 hs,R.hs,R.i,R.t⟩ 0
def aHost(R:Rl)(b:Int)(h:Int × Int)(c:Bool):Rs:=ans (hosE R.s h.1 h.2) ⟨hosS R.s h.1 c,R.hs.set b.toNat (mkH R.s),R.i,R.t⟩ 0
def aUp(R:Rl)(b:Int)(h:Int × Int):Rs:=ans (upE R.s h.1 h.2) ⟨R.s,R.hs.set b.toNat (upH R.s h.1),R.i,R.t⟩ 0
def doG(R:Rl)(x:Ac):Rs :=
 if isH x.a then
  if x.k=1 then aMake R x.a x.n
  else if x.k=2 then aFree R (hd R x.a)
  else if x.k=4 then ziE R (hd R x.a)
  else if x.k=6 then aGet R (hd R x.a)
  else if x.k=5 then aSet R (hd R x.a) x.n
  else if x.k=11 then aTake R (hd R x.a) x.n
  else if x.k=14 then znr R (hd R x.a) x.b x.n
  else if x.k=15 then aFlat R (hd R x.a)
  else if x.k=3∨x.k=7∨x.k=8 then
   if isH x.b then
    if x.k=7 then aHost R x.b (hd R x.a) (decide (x.n=1))
    else if x.k=8 then aUp R x.b (hd R x.a)
    else if x.c<0 then zdc R (hd R x.a) (hd R x.b) []
    else if isH x.c then zdc R (hd R x.a) (hd R x.b) [hd R x.c] else bad 4
   else bad 4
  else bad 3
 else bad 4
def doF(R:Rl)(x:Ac):Rs:=if zay R=0 then doG R x else bad (zay R)
theorem WF.mark{S:List Nd}(h:WF S){k:Nat}{n:Int}(hk:k<S.length)(hu:(nd S k).u=true)(hn:-1000000≤n∧n≤1000000):WF (S.set k { nd S k with m:=n }):=by
 refine h.like (by simp) (fun i hi=>?_) (fun i hi=>?_) (fun i hi hiu=>?_)
 ·rw[zav S k i _ hk]
  split
  ·rename_i e
   subst e
   obtain⟨r1,r2,r3⟩:=zaV (h.node i hi)
   obtain⟨m1,m2,m3⟩:=zbO r2
   refine zdA ?_ (zcE m1 m2 m3) ?_
   ·unfold zbF at r1 ⊢
    simp only[Bool.and_eq_true,decide_eq_true_eq] at r1 ⊢
    exact⟨r1.1,r1.2.1,hn⟩
   ·unfold formB at r3 ⊢
    dsimp only
    rw[if_pos hu] at r3 ⊢
    exact r3
  ·exact h.node i hi
 ·rw[zav S k i _ hk]
  split
  ·rename_i e
   subst e
   exact⟨rfl,rfl,rfl⟩
  ·exact⟨rfl,rfl,rfl⟩
 ·rw[zav S k i _ hk]
  split
  ·exact Or.inl hu
  ·exact Or.inl hiu
def Same4(x y:Nd):Prop:=y.u=x.u∧y.n=x.n∧y.t=x.t∧y.m=x.m
def Born(x y:Nd):Prop:=x.u=false∧y.u=true∧y.n=x.n+1∧y.m=x.m
def Died(x y:Nd):Prop:=x.u=true∧y.u=false∧y.n=x.n
def zoR(x y:Nd):Prop:=y.u=x.u∧y.n=x.n∧y.t=x.t
def Mild(S T:List Nd):Prop:=T.length=S.length∧∃ q,∀ i,i<S.length→Same4 (nd S i) (nd T i)∨(i=q∧(Born (nd S i) (nd T i)∨Died (nd S i) (nd T i)))
theorem Same4.rfl{x:Nd}:Same4 x x:=⟨Eq.refl _,Eq.refl _,Eq.refl _,Eq.refl _⟩
theorem zfz{S T:List Nd}(hl:T.length=S.length)(h:∀ i,i<S.length→Same4 (nd S i) (nd T i)):Mild S T:=⟨hl,0,fun i hi=>Or.inl (h i hi)⟩
theorem zgK{S:List Nd}{k:Nat}{y:Nd}(hk:k<S.length)(h:Born (nd S k) y∨Died (nd S k) y):Mild S (S.set k y):=⟨by simp,k,fun i hi=>by
 rw[zav S k i _ hk]
 split
 ·rename_i e
  subst e
  exact Or.inr ⟨rfl,h⟩
 ·exact Or.inl Same4.rfl⟩
theorem zel{S:List Nd}{p u q v:Int}{hs:List (Int × Int)}(h:insE S p u q v hs=0):WF (insS S p q hs)∧Mild S (insS S p q hs):=by
 unfold insE at h
 by_cases h0:zao S ((p,u) ::(q,v) :: hs)=0
 ·rw[if_pos h0] at h
  obtain⟨wf,hx⟩:=ziW h0
  obtain⟨pa,e1,hpa,hpu,hpn⟩:=hx (p,u) (by simp)
  obtain⟨ch,e2,hch,hcu,hcn⟩:=hx (q,v) (by simp)
  dsimp only at e1 e2 hpn hcn
  subst e1
  subst e2
  rw[Int.toNat_natCast,Int.toNat_natCast] at h
  by_cases hf:fitsB S ch pa=true
  ·rw[if_pos hf] at h
   have pt:Puts S pa ch:=⟨wf,hpa,hch,hpu,hcu,hf⟩
   have key:∀ at', WF (zaJ (leaveG S ch) pa ch at')∧Mild S (zaJ (leaveG S ch) pa ch at'):=fun at' => ⟨pt.insert at', zfz (by rw[zaB,zaC]) (fun i hi=>by
    obtain⟨a1,a2,a3,a4,a5,a6⟩:=zdL S ch i
    obtain⟨b1,b2,b3,b4,b5,b6⟩:=zdd (leaveG S ch) pa ch at' i
    exact⟨b1.trans a1,b2.trans a2,b4.trans a4,b5.trans a5⟩)⟩
   unfold insS
   rw[Int.toNat_natCast,Int.toNat_natCast]
   match hs with
   | []=>exact key _
   | hh :: r =>
    dsimp only
    split
    ·exact⟨wf,zfz rfl (fun i hi=>Same4.rfl)⟩
    ·exact key _
  ·rw[if_neg hf] at h;omega
 ·rw[if_neg h0] at h;exact absurd h h0
structure Kept (R:Rl) (x:Ac) (Q:Rl) (o:Int):Prop where
 a:isH x.a
 wf:WF Q.s
 len:Q.s.length=R.s.length
 hlen:Q.hs.length=R.hs.length
 inn:Q.i=R.i
 tld:Q.t=R.t
 told:o≠0→x.k=6∨x.k=14∨x.k=15
 same:x.k=6∨x.k=14∨x.k=15→Q=R
 node:∃ q,∀ i,i<R.s.length→Same4 (nd R.s i) (nd Q.s i)∨(i=q∧(Born (nd R.s i) (nd Q.s i)∨Died (nd R.s i) (nd Q.s i)∨zoR (nd R.s i) (nd Q.s i)))
 hand:∃ q,∀ i,i≠q→Q.hs.getD i (0,0)=R.hs.getD i (0,0)
 mark:x.k=5∨x.k=11→∃ k:Nat,(hd R x.a).1=k∧k<R.s.length∧(nd R.s k).u=true∧(nd R.s k).n=(hd R x.a).2∧(x.k=11→0≤x.n∧x.n<R.i.length)∧Q.s=R.s.set k { nd R.s k with m:=if x.k=11 then (cl R.i x.n.toNat).n else x.n }∧Q.hs=R.hs
 mild:x.k≠5→x.k≠11→Mild R.s Q.s
theorem zjZ{α:Type}(l:List α)(k i:Nat)(v d:α)(h:i≠k):(l.set k v).getD i d=l.getD i d:=by
 simp only[List.getD_eq_getElem?_getD,List.getElem?_set_ne (Ne.symm h)]
theorem Kept.mildly{R:Rl}{x:Ac}{T:List Nd}(ha:isH x.a)(wf:WF T)(hm:Mild R.s T)(hk:x.k≠6∧x.k≠14∧x.k≠15)(hk2:x.k≠5∧x.k≠11)(H:List (Int × Int))(hl:H.length=R.hs.length)(hH:∃ q,∀ i,i≠q→H.getD i (0,0)=R.hs.getD i (0,0)):Kept R x ⟨T,H,R.i,R.t⟩ 0 :=
 {a:=ha,wf:=wf,len:=hm.1,hlen:=hl,inn:=rfl,tld:=rfl,told:=fun h=>absurd rfl h,same:=fun h=>(by omega),
  node:=by
   obtain⟨_,q,h⟩:=hm
   exact⟨q,fun i hi=>(h i hi).imp id (fun⟨e,hh⟩=>⟨e,hh.elim Or.inl (fun h=>Or.inr (Or.inl h))⟩)⟩
  hand:=hH,mark:=fun h=>(by omega),mild:=fun _ _=>hm }
theorem Kept.asked{R:Rl}{x:Ac}{o:Int}(ha:isH x.a)(wf:WF R.s)(hk:x.k=6∨x.k=14∨x.k=15):Kept R x R o :=
 {a:=ha,wf:=wf,len:=rfl,hlen:=rfl,inn:=rfl,tld:=rfl,told:=fun _=>hk,same:=fun _=>rfl,
  node:=⟨0,fun i hi=>Or.inl Same4.rfl⟩,hand:=⟨0,fun i hi=>rfl⟩,mark:=fun h=>(by omega),mild:=fun _ _=>zfz rfl (fun i hi=>Same4.rfl) }
theorem Kept.marked{R:Rl}{x:Ac}{n:Int}(ha:isH x.a)(hE:mrkE R.s (hd R x.a).1 (hd R x.a).2 n=0)(hk:x.k=5∨x.k=11)(hn:n=if x.k=11 then (cl R.i x.n.toNat).n else x.n)(hi:x.k=11→0≤x.n∧x.n<R.i.length):Kept R x ⟨mrkS R.s (hd R x.a).1 n,R.hs,R.i,R.t⟩ 0:=by
 unfold mrkE at hE
 by_cases hf:findE R.s (hd R x.a).1 (hd R x.a).2=0
 ·rw[if_pos hf] at hE
  by_cases hr:-1000000≤n∧n≤1000000
  ·obtain⟨wf,k,e,hk1,hu,hkn⟩:=zbm hf
   have e2:mrkS R.s (hd R x.a).1 n=R.s.set k { nd R.s k with m:=n }:=by unfold mrkS;rw[e,Int.toNat_natCast]
   rw[e2]
   exact
    {a:=ha,wf:=wf.mark hk1 hu hr,len:=by simp,hlen:=rfl,inn:=rfl,tld:=rfl,told:=fun h=>absurd rfl h,same:=fun h=>(by omega),
     node:=⟨k,fun i hi=>by
      show Same4 _ (nd (R.s.set k _) i)∨(i=k∧(Born _ (nd (R.s.set k _) i)∨Died _ (nd (R.s.set k _) i)∨zoR _ (nd (R.s.set k _) i)))
      rw[zav R.s k i _ hk1]
      split
      ·rename_i e
       subst e
       exact Or.inr ⟨rfl,Or.inr (Or.inr ⟨rfl,rfl,rfl⟩)⟩
      ·exact Or.inl Same4.rfl⟩
     hand:=⟨0,fun i hi=>rfl⟩,mark:=fun _=>⟨k,e,hk1,hu,hkn,hi,by rw[← hn],rfl⟩,mild:=fun h1 h2=>by omega }
  ·rw[if_neg hr] at hE;omega
 ·rw[if_neg hf] at hE;exact absurd hE hf
theorem zau{R:Rl}(h:zay R=0):WF R.s∧R.hs.length=16∧zbB R.i=0∧R.t.length≤4800:=by
 unfold zay at h
 by_cases h1:zaA R.s=0
 ·rw[if_pos h1] at h
  by_cases h2:R.hs.length=16
  ·rw[if_pos h2] at h
   by_cases h3:zbB R.i=0
   ·rw[if_pos h3] at h
    by_cases h4:4800<R.t.length
    ·rw[if_pos h4] at h;omega
    ·exact⟨(zcK _).1 h1,h2,h3,by omega⟩
   ·rw[if_neg h3] at h;exact absurd h h3
  ·rw[if_neg h2] at h;omega
 ·rw[if_neg h1] at h;exact absurd h h1
theorem zmo{R:Rl}(h1:WF R.s)(h2:R.hs.length=16)(h3:zbB R.i=0)(h4:R.t.length≤4800):zay R=0:=by
 unfold zay
 rw[if_pos ((zcK _).2 h1),if_pos h2,if_pos h3,if_neg (by omega)]
theorem znV{R:Rl}{x:Ac}(hc:zay R=0)(h:(doG R x).e=0):Kept R x (doG R x).r (doG R x).o:=by
 obtain⟨wf,hhs,_,_⟩:=zau hc
 have same:∃ q,∀ i,i≠q→R.hs.getD i (0,0)=R.hs.getD i (0,0):=⟨0,fun i _=>rfl⟩
 have one:∀ (k:Nat) v,∃ q,∀ i,i≠q→(R.hs.set k v).getD i (0,0)=R.hs.getD i (0,0):=fun k v=>⟨k,fun i hi=>zjZ _ _ _ _ _ hi⟩
 unfold doG at h ⊢
 by_cases ha:isH x.a
 ·rw[if_pos ha] at h ⊢
  by_cases k1:x.k=1
  ·rw[if_pos k1] at h ⊢
   unfold aMake at h ⊢
   obtain⟨hE,he⟩:=zdl h
   rw[he]
   obtain⟨_,ht,hf,hfr,_⟩:=zeN hE
   have hp:=zdQ hfr
   exact Kept.mildly ha (wf.make hf hfr ht.1 ht.2) (zgK hf (Or.inl ⟨hp.1,rfl,rfl,rfl⟩)) (by omega) (by omega) _ (by simp) (one _ _)
  rw[if_neg k1] at h ⊢
  by_cases k2:x.k=2
  ·rw[if_pos k2] at h ⊢
   unfold aFree at h ⊢
   obtain⟨hE,he⟩:=zdl h
   rw[he]
   unfold freeE at hE
   by_cases hf:findE R.s (hd R x.a).1 (hd R x.a).2=0
   ·rw[if_pos hf] at hE
    by_cases hl:zdk R.s (hd R x.a).1.toNat
    ·obtain⟨_,k,e,hk,hu,hkn⟩:=zbm hf
     rw[e,Int.toNat_natCast] at hl ⊢
     exact Kept.mildly ha (wf.free hk hl) (zgK hk (Or.inr ⟨hu,rfl,rfl⟩)) (by omega) (by omega) _ rfl same
    ·rw[if_neg hl] at hE;omega
   ·rw[if_neg hf] at hE;exact absurd hE hf
  rw[if_neg k2] at h ⊢
  by_cases k4:x.k=4
  ·rw[if_pos k4] at h ⊢
   unfold ziE at h ⊢
   obtain⟨hE,he⟩:=zdl h
   rw[he]
   unfold remE at hE
   by_cases hf:findE R.s (hd R x.a).1 (hd R x.a).2=0
   ·obtain⟨_,k,e,hk,hu,hkn⟩:=zbm hf
    rw[e,Int.toNat_natCast]
    exact Kept.mildly ha (wf.leaveG hk) (zfz (zaC _ _) (fun i hi=>by obtain⟨a1,a2,a3,a4,a5,a6⟩:=zdL R.s k i;exact⟨a1,a2,a4,a5⟩)) (by omega) (by omega) _ rfl same
   ·rw[if_neg hf] at hE;exact absurd hE hf
  rw[if_neg k4] at h ⊢
  by_cases k6:x.k=6
  ·rw[if_pos k6] at h ⊢
   unfold aGet at h ⊢
   rw[(zdl h).2]
   exact Kept.asked ha wf (by omega)
  rw[if_neg k6] at h ⊢
  by_cases k5:x.k=5
  ·rw[if_pos k5] at h ⊢
   unfold aSet at h ⊢
   obtain⟨hE,he⟩:=zdl h
   rw[he]
   exact Kept.marked ha hE (Or.inl k5) (by rw[if_neg (by omega)]) (fun h=>by omega)
  rw[if_neg k5] at h ⊢
  by_cases k11:x.k=11
  ·rw[if_pos k11] at h ⊢
   unfold aTake at h ⊢
   by_cases hn:0≤x.n∧x.n<R.i.length
   ·rw[if_pos hn] at h ⊢
    unfold aSet at h ⊢
    obtain⟨hE,he⟩:=zdl h
    rw[he]
    exact Kept.marked ha hE (Or.inr k11) (by rw[if_pos k11]) (fun _=>hn)
   ·rw[if_neg hn] at h
    exact absurd h (by decide)
  rw[if_neg k11] at h ⊢
  by_cases k14:x.k=14
  ·rw[if_pos k14] at h ⊢
   unfold znr at h ⊢
   rw[(zdl h).2]
   exact Kept.asked ha wf (by omega)
  rw[if_neg k14] at h ⊢
  by_cases k15:x.k=15
  ·rw[if_pos k15] at h ⊢
   unfold aFlat at h ⊢
   rw[(zdl h).2]
   exact Kept.asked ha wf (by omega)
  rw[if_neg k15] at h ⊢
  by_cases kk:x.k=3∨x.k=7∨x.k=8
  ·rw[if_pos kk] at h ⊢
   by_cases hb:isH x.b
   ·rw[if_pos hb] at h ⊢
    by_cases k7:x.k=7
    ·rw[if_pos k7] at h ⊢
     unfold aHost at h ⊢
     obtain⟨hE,he⟩:=zdl h
     rw[he]
     unfold hosE at hE
     by_cases hf:findE R.s (hd R x.a).1 (hd R x.a).2=0
     ·rw[if_pos hf] at hE
      by_cases hl:hostB R.s (hd R x.a).1=true
      ·rw[if_pos hl] at hE;omega
      ·rw[if_neg hl] at hE
       obtain⟨_,k,e,hk,hu,hkn⟩:=zbm hf
       obtain⟨_,ht,hf,hfr,_⟩:=zeN hE
       have hp:=zdQ hfr
       unfold hosS
       rw[e] at hl ⊢
       rw[Int.toNat_natCast]
       exact Kept.mildly ha (wf.attach _ hf hfr hk hu (by simpa using hl)) (zgK hf (Or.inl ⟨hp.1,rfl,rfl,rfl⟩)) (by omega) (by omega) _ (by simp) (one _ _)
     ·rw[if_neg hf] at hE;exact absurd hE hf
    rw[if_neg k7] at h ⊢
    by_cases k8:x.k=8
    ·rw[if_pos k8] at h ⊢
     unfold aUp at h ⊢
     rw[(zdl h).2]
     exact Kept.mildly ha wf (zfz rfl (fun i hi=>Same4.rfl)) (by omega) (by omega) _ (by simp) (one _ _)
    rw[if_neg k8] at h ⊢
    by_cases hc0:x.c<0
    ·rw[if_pos hc0] at h ⊢
     unfold zdc at h ⊢
     obtain⟨hE,he⟩:=zdl h
     rw[he]
     exact Kept.mildly ha (zel hE).1 (zel hE).2 (by omega) (by omega) _ rfl same
    ·rw[if_neg hc0] at h ⊢
     by_cases hc1:isH x.c
     ·rw[if_pos hc1] at h ⊢
      unfold zdc at h ⊢
      obtain⟨hE,he⟩:=zdl h
      rw[he]
      exact Kept.mildly ha (zel hE).1 (zel hE).2 (by omega) (by omega) _ rfl same
     ·rw[if_neg hc1] at h
      exact absurd h (by decide)
   ·rw[if_neg hb] at h
    exact absurd h (by decide)
  ·rw[if_neg kk] at h
   exact absurd h (by decide)
 ·rw[if_neg ha] at h
  exact absurd h (by decide)
theorem zpF{R:Rl}{x:Ac}(h:(doF R x).e=0):zay R=0∧Kept R x (doF R x).r (doF R x).o∧zay (doF R x).r=0:=by
 by_cases hc:zay R=0
 ·have e:doF R x=doG R x:=if_pos hc
  rw[e] at h ⊢
  have k:=znV hc h
  obtain⟨h1,h2,h3,h4⟩:=zau hc
  exact⟨hc,k,zmo k.wf (k.hlen.trans h2) (by rw[k.inn];exact h3) (by rw[k.tld];exact h4)⟩
 ·unfold doF at h
  rw[if_neg hc] at h
  exact absurd h hc
def Sane(q:Rs):Prop:=q.e≠0→q.r=zaR∧q.o=0
theorem zoH(E:Int)(R:Rl)(o:Int):Sane (ans E R o):=fun h=>by
 unfold ans at h ⊢
 by_cases h0:E=0
 ·rw[if_pos h0] at h
  exact absurd rfl h
 ·rw[if_neg h0]
  exact⟨rfl,rfl⟩
theorem zjr(E:Int):Sane (bad E):=fun _=>⟨rfl,rfl⟩
theorem zjI{c:Prop}[Decidable c]{a b:Rs}(ha:Sane a)(hb:Sane b):Sane (if c then a else b):=by
 by_cases h:c
 ·rw[if_pos h];exact ha
 ·rw[if_neg h];exact hb
theorem zoT(R:Rl)(x:Ac):Sane (doG R x):=by
 unfold doG aMake aFree ziE aGet aTake aSet znr aFlat zdc aHost aUp
 repeat' first|exact zoH _ _ _|exact zjr _|refine zjI ?_ ?_
theorem do_no(R:Rl)(x:Ac):Sane (doF R x):=by
 unfold doF
 exact zjI (zoT R x) (zjr _)
theorem ziN(E:Int):(bad E).r=zaR∧(bad E).o=0∧(bad E).e=E:=⟨rfl,rfl,rfl⟩
end Go.Proofs.YtojlkdekdbdpoaaGreat
