/-
  x
-/
import Derived.Test.YtojlkdekdbdpoaaGreatJCbDa
import Derived.Test.YtojlkdekdbdpoaaGreatJDbDcDwhDe
import Derived.Test.YtojlkdekdbdpoaaGreatJDfRaRbRh
namespace Go.Proofs.YtojlkdekdbdpoaaGreat
set_option maxRecDepth 100000
set_option maxHeartbeats 4000000
open Go.RowKit
theorem zkd(x a b:Int)(w:World) :
  Calls Tryz.prog 29 #[.int .i64 x,.int .i64 a,.int .i64 b] w fun e w' => e=.returned (.bool (decide (a≤x∧x≤b)))∧w' = w:=by
 by_cases h1:a≤x
 ·by_cases h2:x≤b
  ·rw[decide_eq_true ⟨h1,h2⟩]
   go_enter Tryz.func29,Tryz.ntmps29
   go_wp2
   go_ret
   exact⟨rfl,rfl⟩
  ·rw[decide_eq_false (fun h=>h2 h.2)]
   have h3:decide (x≤b)=false:=decide_eq_false h2
   go_enter Tryz.func29,Tryz.ntmps29
   go_wp2
   go_ret
   exact⟨rfl,rfl⟩
 ·rw[decide_eq_false (fun h=>h1 h.1)]
  have h3:decide (a≤x)=false:=decide_eq_false h1
  go_enter Tryz.func29,Tryz.ntmps29
  go_wp2
  go_ret
  exact⟨rfl,rfl⟩
theorem zmY(x a b:Int)(h:a≤x∧x≤b)(w:World):Calls Tryz.prog 29 #[.int .i64 x,.int .i64 a,.int .i64 b] w fun e w' => e=.returned (.bool true)∧w' = w:=by
 have:=zkd x a b w
 rwa [decide_eq_true h] at this
theorem zoK(x a b:Int)(h:¬ (a≤x∧x≤b))(w:World):Calls Tryz.prog 29 #[.int .i64 x,.int .i64 a,.int .i64 b] w fun e w' => e=.returned (.bool false)∧w' = w:=by
 have:=zkd x a b w
 rwa [decide_eq_false h] at this
theorem ziL(a:Option Addr)(c:Nat)(G:List Cl)(w:World)(hN:G.length≤9223372036854775807)(hB:BigC G)(hS:ClsAt w a G) :
  Calls Tryz.prog 18 #[.agg #[.slice a G.length c]] w fun e w' => e=.returned (.int .i64 (zbB G))∧Below w.heap.size w w' := by
 unfold zbB
 by_cases hbig:24<G.length
 ·rw[if_pos hbig]
  generalize G.length=n at *
  clear hS hB
  have hbig2:(24:Int)<(n:Int):=by omega
  go_enter Tryz.func18,Tryz.ntmps18
  go_wp2
  go_ret
  exact⟨rfl,zab _ _⟩
 ·rw[if_neg hbig]
  have HS:Hid (ClsAt w a G):=hS
  have HBG:Hid (BigC G):=hB
  have DR:Hid (∀ k,k<G.length→G.drop k=cl G k :: G.drop (k+1)):=fun k hk=>zmf hk
  have DN:Hid (G.drop G.length=[]):=List.drop_length
  have E0:Hid (cellsE G.length G=cellsE G.length (G.drop 0)):=rfl
  clear hS hB
  obtain⟨RES,hR⟩:∃ r,cellsE G.length G=r:=⟨_,rfl⟩
  rw[hR] at E0 ⊢
  clear hR
  obtain⟨n,hn⟩:∃ n,G.length=n:=⟨_,rfl⟩
  have HN:Hid (G.length=n):=hn
  rw[hn] at hN hbig DR DN E0 ⊢
  clear hn
  have hbig2:¬ (24:Int)<(n:Int):=by omega
  obtain⟨Q,hQ⟩:∃ Q,(n:Int)-1=Q:=⟨_,rfl⟩
  have hQ1:-1≤Q∧Q≤23:=by omega
  have hwr:IntKind.i64.wrap ((n:Int)-1)=Q:=by rw[hQ];have:=hQ1;unfold IntKind.wrap;simp[IntKind.bits,IntKind.signed];omega
  have HQ:Hid ((n:Int)-1=Q):=hQ
  clear hQ hQ1
  go_enter Tryz.func18,Tryz.ntmps18
  go_wp2_with fail
  go_loopg [14] n (fun g s14 wr=>∃ k:Nat,k≤n∧n-k≤g∧s14=.int .i64 k∧Hid (Below w.heap.size w wr)∧wr.cell? ⟨w.heap.size,0,none⟩=some (.slice a n c)∧Hid (RES=cellsE n (G.drop k)))
  case atStart=>exact⟨0,by omega,by omega,rfl,zab _ _,by go_simp,E0⟩
  case round =>
   obtain⟨k,hk,hg,rfl,HB,lb,A⟩:=hrel
   have hlb:=World.block_lt_of_cell? _ _ lb
   by_cases hlt:k<n
   ·have hlt2:(k:Int)<(n:Int):=by omega
    obtain⟨b,o,rfl,c0,ka,kc,c1,hks⟩:=(HS.out.below HB.out) k (by rw[HN.out];exact hlt)
    have KS:Hid (zah wr ka (cl G k).ks):=hks
    have EQ:Hid (RES=if cellE n (cl G k)=0 then cellsE n (G.drop (k+1)) else cellE n (cl G k)):=by
     show _=_
     rw[A.out,DR.out k hlt]
     rfl
    have kbig:=HBG.out k (by rw[HN.out];exact hlt)
    clear hks A
    generalize cl G k=x at *
    obtain⟨xn,xks⟩:=x
    dsimp only at c0 c1 KS kbig
    have lb1:=keepC lb (zab wr (.cells #[.int .i64 xn,.slice ka xks.length kc] 73))
    have HB1:Hid (∀ o1,Below w.heap.size w (wr.alloc o1)):=fun o1=>HB.out.trans ((zab _ _).mono HB.out.size)
    by_cases h1:xn < -1000000∨1000000<xn
    ·have hE:cellE n ⟨xn,xks⟩=2:=by unfold cellE;rw[if_pos h1]
     have EQ2:Hid (RES=2):=by show _=_;rw[EQ.out,hE];rfl
     have IN:Hid _:=fun W=>zoK xn (-1000000) 1000000 (by omega) W
     clear EQ hE h1
     generalize xks.length=l at *
     go_wp2_with fail
     refine Calls.mono (IN.out _) ?_
     rintro e w1 ⟨rfl,hw⟩
     subst hw
     go_wp2_with fail
     go_ret
     exact⟨by rw[EQ2.out];rfl,HB1.out _⟩
    ·have IN:Hid _:=fun W=>zmY xn (-1000000) 1000000 (by omega) W
     by_cases h2:8<xks.length
     ·have hE:cellE n ⟨xn,xks⟩=1:=by unfold cellE;rw[if_neg h1,if_pos h2]
      have EQ2:Hid (RES=1):=by show _=_;rw[EQ.out,hE];rfl
      clear EQ hE h1
      generalize xks.length=l at *
      have h3:(8:Int)<(l:Int):=by omega
      go_wp2_with fail
      refine Calls.mono (IN.out _) ?_
      rintro e w1 ⟨rfl,hw⟩
      subst hw
      go_wp2_with fail
      go_ret
      exact⟨by rw[EQ2.out];rfl,HB1.out _⟩
     ·have EQ4:Hid ((∃ i,i<xks.length∧¬ (0≤xks.getD i 0∧xks.getD i 0≤Q))→RES=4):=fun⟨i,hi,hno⟩=>by
       have hE:cellE n ⟨xn,xks⟩=4:=by
        unfold cellE
        rw[if_neg h1,if_neg h2,if_pos]
        rw[List.any_eq_true]
        refine⟨xks.getD i 0,by rw[zad _ _ hi];exact List.getElem_mem hi,?_⟩
        rw[decide_eq_false (by rw[HQ.out];exact hno)]
        rfl
       rw[EQ.out,hE];rfl
      have EQ0:Hid ((∀ i,i<xks.length→(0≤xks.getD i 0∧xks.getD i 0≤Q))→RES=cellsE n (G.drop (k+1))):=fun hall=>by
       have hE:cellE n ⟨xn,xks⟩=0:=by
        unfold cellE
        rw[if_neg h1,if_neg h2,if_neg]
        rw[List.any_eq_true]
        rintro⟨y,hy,h5⟩
        obtain⟨i,hi,rfl⟩:=List.getElem_of_mem hy
        have h6:=hall i hi
        rw[zad _ _ hi] at h6
        rw[decide_eq_true (by rw[HQ.out];exact h6)] at h5
        cases h5
       rw[EQ.out,hE,if_pos rfl]
      clear EQ h1
      obtain⟨l,hl⟩:∃ l,xks.length=l:=⟨_,rfl⟩
      have HL:Hid (xks.length=l):=hl
      rw[hl] at c1 EQ4 EQ0 h2 kbig lb1
      clear hl
      have h3:¬ (8:Int)<(l:Int):=by omega
      have KS1:Hid (zah (wr.alloc (.cells #[.int .i64 xn,.slice ka l kc] 73)) ka xks):=KS.out.below (zab _ _)
      go_wp2_with fail
      refine Calls.mono (IN.out _) ?_
      rintro e w1 ⟨rfl,hw⟩
      have hw2:=hw.symm
      clear hw IN
      obtain⟨W1,hW1⟩:∃ W1,wr.alloc (.cells #[.int .i64 xn,.slice ka l kc] 73)=W1:=⟨_,rfl⟩
      have HBW1:Hid (Below w.heap.size w W1):=by rw[← hW1];exact HB1.out _
      have c1' : W1.cell? ⟨wr.heap.size,1,none⟩=some (.slice ka l kc):=by rw[← hW1];exact zac wr _ _ 1 rfl
      rw[hW1] at KS1 lb1 hw2
      subst hw2
      clear HB1
      go_wp2_with fail
      go_loopg [29] l (fun g s29 w5=>∃ j:Nat,j≤l∧l-j≤g∧s29=.int .i64 j∧w5=W1∧Hid (∀ i,i<j→(0≤xks.getD i 0∧xks.getD i 0≤Q)))
      case atStart=>exact⟨0,by omega,by omega,rfl,rfl,fun i hi=>absurd hi (Nat.not_lt_zero _)⟩
      case round =>
       obtain⟨j,hj,hg2,rfl,hw,ALL⟩:=hrel
       have hw2:=hw.symm
       clear hw
       subst hw2
       by_cases hlt3:j<l
       ·have hlt4:(j:Int)<(l:Int):=by omega
        obtain⟨kb,ko,ek,hkc⟩:=KS1.out j (by rw[HL.out];exact hlt3)
        subst ek
        by_cases hok:0≤xks.getD j 0∧xks.getD j 0≤Q
        ·have IN2:Hid _:=fun W=>zmY (xks.getD j 0) 0 Q hok W
         have NX:Hid (∀ i,i<j+1→(0≤xks.getD i 0∧xks.getD i 0≤Q)):=fun i hi=>by
          by_cases e:i=j
          ·subst e;exact hok
          ·exact ALL.out i (by omega)
         clear ALL hok
         generalize xks.getD j 0=y at *
         go_wp2_with fail
         refine Calls.mono (IN2.out _) ?_
         rintro e w6 ⟨rfl,hw6⟩
         subst hw6
         go_wp2_with fail
         go_roundg (l-(j+1))
         case measure=>omega
         case rel=>exact⟨j+1,by omega,by omega,by go_num,rfl,NX⟩
        ·have IN2:Hid _:=fun W=>zoK (xks.getD j 0) 0 Q hok W
         have EQ2:Hid (RES=4):=EQ4.out ⟨j,hlt3,hok⟩
         clear ALL hok EQ4 EQ0
         generalize xks.getD j 0=y at *
         go_wp2_with fail
         refine Calls.mono (IN2.out _) ?_
         rintro e w6 ⟨rfl,hw6⟩
         subst hw6
         go_wp2_with fail
         go_ret
         exact⟨by rw[EQ2.out];rfl,HBW1.out⟩
       ·have hje:l=j:=by omega
        subst hje
        have EQ2:Hid (RES=cellsE n (G.drop (k+1))):=EQ0.out ALL.out
        clear ALL EQ4 EQ0
        go_wp2_with fail
        go_roundg (n-(k+1))
        case measure=>omega
        case rel=>exact⟨k+1,by omega,by omega,by go_num,HBW1,lb1,EQ2⟩
   ·have:n=k:=by omega
    subst this
    have EQ2:Hid (RES=0):=by show _=_;rw[A.out,DN.out];rfl
    clear A
    go_wp2_with fail
    go_ret
    exact⟨by rw[EQ2.out];rfl,HB.out⟩
end Go.Proofs.YtojlkdekdbdpoaaGreat

namespace Go.Proofs.YtojlkdekdbdpoaaGreat
set_option maxRecDepth 100000
set_option maxHeartbeats 4000000
open Go.RowKit
set_option linter.unusedVariables false
def zbH:Prop:=∀ (S:List Nd),S.length≤9223372036854775807→Big S→∀ a c,RChk a c S
theorem zbH.wf(h:zbH){S:List Nd}(wf:WF S)(a:Option Addr)(c:Nat):RChk a c S:=h S (by have:=wf.small;omega) wf.big a c
theorem zba(E:Int)(w:World) :
  Calls Tryz.prog 28 #[.int .i64 E] w fun e w' => e=.returned (.tuple #[.agg #[.slice none 0 0,.slice none 0 0,.slice none 0 0,.slice none 0 0],.int .i64 0,.int .i64 E])∧Below w.heap.size w w' := by
 go_enter Tryz.func28,Tryz.ntmps28
 go_wp2_with fail
 refine bodyPost_ret (v:=.tuple #[.agg #[.slice none 0 0,.slice none 0 0,.slice none 0 0,.slice none 0 0],.int .i64 0,.int .i64 E]) (by simp[results,Tryz.results28,go_sem]) rfl ⟨rfl,?_⟩
 exact zab _ _
theorem ziT(hK:zbH)(A:RA)(R:Rl)(w:World)(hB:BigR R)(hL:RlAt w A R) :
  Calls Tryz.prog 6 #[rlV A R] w fun e w' => e=.returned (.int .i64 (zay R))∧Below w.heap.size w w' := by
 obtain⟨a0,a1,a2,a3,c0,c1,c2,c3⟩:=A
 have D1:Hid (∀ W,NdsAt W a0 R.s→Calls Tryz.prog 17 #[.agg #[.slice a0 R.s.length c0]] W fun e w' => e=.returned (.int .i64 (zaA R.s))∧Below W.heap.size W w'):=hK R.s hB.1 hB.2.1 a0 c0
 have D2:Hid (∀ W,ClsAt W a2 R.i→_):=fun W hW=>ziL a2 c2 R.i W hB.2.2.2.1 hB.2.2.2.2.1 hW
 have HL:Hid (RlAt w ⟨a0,a1,a2,a3,c0,c1,c2,c3⟩ R):=hL
 unfold zay
 dsimp only[rlV]
 clear hK hL hB
 by_cases h1:zaA R.s=0
 ·rw[if_pos h1]
  rw[h1] at D1
  by_cases h2:R.hs.length=16
  ·rw[if_pos h2,h2]
   by_cases h3:zbB R.i=0
   ·rw[if_pos h3]
    rw[h3] at D2
    by_cases h4:4800<R.t.length
    ·rw[if_pos h4]
     have g1:decide ((4800:Int)<(R.t.length:Int))=true:=decide_eq_true (by omega)
     clear h1 h2 h3
     generalize R.t.length=n3 at *
     generalize R.s.length=n0 at *
     generalize R.i.length=n2 at *
     go_enter Tryz.func6,Tryz.ntmps6
     go_wp2_with fail
     refine Calls.mono (D1.out _ (HL.out.1.below (zab _ _))) ?_
     rintro e w1 ⟨rfl,hb⟩
     have HB1:Hid (Below w.heap.size w w1):=(zab w _).trans (hb.mono (by simp))
     obtain⟨l0,l1,l2,l3,fz,lt⟩:=zaa ((hb.block _ (by simp)).trans (zbE _ _ _ _ _ _))
     clear hb
     go_wp2_with fail
     refine Calls.mono (D2.out _ (HL.out.2.2.1.below HB1.out)) ?_
     rintro e w2 ⟨rfl,hb⟩
     have HB2:Hid (Below w.heap.size w w2):=HB1.out.trans (hb.mono HB1.out.size)
     have k3:=keepC l3 hb
     clear hb l0 l1 l2 l3 fz lt
     go_wp2_with fail
     go_ret
     exact⟨rfl,HB2.out⟩
    ·rw[if_neg h4]
     have g1:decide ((4800:Int)<(R.t.length:Int))=false:=decide_eq_false (by omega)
     clear h1 h2 h3
     generalize R.t.length=n3 at *
     generalize R.s.length=n0 at *
     generalize R.i.length=n2 at *
     go_enter Tryz.func6,Tryz.ntmps6
     go_wp2_with fail
     refine Calls.mono (D1.out _ (HL.out.1.below (zab _ _))) ?_
     rintro e w1 ⟨rfl,hb⟩
     have HB1:Hid (Below w.heap.size w w1):=(zab w _).trans (hb.mono (by simp))
     obtain⟨l0,l1,l2,l3,fz,lt⟩:=zaa ((hb.block _ (by simp)).trans (zbE _ _ _ _ _ _))
     clear hb
     go_wp2_with fail
     refine Calls.mono (D2.out _ (HL.out.2.2.1.below HB1.out)) ?_
     rintro e w2 ⟨rfl,hb⟩
     have HB2:Hid (Below w.heap.size w w2):=HB1.out.trans (hb.mono HB1.out.size)
     have k3:=keepC l3 hb
     clear hb l0 l1 l2 l3 fz lt
     go_wp2_with fail
     go_ret
     exact⟨rfl,HB2.out⟩
   ·rw[if_neg h3]
    have g1:decide (zbB R.i=0)=false:=decide_eq_false h3
    have g2:(zbB R.i == 0)=false:=beq_eq_false_iff_ne.2 h3
    clear h1 h2 h3
    generalize zbB R.i=E at *
    generalize R.t.length=n3 at *
    generalize R.s.length=n0 at *
    generalize R.i.length=n2 at *
    go_enter Tryz.func6,Tryz.ntmps6
    go_wp2_with fail
    refine Calls.mono (D1.out _ (HL.out.1.below (zab _ _))) ?_
    rintro e w1 ⟨rfl,hb⟩
    have HB1:Hid (Below w.heap.size w w1):=(zab w _).trans (hb.mono (by simp))
    obtain⟨l0,l1,l2,l3,fz,lt⟩:=zaa ((hb.block _ (by simp)).trans (zbE _ _ _ _ _ _))
    clear hb
    go_wp2_with fail
    refine Calls.mono (D2.out _ (HL.out.2.2.1.below HB1.out)) ?_
    rintro e w2 ⟨rfl,hb⟩
    have HB2:Hid (Below w.heap.size w w2):=HB1.out.trans (hb.mono HB1.out.size)
    have k3:=keepC l3 hb
    clear hb l0 l1 l2 l3 fz lt
    go_wp2_with fail
    go_ret
    exact⟨rfl,HB2.out⟩
  ·rw[if_neg h2]
   have g1:decide ((R.hs.length:Int)=16)=false:=decide_eq_false (by omega)
   have g2:((R.hs.length:Int) == 16)=false:=beq_eq_false_iff_ne.2 (by omega)
   have g3:((R.hs.length:Int) != 16)=true:=by simp;omega
   clear h1
   generalize R.t.length=n3 at *
   generalize R.hs.length=n1 at *
   generalize R.s.length=n0 at *
   generalize R.i.length=n2 at *
   go_enter Tryz.func6,Tryz.ntmps6
   go_wp2_with fail
   refine Calls.mono (D1.out _ (HL.out.1.below (zab _ _))) ?_
   rintro e w1 ⟨rfl,hb⟩
   have HB1:Hid (Below w.heap.size w w1):=(zab w _).trans (hb.mono (by simp))
   obtain⟨l0,l1,l2,l3,fz,lt⟩:=zaa ((hb.block _ (by simp)).trans (zbE _ _ _ _ _ _))
   clear hb
   go_wp2_with fail
   go_ret
   exact⟨rfl,HB1.out⟩
 ·rw[if_neg h1]
  have g1:decide (zaA R.s=0)=false:=decide_eq_false h1
  have g2:(zaA R.s == 0)=false:=beq_eq_false_iff_ne.2 h1
  clear h1
  generalize zaA R.s=E at *
  generalize R.t.length=n3 at *
  generalize R.hs.length=n1 at *
  generalize R.s.length=n0 at *
  generalize R.i.length=n2 at *
  go_enter Tryz.func6,Tryz.ntmps6
  go_wp2_with fail
  refine Calls.mono (D1.out _ (HL.out.1.below (zab _ _))) ?_
  rintro e w1 ⟨rfl,hb⟩
  have HB1:Hid (Below w.heap.size w w1):=(zab w _).trans (hb.mono (by simp))
  obtain⟨l0,l1,l2,l3,fz,lt⟩:=zaa ((hb.block _ (by simp)).trans (zbE _ _ _ _ _ _))
  clear hb
  go_wp2_with fail
  go_ret
  exact⟨rfl,HB1.out⟩
def hcells(L:List (Int × Int)):List Value:=L.flatMap fun h=>[.int .i64 h.1,.int .i64 h.2]
theorem zgs(L:List (Int × Int)):(hcells L).length=L.length*2:=by
 unfold hcells
 induction L with
 | nil=>rfl
 | cons x r ih=>rw[List.flatMap_cons,List.length_append,ih];simp;omega
theorem zbj(L:List (Int × Int))(i:Nat)(hi:i<L.length):(hcells L)[i*2]?=some (.int .i64 (L.getD i (0,0)).1)∧(hcells L)[i*2+1]?=some (.int .i64 (L.getD i (0,0)).2):=by
 unfold hcells
 induction L generalizing i with
 | nil=>exact absurd hi (Nat.not_lt_zero _)
 | cons x r ih =>
  rw[List.flatMap_cons]
  match i,hi with
  | 0,_=>exact⟨rfl,rfl⟩
  | i+1,hi =>
   have h:=ih i (by simpa using hi)
   have e1:(i+1)*2=i*2+1+1:=by omega
   rw[e1]
   exact h
theorem zkr(L:List (Int × Int)):∀ u ∈ hcells L,u.oneCell' = true:=fun u hu=>by
 unfold hcells at hu
 rw[List.mem_flatMap] at hu
 obtain⟨x,_,hx⟩:=hu
 simp at hx
 rcases hx with rfl|rfl <;> rfl
theorem zlJ{w:World}{b o:Nat}{L:List (Int × Int)}(h:zak w (some ⟨b,o,none⟩) L):∀ j u,(hcells L)[j]?=some u→w.cell? ((⟨b,o,none⟩:Addr).add j)=some u:=fun j u hj=>by
 have hl:j<L.length*2:=by
  rw[← zgs]
  exact(List.getElem?_eq_some_iff.1 hj).1
 obtain⟨b', o', e,h1,h2⟩:=h (j / 2) (by omega)
 cases e
 obtain⟨g1,g2⟩:=zbj L (j / 2) (by omega)
 rw[Addr.add_lit]
 by_cases e2:j % 2=0
 ·have e3:j / 2*2=j:=by omega
  rw[e3] at h1 g1
  rw[g1] at hj
  cases hj
  exact h1
 ·have e3:j / 2*2+1=j:=by omega
  have e4:o+j / 2*2+1=o+j:=by omega
  rw[e4] at h2
  rw[e3] at g2
  rw[g2] at hj
  cases hj
  exact h2
theorem zpK(V:World):(V.alloc (.cells #[] 60)).ownsRow V.heap.size 60 2 (.slice (some ⟨V.heap.size,0,none⟩) 0 0) 0 []:=⟨by simp,Or.inr ⟨V.heap.size,0,#[],rfl,Nat.le_refl _,heap_alloc_new V _,by omega,by unfold maxLen;omega,by simp,by simp⟩⟩
theorem zpI(V:World):(V.alloc (.cells #[] 3)).ownsRow V.heap.size 3 1 (.slice (some ⟨V.heap.size,0,none⟩) 0 0) 0 []:=⟨by simp,Or.inr ⟨V.heap.size,0,#[],rfl,Nat.le_refl _,heap_alloc_new V _,by omega,by unfold maxLen;omega,by simp,by simp⟩⟩
end Go.Proofs.YtojlkdekdbdpoaaGreat

namespace Go.Proofs.YtojlkdekdbdpoaaGreat
set_option maxRecDepth 100000
set_option maxHeartbeats 4000000
open Go.RowKit
set_option linter.unusedVariables false
theorem zdo{w:World}{B t s n:Nat}{v:Value}{xs:List Value}(h:w.ownsRow B t s v n xs):∃ a c,v=.slice a n c∧∀ x:Addr,a=some x→∃ g,x=⟨g,0,none⟩:=by
 rcases h.2 with ⟨rfl,h0⟩ |⟨g,cap,cur,rfl,_⟩
 ·exact⟨none,0,by rw[h0],fun x hx=>by cases hx⟩
 ·exact⟨some ⟨g,0,none⟩,cap,rfl,fun x hx=>by cases hx;exact⟨g,rfl⟩⟩
theorem zbM(a0 a1 a2 a3:Option Addr)(c0 c1 c2 c3:Nat)(R:Rl)(w:World)(hR:zay R=0)(hL:RlAt w ⟨a0,a1,a2,a3,c0,c1,c2,c3⟩ R) :
  Calls Tryz.prog 30 #[.agg #[.slice a0 R.s.length c0,.slice a1 R.hs.length c1,.slice a2 R.i.length c2,.slice a3 R.t.length c3]] w fun e w' => ∃ (v0:Value) (K:Nat→Value) (v1 v3:Value),e=.returned (.agg #[v0,v1,.slice a2 R.i.length c2,v3])∧Below w.heap.size w w' ∧ OwnK (w.heap.size+1+1) R.s R.s.length K v0 w' ∧ w'.ownsRow (w.heap.size+1+1) 60 2 v1 16 (hcells R.hs)∧w'.ownsRow (w.heap.size+1+1) 3 1 v3 R.t.length (R.t.map (Value.int .i64)):=by
 obtain⟨wf,h16,_,ht⟩:=zau hR
 have sm:=wf.small
 have D1:Hid (∀ W,NdsAt W a0 R.s→_):=fun W hW=>zdS a0 c0 R.s W (by omega) (fun i hi=>by have:=zbb wf i hi;omega) hW
 obtain⟨hb0,ho0,ea1,_⟩:=hL.2.1 0 (by omega)
 dsimp only at ea1
 subst ea1
 have HL:Hid (RlAt w ⟨a0,some ⟨hb0,ho0,none⟩,a2,a3,c0,c1,c2,c3⟩ R):=hL
 have SRC:Hid (∀ W,Below w.heap.size w W→∀ j u,(hcells R.hs)[j]?=some u→W.cell? ((⟨hb0,ho0,none⟩:Addr).add j)=some u):=fun W hW=>zlJ (hL.2.1.below hW)
 have INT:Hid (∀ W,Below w.heap.size w W→zah W a3 R.t):=fun W hW=>hL.2.2.2.below hW
 have LEN:Hid ((hcells R.hs).length=16*2):=by show _=_;rw[zgs,h16]
 have ONE:Hid (∀ u ∈ hcells R.hs,u.oneCell' = true):=zkr _
 obtain⟨i0,hi0,hz0,hz1,hz2⟩:=info_parts zet
 rw[h16]
 clear hL wf hR h16
 obtain⟨nt,hnt⟩:∃ n,R.t.length=n:=⟨_,rfl⟩
 have HNT:Hid (R.t.length=nt):=hnt
 rw[hnt] at ht ⊢
 clear hnt
 generalize hcells R.hs=hcs at *
 generalize R.i.length=ni at *
 go_enter Tryz.func30,Tryz.ntmps30
 go_wp2_with fail
 refine Calls.mono (D1.out _ (HL.out.1.below (zaf _ _ _))) ?_
 rintro e w1 ⟨v0,K,rfl,hb,hO⟩
 obtain⟨s0,k0,rfl,_⟩:=hO.nds
 have HB1:Hid (Below w.heap.size w w1):=(zaf w _ _).trans (hb.mono (by simp;omega))
 have HO1:Hid (OwnK (w.heap.size+1+1) R.s R.s.length K (.slice s0 R.s.length k0) w1):=(by simpa using hO:OwnK (w.heap.size+1+1) R.s R.s.length K (.slice s0 R.s.length k0) w1)
 have BXR:Hid (w1.heap[w.heap.size]?=some (.cells #[.slice a0 R.s.length c0,.slice (some ⟨hb0,ho0,none⟩) 16 c1,.slice a2 ni c2,.slice a3 nt c3] 31 (0,0))):=(hb.block _ (by simp;omega)).trans (by simpa using ((zab (w.alloc (.cells #[.slice a0 R.s.length c0,.slice (some ⟨hb0,ho0,none⟩) 16 c1,.slice a2 ni c2,.slice a3 nt c3] 31)) (.cells #[.slice none 0 0,.slice none 0 0,.slice none 0 0,.slice none 0 0] 31)).block w.heap.size (by simp)).trans (heap_alloc_new w _))
 have BXZ:Hid (w1.heap[w.heap.size+1]?=some (.cells #[.slice none 0 0,.slice none 0 0,.slice none 0 0,.slice none 0 0] 31 (0,0))):=(hb.block _ (by simp)).trans (by simpa using heap_alloc_new (w.alloc (.cells #[.slice a0 R.s.length c0,.slice (some ⟨hb0,ho0,none⟩) 16 c1,.slice a2 ni c2,.slice a3 nt c3] 31)) (.cells #[.slice none 0 0,.slice none 0 0,.slice none 0 0,.slice none 0 0] 31))
 clear hb hO D1
 obtain⟨l0,l1,l2,l3,fl,ll⟩:=zaa BXR.out
 obtain⟨z0,z1,z2,z3,fz,lz⟩:=zaa BXZ.out
 have hb1:0+16≤maxLen:=by unfold maxLen;omega
 have hb2:(0+16)*16≤140737488355328:=by omega
 have V1B:Hid (Below w.heap.size w ((w1.setCell ⟨w.heap.size,0,none⟩ (.slice s0 R.s.length k0)).alloc (.cells #[] 60))):=(HB1.out.setCell (Nat.le_refl _) _).trans ((zab _ _).mono (by simpa using HB1.out.size))
 have OWH:Hid (((w1.setCell ⟨w.heap.size,0,none⟩ (.slice s0 R.s.length k0)).alloc (.cells #[] 60)).ownsRow w1.heap.size 60 2 (.slice (some ⟨w1.heap.size,0,none⟩) 0 0) 0 []):=(by have:=zpK (w1.setCell ⟨w.heap.size,0,none⟩ (.slice s0 R.s.length k0));simpa using this:World.ownsRow _ _ _ _ _ _ _)
 go_wp2_with (at_builtin;refine wpList_append_own _ rfl (.tmp 7) (.tmp 9) 25 rfl w1.heap.size 60 i0 (.agg #[.int .i64 0,.int .i64 0]) 2 16 Tryz.underlying25 hi0 hz0 hz1 hz2 rfl (by decide) (.slice (some ⟨w1.heap.size,0,none⟩) 0 0) 0 [] rfl OWH.out ⟨hb0,ho0,none⟩ 16 c1 hcs rfl LEN.out ?c1 ONE.out hb1 hb2 ?c5 ?_)
 case c1=>exact SRC.out _ V1B.out
 case c5=>simp
 intro v1 w2 own2 grow2 _
 have hw1:w.heap.size+1<w1.heap.size:=lz
 have hne0:w.heap.size≠w1.heap.size:=by omega
 have hne1:w.heap.size+1≠w1.heap.size:=by omega
 have gb:∀ b,b<w1.heap.size→b≠w.heap.size→w2.heap[b]?=w1.heap[b]?:=fun b hb hne=>(grow2.block b (by simp;omega) (fun e=>by have e2:b=w1.heap.size:=Option.some.inj e;omega)).trans (((zab _ _).block b (by simpa using hb)).trans (Below.heap_setCell _ _ _ _ hne))
 have HB2:Hid (Below w.heap.size w w2):=V1B.out.grown grow2 (by simp;omega) (fun kk hk=>by cases hk;exact HB1.out.size)
 have BXR2:Hid (w2.heap[w.heap.size]?=some (.cells #[.slice s0 R.s.length k0,.slice (some ⟨hb0,ho0,none⟩) 16 c1,.slice a2 ni c2,.slice a3 nt c3] 31 (0,0))):=(grow2.block _ (by simp;omega) (fun e=>hne0 (Option.some.inj e))).trans (((zab _ _).block _ (by simpa using ll)).trans (zbn (i:=0) BXR.out))
 have BXZ2:Hid (w2.heap[w.heap.size+1]?=some (.cells #[.slice none 0 0,.slice none 0 0,.slice none 0 0,.slice none 0 0] 31 (0,0))):=(gb _ lz (by omega)).trans BXZ.out
 have HO2:Hid (OwnK (w.heap.size+1+1) R.s R.s.length K (.slice s0 R.s.length k0) w2):=HO1.out.other (fun b hb hlt=>gb b hlt (by omega))
 have OW1:Hid (w2.ownsRow w1.heap.size 60 2 v1 16 hcs):=(by first|exact own2|simpa using own2:World.ownsRow _ _ _ _ _ _ _)
 have hsz2:w1.heap.size<w2.heap.size:=by have:=grow2.size;simp at this;omega
 obtain⟨h0', k1,rfl,_⟩:=zdo OW1.out
 clear own2 grow2 l0 l1 l2 l3 fl ll z0 z1 z2 z3 fz lz BXR BXZ HO1 V1B OWH gb
 obtain⟨l0,l1,l2,l3,fl,ll⟩:=zaa BXR2.out
 obtain⟨z0,z1,z2,z3,fz,lz⟩:=zaa BXZ2.out
 have hb3:0+nt≤maxLen:=by unfold maxLen;omega
 have hb4:(0+nt)*8≤140737488355328:=by omega
 have V2B:Hid (Below w.heap.size w ((w2.setCell ⟨w.heap.size,1,none⟩ (.slice h0' 16 k1)).alloc (.cells #[] 3))):=(HB2.out.setCell (Nat.le_refl _) _).trans ((zab _ _).mono (by simpa using HB2.out.size))
 have OWI:Hid (((w2.setCell ⟨w.heap.size,1,none⟩ (.slice h0' 16 k1)).alloc (.cells #[] 3)).ownsRow w2.heap.size 3 1 (.slice (some ⟨w2.heap.size,0,none⟩) 0 0) 0 []):=(by have:=zpI (w2.setCell ⟨w.heap.size,1,none⟩ (.slice h0' 16 k1));simpa using this:World.ownsRow _ _ _ _ _ _ _)
 go_wp2_with (at_builtin;refine zbU rfl (.tmp 12) (.tmp 14) rfl w2.heap.size (.slice (some ⟨w2.heap.size,0,none⟩) 0 0) 0 [] rfl OWI.out a3 nt c3 R.t rfl HNT.out (INT.out _ V2B.out) hb3 hb4 ?d5 ?_)
 case d5=>simp
 intro v3 w3 own3 grow3 _
 have gb:∀ b,b<w2.heap.size→b≠w.heap.size→w3.heap[b]?=w2.heap[b]?:=fun b hb hne=>(grow3.block b (by simp;omega) (fun e=>by have e2:b=w2.heap.size:=Option.some.inj e;omega)).trans (((zab _ _).block b (by simpa using hb)).trans (Below.heap_setCell _ _ _ _ hne))
 have HB3:Hid (Below w.heap.size w w3):=V2B.out.grown grow3 (by simp;omega) (fun kk hk=>by cases hk;exact HB2.out.size)
 have BXR3:Hid (w3.heap[w.heap.size]?=some (.cells #[.slice s0 R.s.length k0,.slice h0' 16 k1,.slice a2 ni c2,.slice a3 nt c3] 31 (0,0))):=(grow3.block _ (by simp;omega) (fun e=>by have e2:w.heap.size=w2.heap.size:=Option.some.inj e;omega)).trans (((zab _ _).block _ (by simpa using ll)).trans (zbn (i:=1) BXR2.out))
 have BXZ3:Hid (w3.heap[w.heap.size+1]?=some (.cells #[.slice none 0 0,.slice none 0 0,.slice none 0 0,.slice none 0 0] 31 (0,0))):=(gb _ lz (by omega)).trans BXZ2.out
 have HO3:Hid (OwnK (w.heap.size+1+1) R.s R.s.length K (.slice s0 R.s.length k0) w3):=HO2.out.other (fun b hb hlt=>gb b hlt (by omega))
 have OW3:Hid (w3.ownsRow w1.heap.size 60 2 (.slice h0' 16 k1) 16 hcs):=zam OW1.out (fun b hk=>gb b (OW1.out.lt b hk).2 (by have:=(OW1.out.lt b hk).1;omega))
 have OT3:Hid (w3.ownsRow w2.heap.size 3 1 v3 nt (R.t.map (Value.int .i64))):=(by first|exact own3|simpa using own3:World.ownsRow _ _ _ _ _ _ _)
 have hsz3:w2.heap.size<w3.heap.size:=by have:=grow3.size;simp at this;omega
 obtain⟨t0,k3,rfl,_⟩:=zdo OT3.out
 clear own3 grow3 l0 l1 l2 l3 fl ll z0 z1 z2 z3 fz lz BXR2 BXZ2 HO2 V2B OWI gb OW1
 obtain⟨l0,l1,l2,l3,fl,ll⟩:=zaa BXR3.out
 obtain⟨z0,z1,z2,z3,fz,lz⟩:=zaa BXZ3.out
 go_wp2_with fail
 obtain⟨W9,hW9⟩:∃ W9,W9=(((((w3.setCell ⟨w.heap.size,3,none⟩ (.slice t0 nt k3)).setCell ⟨w.heap.size+1,0,none⟩ (.slice s0 R.s.length k0)).setCell ⟨w.heap.size+1,1,none⟩ (.slice h0' 16 k1)).setCell ⟨w.heap.size+1,2,none⟩ (.slice a2 ni c2)).setCell ⟨w.heap.size+1,3,none⟩ (.slice t0 nt k3)):=⟨_,rfl⟩
 rw[← hW9]
 have gz:∀ b,b≠w.heap.size→b≠w.heap.size+1→W9.heap[b]?=w3.heap[b]?:=fun b h1 h2=>by rw[hW9,Below.heap_setCell _ _ _ _ h2,Below.heap_setCell _ _ _ _ h2,Below.heap_setCell _ _ _ _ h2,Below.heap_setCell _ _ _ _ h2,Below.heap_setCell _ _ _ _ h1]
 have BZ9:W9.heap[w.heap.size+1]?=some (.cells #[.slice s0 R.s.length k0,.slice h0' 16 k1,.slice a2 ni c2,.slice t0 nt k3] 31 (0,0)):=by
  rw[hW9]
  exact zbc ((Below.heap_setCell _ _ _ _ (by show w.heap.size+1≠w.heap.size;omega)).trans BXZ3.out)
 have HB9:Hid (Below w.heap.size w W9):=(by rw[hW9];exact((((HB3.out.setCell (Nat.le_refl _) _).setCell (by simp) _).setCell (by simp) _).setCell (by simp) _).setCell (by simp) _:Below w.heap.size w W9)
 have HO9:Hid (OwnK (w.heap.size+1+1) R.s R.s.length K (.slice s0 R.s.length k0) W9):=HO3.out.other (fun b hb hlt=>gz b (by omega) (by omega))
 have OW9:Hid (W9.ownsRow (w.heap.size+1+1) 60 2 (.slice h0' 16 k1) 16 hcs):=zas (zam OW3.out (fun b hk=>gz b (by have:=(OW3.out.lt b hk).1;omega) (by have:=(OW3.out.lt b hk).1;omega))) (by omega)
 have OT9:Hid (W9.ownsRow (w.heap.size+1+1) 3 1 (.slice t0 nt k3) nt (R.t.map (Value.int .i64))):=zas (zam OT3.out (fun b hk=>gz b (by have:=(OT3.out.lt b hk).1;omega) (by have:=(OT3.out.lt b hk).1;omega))) (by omega)
 clear l0 l1 l2 l3 fl ll z0 z1 z2 z3 fz lz gz hW9
 obtain⟨z0,z1,z2,z3,fz,lz⟩:=zaa BZ9
 exact bodyPost_ret (v:=.agg #[.slice s0 R.s.length k0,.slice h0' 16 k1,.slice a2 ni c2,.slice t0 nt k3]) (by simp[results,Tryz.results30,go_sem,z0,z1,z2,z3]) rfl ⟨_,K,_,_,rfl,HB9.out,HO9.out,OW9.out,OT9.out⟩
end Go.Proofs.YtojlkdekdbdpoaaGreat

namespace Go.Proofs.YtojlkdekdbdpoaaGreat
set_option maxRecDepth 100000
set_option maxHeartbeats 4000000
open Go.RowKit
set_option linter.unusedVariables false
theorem zbW(x:Int)(w:World)(h:0≤x∧x≤15):Calls Tryz.prog 29 #[.int .i64 x,.int .i64 0,.int .i64 15] w fun e w' => e=.returned (.bool true)∧w' = w:=by
 have:=zbC x 0 15 w
 rwa [decide_eq_true h] at this
theorem zjM(x:Int)(w:World)(h:¬ (0≤x∧x≤15)):Calls Tryz.prog 29 #[.int .i64 x,.int .i64 0,.int .i64 15] w fun e w' => e=.returned (.bool false)∧w' = w:=by
 have:=zbC x 0 15 w
 rwa [decide_eq_false h] at this
theorem zdI{B:Nat}{w:World}{v:Value}{L:List (Int × Int)}(h:w.ownsRow B 60 2 v L.length (hcells L)):∃ a c,v=.slice a L.length c∧zak w a L:=by
 have hc:=fun g hg=>h.cells (g:=g) hg
 rcases h.2 with ⟨rfl,h0⟩ |⟨g,cap,cur,rfl,_⟩
 ·exact⟨none,0,by rw[h0],fun i hi=>by omega⟩
 ·refine⟨some ⟨g,0,none⟩,cap,rfl,fun i hi=>⟨g,0,rfl,?_⟩⟩
  obtain⟨h1,h2⟩:=zbj L i hi
  have k1:=hc g rfl _ _ h1
  have k2:=hc g rfl _ _ h2
  rw[Addr.add_lit,Nat.zero_add] at k1 k2
  rw[Nat.zero_add]
  exact⟨k1,k2⟩
theorem zpc(a0 a1 a2 a3:Option Addr)(c0 c1 c2 c3:Nat)(R:Rl)(xk xq xr xs xn:Int)(w:World)(ha:¬ isH xq) :
  Calls Tryz.prog 12 #[.agg #[.slice a0 R.s.length c0,.slice a1 R.hs.length c1,.slice a2 R.i.length c2,.slice a3 R.t.length c3],.agg #[.int .i64 xk,.int .i64 xq,.int .i64 xr,.int .i64 xs,.int .i64 xn]] w fun e w' => e=.returned (.tuple #[.agg #[.slice none 0 0,.slice none 0 0,.slice none 0 0,.slice none 0 0],.int .i64 0,.int .i64 4])∧Below w.heap.size w w' := by
 have DI:Hid (∀ W,_):=fun W=>zjM xq W ha
 go_enter Tryz.func12,Tryz.ntmps12
 go_wp2_with fail
 refine Calls.mono (DI.out _) ?_
 rintro e w' ⟨rfl,hw⟩
 have hw2:=hw.symm
 clear hw
 subst hw2
 go_wp2_with fail
 refine Calls.mono (zba 4 _) ?_
 rintro e w1 ⟨rfl,hb⟩
 have HB1:Hid (Below w.heap.size w w1):=((zaf w _ _).trans ((zab _ _).mono (by first|(simp;done)|(simp;omega)))).trans (hb.mono (by first|(simp;done)|(simp;omega)))
 have BZ:w1.heap[w.heap.size+1+1]?=some (.cells #[.slice none 0 0,.slice none 0 0,.slice none 0 0,.slice none 0 0] 31 (0,0)):=(hb.block _ (by simp)).trans (by simpa using heap_alloc_new ((w.alloc (.cells #[.slice a0 R.s.length c0,.slice a1 R.hs.length c1,.slice a2 R.i.length c2,.slice a3 R.t.length c3] 31)).alloc (.cells #[.int .i64 xk,.int .i64 xq,.int .i64 xr,.int .i64 xs,.int .i64 xn] 33)) (.cells #[.slice none 0 0,.slice none 0 0,.slice none 0 0,.slice none 0 0] 31))
 obtain⟨z0,z1,z2,z3,fz,lz⟩:=zaa BZ
 clear hb
 go_wp2_with fail
 obtain⟨W9,hW9⟩:∃ W9,W9=((((w1.setCell ⟨w.heap.size+1+1,0,none⟩ (.slice none 0 0)).setCell ⟨w.heap.size+1+1,1,none⟩ (.slice none 0 0)).setCell ⟨w.heap.size+1+1,2,none⟩ (.slice none 0 0)).setCell ⟨w.heap.size+1+1,3,none⟩ (.slice none 0 0)):=⟨_,rfl⟩
 rw[← hW9]
 have BZ9:W9.heap[w.heap.size+1+1]?=some (.cells #[.slice none 0 0,.slice none 0 0,.slice none 0 0,.slice none 0 0] 31 (0,0)):=by
  rw[hW9]
  exact zbc BZ
 have HB9:Hid (Below w.heap.size w W9):=(by rw[hW9];exact(((HB1.out.setCell (by show w.heap.size≤w.heap.size+1+1;omega) _).setCell (by show w.heap.size≤w.heap.size+1+1;omega) _).setCell (by show w.heap.size≤w.heap.size+1+1;omega) _).setCell (by show w.heap.size≤w.heap.size+1+1;omega) _:Below w.heap.size w W9)
 clear z0 z1 z2 z3 fz lz hW9 BZ
 obtain⟨z0,z1,z2,z3,fz,lz⟩:=zaa BZ9
 exact bodyPost_ret (v:=.tuple #[.agg #[.slice none 0 0,.slice none 0 0,.slice none 0 0,.slice none 0 0],.int .i64 0,.int .i64 4]) (by simp[results,Tryz.results12,go_sem,z0,z1,z2,z3]) rfl ⟨rfl,HB9.out⟩
structure DoesI (w:World) (ab:Nat) (R:Rl) (xk xq xr xs xn h1 h2:Int) (s0:Option Addr) (k0:Nat) (K:Nat→Value) (g k1:Nat) (a2:Option Addr) (c2:Nat) (t0:Option Addr) (k3:Nat) (V:World):Prop where
 bel:Below w.heap.size w V
 r:V.heap[w.heap.size]?=some (.cells #[.slice s0 R.s.length k0,.slice (some ⟨g,0,none⟩) 16 k1,.slice a2 R.i.length c2,.slice t0 R.t.length k3] 31 (0,0))
 x:V.heap[w.heap.size+1]?=some (.cells #[.int .i64 xk,.int .i64 xq,.int .i64 xr,.int .i64 xs,.int .i64 xn] 33 (0,0))
 z:V.heap[w.heap.size+1+1]?=some (.cells #[.slice none 0 0,.slice none 0 0,.slice none 0 0,.slice none 0 0] 31 (0,0))
 a:V.heap[ab]?=some (.cells #[.int .i64 h1,.int .i64 h2] 60 (0,0))
 own:OwnK (w.heap.size+5) R.s R.s.length K (.slice s0 R.s.length k0) V
 hs:V.ownsRow (w.heap.size+5) 60 2 (.slice (some ⟨g,0,none⟩) 16 k1) 16 (hcells R.hs)
 ts:V.ownsRow (w.heap.size+5) 3 1 (.slice t0 R.t.length k3) R.t.length (R.t.map (Value.int .i64))
 i:ClsAt V a2 R.i
theorem DoesI.below{w:World}{ab:Nat}{R:Rl}{xk xq xr xs xn h1 h2:Int}{s0:Option Addr}{k0:Nat}{K:Nat→Value}{g k1:Nat}{a2:Option Addr}{c2:Nat}{t0:Option Addr}{k3:Nat}{V V' : World}(I:DoesI w ab R xk xq xr xs xn h1 h2 s0 k0 K g k1 a2 c2 t0 k3 V)(hb:Below V.heap.size V V'):DoesI w ab R xk xq xr xs xn h1 h2 s0 k0 K g k1 a2 c2 t0 k3 V' :=
 ⟨I.bel.trans (hb.mono I.bel.size),keepB I.r hb,keepB I.x hb,keepB I.z hb,keepB I.a hb,I.own.other (fun b _ hlt=>hb.block b hlt),zam I.hs (fun b hk=>hb.block b (I.hs.lt b hk).2),zam I.ts (fun b hk=>hb.block b (I.ts.lt b hk).2),I.i.below hb⟩
theorem DoesI.nds{w:World}{ab:Nat}{R:Rl}{xk xq xr xs xn h1 h2:Int}{s0:Option Addr}{k0:Nat}{K:Nat→Value}{g k1:Nat}{a2:Option Addr}{c2:Nat}{t0:Option Addr}{k3:Nat}{V:World}(I:DoesI w ab R xk xq xr xs xn h1 h2 s0 k0 K g k1 a2 c2 t0 k3 V):NdsAt V s0 R.s:=by
 obtain⟨a,c,e,h⟩:=I.own.nds
 cases e
 exact h
theorem DoesI.rl{w:World}{ab:Nat}{R:Rl}{xk xq xr xs xn h1 h2:Int}{s0:Option Addr}{k0:Nat}{K:Nat→Value}{g k1:Nat}{a2:Option Addr}{c2:Nat}{t0:Option Addr}{k3:Nat}{V:World}(I:DoesI w ab R xk xq xr xs xn h1 h2 s0 k0 K g k1 a2 c2 t0 k3 V)(h16:R.hs.length=16){a' : Option Addr}{c' : Nat}{T:List Nd}(hT:NdsAt V a' T):RlAt V ⟨a', some ⟨g,0,none⟩,a2,t0,c', k1,c2,k3⟩ ⟨T,R.hs,R.i,R.t⟩:=by
 have hh:=I.hs
 rw[← h16] at hh
 obtain⟨b,c,e,h⟩:=zdI hh
 cases e
 obtain⟨b,c,e,h2⟩:=zcb I.ts
 cases e
 exact⟨hT,h,I.i,h2⟩
theorem sl4{V:World}{b t:Nat}{f}{x0 x1 x2 x3:Option Addr}{n0 n1 n2 n3 d0 d1 d2 d3:Nat}(h:V.heap[b]?=some (.cells #[.slice x0 n0 d0,.slice x1 n1 d1,.slice x2 n2 d2,.slice x3 n3 d3] t f)):SlB V b:=zgl h ⟨_,_,_,rfl⟩ ⟨_,_,_,rfl⟩ ⟨_,_,_,rfl⟩ ⟨_,_,_,rfl⟩
end Go.Proofs.YtojlkdekdbdpoaaGreat
