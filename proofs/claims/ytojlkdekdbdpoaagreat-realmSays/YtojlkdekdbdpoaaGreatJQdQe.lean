/-
  x
-/
import Derived.Test.YtojlkdekdbdpoaaGreatJQbQc
import Derived.Test.YtojlkdekdbdpoaaGreatJVeVfVg
import Derived.Test.YtojlkdekdbdpoaaGreatJRv
namespace Go.Proofs.YtojlkdekdbdpoaaGreat
set_option maxRecDepth 100000
set_option maxHeartbeats 4000000
open Go.RowKit
theorem zhv(a:Option Addr)(c:Nat)(S:List Nd)(k:Nat)(u:Int)(w:World)(wf:WF S)(hC:RChk a c S)(hS:NdsAt w a S)(hk:k<S.length)(hE:zao S [((k:Int),u)]=0) :
  Calls Tryz.prog 75 #[.agg #[.slice a S.length c],.agg #[.int .i64 k,.int .i64 u]] w fun e w' => ∃ sa cap,e=.returned (.tuple #[.slice sa (zat S S.length k).length cap,.int .i64 0])∧Below w.heap.size w w' ∧ zah w' sa (zat S S.length k)∧(zat S S.length k).length≤cap∧cap≤9223372036854775807:=by
 refine(zmv a c S k u w wf hC hS hk hE).mono (fun e w' ⟨v,e1,hb,ho⟩=>?_)
 have hpos:=zgi S k
 rcases ho.2 with ⟨_,h⟩ |⟨g,cap,cur,h,_,_,h3,h4,_⟩
 ·omega
 ·obtain⟨pa,pc,h5,hi,_⟩:=zar ho
  rw[h] at h5
  cases h5
  subst h
  exact⟨_,cap,e1,hb,hi,h3,by unfold maxLen at h4;omega⟩
theorem zpP(te:Tst):tOkB te=((decide (te.t = -1000001) || decide (0≤te.t∧te.t≤99)) && decide (-1000001≤te.m∧te.m≤1000000)):=by
 unfold tOkB
 congr 1
 rw[Bool.eq_iff_iff]
 simp
 omega
theorem zhp(qa:Option Addr)(qc:Nat)(q:List Tst)(w:World)(hq:q.length≤9223372036854775807)(hQ:zaK w qa q) :
  Calls Tryz.prog 76 #[.slice qa q.length qc] w fun e w' => e=.returned (.int .i64 (zcd q))∧Below w.heap.size w w' := by
 have HQ:Hid (zaK w qa q):=hQ
 have d1:=zbC (q.length:Int) 1 6
 have DR:Hid (∀ k,k<q.length→zbT k (q.drop k)=if tOkB (tst q k) then (if decide (k=0) && (tst q k).near then 3 else zbT (k+1) (q.drop (k+1))) else 2):=fun k hk=>by rw[zjW hk];rfl
 have DE:Hid (zbT q.length (q.drop q.length)=0):=by show _=_;rw[List.drop_length];rfl
 unfold zcd
 clear hQ
 have H0:Hid (zbT 0 q=zbT 0 (q.drop 0)):=rfl
 generalize zbT 0 q=E at *
 generalize hl:q.length=L at *
 have HL:Hid _:=hl
 clear hl
 cases hb:decide (1≤(L:Int)∧(L:Int)≤6) with
 | false =>
  rw[hb] at d1
  have D1:Hid _:=d1
  simp only[Bool.false_eq_true,if_false]
  clear hb d1
  go_enter Tryz.func76,Tryz.ntmps76
  go_wp2_with fail
  refine Calls.mono (D1.out _) ?_
  rintro e w' ⟨rfl,hw'⟩
  have hw2:=hw'.symm
  clear hw'
  subst hw2
  go_wp2_with fail
  go_ret
  exact⟨rfl,Below.refl _ _⟩
 | true =>
  rw[hb] at d1
  have D1:Hid _:=d1
  have hL6:1≤(L:Int)∧(L:Int)≤6:=of_decide_eq_true hb
  simp only[if_true]
  clear hb d1
  go_enter Tryz.func76,Tryz.ntmps76
  go_wp2_with fail
  refine Calls.mono (D1.out _) ?_
  rintro e w' ⟨rfl,hw'⟩
  have hw2:=hw'.symm
  clear hw'
  subst hw2
  go_wp2_with fail
  go_loopg [11] L (fun g1 s11 wr=>∃ k:Nat,k≤L∧L-k≤g1∧s11=.int .i64 k∧Hid (Below w.heap.size w wr)∧Hid (E=zbT k (q.drop k)))
  case atStart=>exact⟨0,by omega,by omega,rfl,Below.refl _ _,H0⟩
  case round =>
   obtain⟨k,hk,hg1,rfl,HB,HE⟩:=hrel
   by_cases hlt:k<L
   ·have hlt2:(k:Int)<(L:Int):=by omega
    obtain⟨qb,qo,eq,q0,q1,q2⟩:=(HQ.out.below HB.out) k (by rw[HL.out];exact hlt)
    subst eq
    have DK:=DR.out k (by omega)
    have TK:=zpP (tst q k)
    generalize tst q k=te at *
    generalize hok:tOkB te=ok at *
    obtain⟨tt,tm,tn⟩:=te
    dsimp only at q0 q1 q2 DK TK
    have HDK:Hid _:=DK
    have HTK:Hid _:=TK
    have D2:Hid _:=fun W=>zbC tt 0 99 W
    have D3:Hid _:=fun W=>zbC tm (-1000001) 1000000 W
    clear DK TK hok
    obtain⟨b1,hb1⟩:∃ b,decide (0≤tt∧tt≤99)=b:=⟨_,rfl⟩
    obtain⟨b2,hb2⟩:∃ b,decide (-1000001≤tm∧tm≤1000000)=b:=⟨_,rfl⟩
    rw[hb1] at HTK D2
    rw[hb2] at HTK D3
    clear hb1 hb2
    go_upto_region 6 with fail
    obtain⟨W5,hW5⟩:∃ W5,wr.alloc (.cells #[.int .i64 tt,.int .i64 tm,.bool tn] 77)=W5:=⟨_,rfl⟩
    have e0:W5.cell? ⟨wr.heap.size,0,none⟩=some (.int .i64 tt):=by rw[← hW5];exact zac _ _ _ 0 rfl
    have e1:W5.cell? ⟨wr.heap.size,1,none⟩=some (.int .i64 tm):=by rw[← hW5];exact zac _ _ _ 1 rfl
    have e2:W5.cell? ⟨wr.heap.size,2,none⟩=some (.bool tn):=by rw[← hW5];exact zac _ _ _ 2 rfl
    have HB5:Hid (Below w.heap.size w W5):=by rw[← hW5];exact HB.out.alloc HB.out.size _
    rw[hW5]
    clear hW5 q0 q1 q2
    go_cut [30] (fun s30 wx=>s30=.bool (!ok)∧wx=W5)
    case first =>
     by_cases h1:tt = -1000001
     ·have ht:=HTK.out
      rw[decide_eq_true h1,Bool.true_or,Bool.true_and] at ht
      subst h1
      clear D2
      cases b2 with
      | true =>
       subst ht
       go_wp2_with fail
       refine Calls.mono (D3.out _) ?_
       rintro e w7 ⟨rfl,hw7⟩
       subst hw7
       go_wp2_with fail
       go_meet
       case rel=>exact⟨rfl,rfl⟩
      | false =>
       subst ht
       go_wp2_with fail
       refine Calls.mono (D3.out _) ?_
       rintro e w7 ⟨rfl,hw7⟩
       subst hw7
       go_wp2_with fail
       go_meet
       case rel=>exact⟨rfl,rfl⟩
     ·have ht:=HTK.out
      rw[decide_eq_false h1,Bool.false_or] at ht
      have p1:(tt == -1000001)=false:=beq_eq_false_iff_ne.2 h1
      have p2:(tt != -1000001)=true:=by simp[h1]
      have p3:decide (tt = -1000001)=false:=decide_eq_false h1
      cases b1 with
      | false =>
       rw[Bool.false_and] at ht
       subst ht
       go_wp2_with fail
       refine Calls.mono (D2.out _) ?_
       rintro e w6 ⟨rfl,hw6⟩
       subst hw6
       go_wp2_with fail
       go_meet
       case rel=>exact⟨rfl,rfl⟩
      | true =>
       rw[Bool.true_and] at ht
       cases b2 with
       | true =>
        subst ht
        go_wp2_with fail
        refine Calls.mono (D2.out _) ?_
        rintro e w6 ⟨rfl,hw6⟩
        subst hw6
        go_wp2_with fail
        refine Calls.mono (D3.out _) ?_
        rintro e w7 ⟨rfl,hw7⟩
        subst hw7
        go_wp2_with fail
        go_meet
        case rel=>exact⟨rfl,rfl⟩
       | false =>
        subst ht
        go_wp2_with fail
        refine Calls.mono (D2.out _) ?_
        rintro e w6 ⟨rfl,hw6⟩
        subst hw6
        go_wp2_with fail
        refine Calls.mono (D3.out _) ?_
        rintro e w7 ⟨rfl,hw7⟩
        subst hw7
        go_wp2_with fail
        go_meet
        case rel=>exact⟨rfl,rfl⟩
    case rest =>
    obtain⟨rfl,hwc⟩:=hcut
    subst hwc
    clear HTK D2 D3
    cases ok with
    | false =>
     have E2:Hid (E=2):=by show _=_;rw[HE.out,HDK.out];rfl
     clear HE HDK
     go_wp2_with fail
     go_ret
     exact⟨by rw[E2.out];rfl,HB5.out⟩
    | true =>
     cases tn with
     | false =>
      have E2:Hid (E=zbT (k+1) (q.drop (k+1))):=by show _=_;rw[HE.out,HDK.out];simp
      clear HE HDK
      go_wp2_with fail
      go_roundg (L-(k+1))
      case measure=>omega
      case rel=>exact⟨k+1,by omega,by omega,by go_num,HB5,E2⟩
     | true =>
      cases k with
      | zero =>
       have E2:Hid (E=3):=by show _=_;rw[HE.out,HDK.out];rfl
       clear HE HDK
       go_wp2_with fail
       go_ret
       exact⟨by rw[E2.out];rfl,HB5.out⟩
      | succ kk =>
       have E2:Hid (E=zbT (kk+1+1) (q.drop (kk+1+1))):=by show _=_;rw[HE.out,HDK.out];simp
       have hk0:(((kk+1:Nat):Int) == 0)=false:=beq_eq_false_iff_ne.2 (by omega)
       have hk1:(((kk:Int)+1) == 0)=false:=beq_eq_false_iff_ne.2 (by omega)
       clear HE HDK
       go_wp2_with fail
       go_roundg (L-(kk+1+1))
       case measure=>omega
       case rel=>exact⟨kk+1+1,by omega,by omega,by go_num,HB5,E2⟩
   ·have hkl:k=L:=by omega
    subst hkl
    have E2:Hid (E=0):=by
     show _=_
     rw[HE.out]
     exact DE.out
    clear HE
    go_wp2_with fail
    go_ret
    exact⟨by rw[E2.out];rfl,HB.out⟩
end Go.Proofs.YtojlkdekdbdpoaaGreat

namespace Go.Proofs.YtojlkdekdbdpoaaGreat
set_option maxRecDepth 100000
set_option maxHeartbeats 4000000
open Go.RowKit
theorem zml(a:Option Addr)(c:Nat)(S:List Nd)(k:Nat)(u:Int)(qa:Option Addr)(qc:Nat)(q:List Tst)(w:World)(wf:WF S)(hk:k<S.length)(hku:(nd S k).u=true)(hT:zao S [((k:Int),u)]=0)(hS:NdsAt w a S)(hQ:zaK w qa q)(hq:zcd q=0)(hC:RChk a c S) :
  Calls Tryz.prog 35 #[.agg #[.slice a S.length c],.agg #[.int .i64 (k:Int),.int .i64 u],.slice qa q.length qc] w fun e w' => ∃ fa fc,e=.returned (.tuple #[.slice fa (zcq S k q).length fc,.int .i64 0])∧Below w.heap.size w w' ∧ zah w' fa (zcq S k q)∧(zcq S k q).length≤24∧∀ x:Addr,fa=some x→w.heap.size≤x.block:=by
 have hN:=wf.small
 have hB:=wf.big
 have hlen:=zgr hq
 have hof:=zgo wf hk hku
 have D1:Hid (∀ W,NdsAt W a S→Calls _ _ _ _ _):=fun W hW=>zhv a c S k u W wf hC hW hk hT
 have d2:=fun W (hW:zaK W qa q)=>zhp qa qc q W (by omega) hW
 rw[hq] at d2
 have D2:Hid _:=d2
 have D3:Hid (∀ (p:Nat) W,p<S.length→NdsAt W a S→zaK W qa q→Calls _ _ _ _ _):=fun p W hp h1 h2=>zmm a c S p qa qc q W wf hp h1 hlen.1 hlen.2 h2
 have HS:Hid (NdsAt w a S):=hS
 have HQ:Hid (zaK w qa q):=hQ
 have EACH:Hid (∀ i,i<(zal S k).tail.length→∃ p:Nat,(zal S k).tail.getD i 0=p∧p<S.length):=fun i hi=>by
  rw[List.length_tail] at hi
  obtain⟨p,e,hp,_⟩:=hof.each (i+1) (by omega)
  refine⟨p,?_,hp⟩
  rw[← e,zad _ _ (by rw[List.length_tail];omega),zad _ _ (by omega),List.getElem_tail]
 have hpos:=hof.pos
 have hsml:=hof.small
 have TL:Hid (∀ W sa,zah W sa (zal S k)→∃ b o,sa=some ⟨b,o,none⟩∧zah W (some ⟨b,o+1,none⟩) (zal S k).tail):=fun W sa h=>by
  obtain⟨b,o,e,_⟩:=h 0 hpos
  refine⟨b,o,e,fun i hi=>⟨b,o+1,rfl,?_⟩⟩
  rw[List.length_tail] at hi
  obtain⟨b', o', e', hc⟩:=h (i+1) (by omega)
  rw[e] at e'
  cases e'
  rw[show o+1+i=o+(i+1) by omega,hc,zad _ _ (by omega),zad _ _ (by rw[List.length_tail];omega),List.getElem_tail]
 have FT:Hid (∀ i,i<(zal S k).tail.length→((zal S k).tail.take (i+1)).filter (fun p=>isSoF S p q)=((zal S k).tail.take i).filter (fun p=>isSoF S p q)++(if isSoF S ((zal S k).tail.getD i 0) q then [(zal S k).tail.getD i 0] else [])):=fun i hi=>zfy _ _ i hi
 have FE:Hid (zcq S k q=((zal S k).tail.take (zal S k).tail.length).filter (fun p=>isSoF S p q)):=by show _=_;rw[List.take_length];rfl
 have FL:Hid (∀ i,(((zal S k).tail.take i).filter (fun p=>isSoF S p q)).length≤24):=fun i=>by
  refine Nat.le_trans (List.length_filter_le _ _) ?_
  rw[List.length_take,List.length_tail]
  omega
 have hOL:(zat S S.length k).length=(zal S k).tail.length+1:=by rw[List.length_tail];show (zal S k).length=_;omega
 clear hS hQ d2 hq hB wf hT hof hpos hsml hC
 rw[show zat S S.length k=zal S k from rfl] at D1 hOL
 rw[hOL] at D1
 clear hOL
 generalize zcq S k q=R at *
 generalize hn:S.length=n at *
 have HN:Hid _:=hn
 clear hn
 generalize hl:q.length=L at *
 have HL:Hid _:=hl
 clear hl
 generalize hol:(zal S k).tail.length=OL at *
 have HOL:Hid _:=hol
 clear hol
 obtain⟨i0,hi0,hz0,hz1,hz2⟩:=info_parts info3
 go_enter Tryz.func35,Tryz.ntmps35
 go_wp2_with fail
 refine(D1.out _ (HS.out.below (zaq _ _ _))).mono ?_
 rintro e w1 ⟨sa,cap,rfl,hb1,hI1,hcap1,hcap2⟩
 simp only[World.size_alloc] at hb1
 obtain⟨l0,l1,l2,l3,r0,r1⟩:=zjE hb1
 have HB1:Hid _:=hb1
 have HW1:Hid _:=l3
 obtain⟨ob,oo,hsa,hI1'⟩:=TL.out _ _ hI1
 subst hsa
 have HI1:Hid (zah w1 (some ⟨ob,oo+1,none⟩) (zal S k).tail):=hI1'
 clear hb1 l3 hI1 hI1'
 go_wp2_with fail
 refine(D2.out _ (HQ.out.below HW1.out)).mono ?_
 rintro e w2 ⟨rfl,hb2⟩
 have hs2:=hb2.size
 have HW2:Hid (Below w.heap.size w w2):=HW1.out.trans (hb2.mono HW1.out.size)
 have HI2:Hid (zah w2 (some ⟨ob,oo+1,none⟩) (zal S k).tail):=HI1.out.below hb2
 have hc2:=(hb2.cell (World.block_lt_of_cell? _ _ l0)).trans l0
 have hcw:=World.block_lt_of_cell? _ _ hc2
 have HCW:Hid (w.heap.size<w2.heap.size):=hcw
 clear hb2 l0 l1 l2 r0 r1 HI1
 by_cases hc1:cap=1
 ·subst hc1
  have hOL0:OL=0:=by omega
  have hT0:(zal S k).tail=[]:=List.length_eq_zero_iff.1 (by rw[HOL.out];exact hOL0)
  have HT0:Hid _:=hT0
  clear hT0 hcap1 hcap2
  have HT:Hid (zah w2 (some ⟨ob,oo,none⟩) (zal S k).tail):=(show Hid _ by rw[HT0.out];exact(fun i hi=>absurd hi (Nat.not_lt_zero _)))
  go_wp2
  go_loopg [10,29] OL (fun g1 s10 s29 wr=>∃ (j:Nat),j≤OL∧OL-j≤g1∧s29=.int .i64 j∧Hid (Below w2.heap.size w2 wr)∧wr.cell? ⟨w.heap.size,0,none⟩=some (.slice a n c)∧w.heap.size<wr.heap.size∧Hid (wr.ownsRow w2.heap.size 3 1 s10 (((zal S k).tail.take j).filter (fun p=>isSoF S p q)).length ((((zal S k).tail.take j).filter (fun p=>isSoF S p q)).map (Value.int .i64))))
  case atStart=>exact⟨0,by omega,by omega,rfl,Below.refl _ _,hc2,hcw,World.ownsRow_nil _ _ _ _⟩
  case round =>
   obtain⟨j,hj,hg1,rfl,HB,hc,hcl,HOW⟩:=hrel
   clear hc2 hcw
   obtain⟨pa,pc,hv,hints,hblk⟩:=zar HOW.out
   have HI:Hid _:=hints
   have HK:Hid (∀ x:Addr,pa=some x→w.heap.size≤x.block):=fun x hx=>by
    have h1:=(hblk x.block (by rw[hv,hx];rfl)).1
    have h2:w.heap.size<w2.heap.size:=HCW.out
    omega
   clear hints hblk
   by_cases hlt:j<OL
   ·exact absurd hlt (by omega)
   ·have hj' : j=OL:=by omega
    subst hj'
    have FR:Hid (R=((zal S k).tail.take j).filter (fun p=>isSoF S p q)):=by
     show _=_
     rw[FE.out]
    have FL2:=FL.out j
    rw[← FR.out] at hv HI FL2
    have HB2:Hid (Below w.heap.size w wr):=HW2.out.trans (HB.out.mono HW2.out.size)
    rw[hv]
    clear hv
    generalize hRL:R.length=RL at FL2 ⊢
    have HRL:Hid _:=hRL
    clear hRL
    go_wp2
    go_ret2
    exact⟨pa,pc,by rw[HRL.out];rfl,HB2.out,HI.out,by rw[HRL.out];exact FL2,HK.out⟩
 ·have hcap3:(1:Int)≤(cap:Int):=by omega
  have hcap4:¬ ((cap:Int)=1):=by omega
  have HT:Hid (zah w2 (some ⟨ob,oo+1,none⟩) (zal S k).tail):=HI2
  go_wp2
  go_loopg [10,29] OL (fun g1 s10 s29 wr=>∃ (j:Nat),j≤OL∧OL-j≤g1∧s29=.int .i64 j∧Hid (Below w2.heap.size w2 wr)∧wr.cell? ⟨w.heap.size,0,none⟩=some (.slice a n c)∧w.heap.size<wr.heap.size∧Hid (wr.ownsRow w2.heap.size 3 1 s10 (((zal S k).tail.take j).filter (fun p=>isSoF S p q)).length ((((zal S k).tail.take j).filter (fun p=>isSoF S p q)).map (Value.int .i64))))
  case atStart=>exact⟨0,by omega,by omega,rfl,Below.refl _ _,hc2,hcw,World.ownsRow_nil _ _ _ _⟩
  case round =>
   obtain⟨j,hj,hg1,rfl,HB,hc,hcl,HOW⟩:=hrel
   clear hc2 hcw
   obtain⟨pa,pc,hv,hints,hblk⟩:=zar HOW.out
   have HI:Hid _:=hints
   have HK:Hid (∀ x:Addr,pa=some x→w.heap.size≤x.block):=fun x hx=>by
    have h1:=(hblk x.block (by rw[hv,hx];rfl)).1
    have h2:w.heap.size<w2.heap.size:=HCW.out
    omega
   clear hints hblk
   by_cases hlt:j<OL
   ·have hlt2:(j:Int)<(OL:Int):=by omega
    obtain⟨tb,too,ee,tc⟩:=(HT.out.below HB.out) j (by rw[HOL.out];exact hlt)
    cases ee
    obtain⟨p,hp,hpn⟩:=EACH.out j (by omega)
    have htl:=World.block_lt_of_cell? _ _ tc
    have FJ:=FT.out j (by omega)
    rw[hp] at tc FJ
    have D:Hid _:=D3.out p wr hpn (HS.out.below (HW2.out.trans (HB.out.mono HW2.out.size))) (HQ.out.below (HW2.out.trans (HB.out.mono HW2.out.size)))
    have HFJ:Hid _:=FJ
    have FLJ:=FL.out j
    clear FJ hp
    generalize hA:((zal S k).tail.take j).filter (fun p=>isSoF S p q)=A at *
    have HA:Hid _:=hA
    clear hA
    cases hso:isSoF S p q with
    | false =>
     rw[hso] at D HFJ
     have F2:Hid (((zal S k).tail.take (j+1)).filter (fun p=>isSoF S p q)=A):=by
      show _=_
      rw[HFJ.out];simp
     clear hso hv
     go_wp2_with fail
     refine Calls.mono D.out ?_
     rintro e w3 ⟨rfl,hb3⟩
     have hc3:=(hb3.cell (World.block_lt_of_cell? _ _ hc)).trans hc
     have HB3:Hid (Below w2.heap.size w2 w3):=HB.out.trans (hb3.mono HB.out.size)
     have OW3:Hid (w3.ownsRow w2.heap.size 3 1 u10 A.length (A.map (Value.int .i64))):=HOW.out.kept (row:=none) ⟨hb3.os,hb3.tape,hb3.output,hb3.size,fun k hk _=>hb3.block k hk⟩ (by
      cases hv:u10.ownBlock with
      | none=>exact Or.inl rfl
      | some k=>exact Or.inr (fun e=>by cases e))
     have hz3:=hb3.size
     clear hb3
     go_wp2
     go_roundg (OL-(j+1))
     case measure=>omega
     case rel=>exact⟨j+1,by omega,by omega,by go_num,HB3,hc3,by omega,by rw[F2.out];exact OW3⟩
    | true =>
     rw[hso] at D HFJ
     have F2:Hid (((zal S k).tail.take (j+1)).filter (fun p=>isSoF S p q)=A++[(p:Int)]):=by
      show _=_
      rw[HFJ.out];simp
     clear hso hv
     go_wp2_with fail
     refine Calls.mono D.out ?_
     rintro e w3 ⟨rfl,hb3⟩
     have hc3:=(hb3.cell (World.block_lt_of_cell? _ _ hc)).trans hc
     have HB3:Hid (Below w2.heap.size w2 w3):=HB.out.trans (hb3.mono HB.out.size)
     have OW3:Hid (w3.ownsRow w2.heap.size 3 1 u10 A.length (A.map (Value.int .i64))):=HOW.out.kept (row:=none) ⟨hb3.os,hb3.tape,hb3.output,hb3.size,fun k hk _=>hb3.block k hk⟩ (by
      cases hv:u10.ownBlock with
      | none=>exact Or.inl rfl
      | some k=>exact Or.inr (fun e=>by cases e))
     have hz3:=hb3.size
     have hz0' := HB.out.size
     have hcl3:w.heap.size<w3.heap.size:=by omega
     clear hb3
     go_wp2_with (at_builtin;refine wpList_append_own _ rfl _ _ 29 rfl w2.heap.size 3 i0 (.int .i64 0) 1 8 Tryz.underlying29 hi0 hz0 hz1 hz2 rfl (by decide) _ _ _ rfl (OW3.out.alloc _) ⟨w3.heap.size,0,none⟩ 1 1 [.int .i64 (p:Int)] rfl rfl ?c1 ?c2 ?c3 ?c4 ?c5 ?_)
     case c1 =>
      intro i u hi
      match i,hi with
      | 0,hi=>simp at hi;subst hi;simp[Addr.add]
     case c2=>intro u hu;simp at hu;subst hu;rfl
     case c3=>unfold maxLen;omega
     case c4=>omega
     case c5=>simp;omega
     intro v' w4 hown' hgrow _
     have HB4:Hid (Below w2.heap.size w2 w4):=(HB3.out.alloc HB3.out.size _).grown hgrow (by simp;have:=HB3.out.size;omega) (fun k hk=>(OW3.out.lt k hk).1)
     have hc4:w4.cell? ⟨w.heap.size,0,none⟩=some (.slice a n c):=by
      have h1:=zbX hc3 (.cells #[.int .i64 (p:Int)] 3)
      exact(World.cell?_of_block (hgrow.block _ (by simp;omega) (fun e=>by have h5:w2.heap.size≤w.heap.size:=(OW3.out.lt _ e.symm).1;have h6:w.heap.size<w2.heap.size:=HCW.out;omega))).trans h1
     have hcl4:w.heap.size<w4.heap.size:=by have:=hgrow.size;simp at this;omega
     have OW4:Hid (w4.ownsRow w2.heap.size 3 1 v' (A++[(p:Int)]).length ((A++[(p:Int)]).map (Value.int .i64))):=by
      show _
      rw[List.length_append,List.map_append]
      exact hown'
     clear hown' hgrow
     go_wp2
     go_roundg (OL-(j+1))
     case measure=>omega
     case rel=>exact⟨j+1,by omega,by omega,by go_num,HB4,hc4,hcl4,by rw[F2.out];exact OW4⟩
   ·have hj' : j=OL:=by omega
    subst hj'
    have FR:Hid (R=((zal S k).tail.take j).filter (fun p=>isSoF S p q)):=by
     show _=_
     rw[FE.out]
    have FL2:=FL.out j
    rw[← FR.out] at hv HI FL2
    have HB2:Hid (Below w.heap.size w wr):=HW2.out.trans (HB.out.mono HW2.out.size)
    rw[hv]
    clear hv
    generalize hRL:R.length=RL at FL2 ⊢
    have HRL:Hid _:=hRL
    clear hRL
    go_wp2
    go_ret2
    exact⟨pa,pc,by rw[HRL.out];rfl,HB2.out,HI.out,by rw[HRL.out];exact FL2,HK.out⟩
theorem zlu(a:Option Addr)(c:Nat)(S:List Nd)(p u E:Int)(qv:Value)(w:World)(hN:S.length≤9223372036854775807)(hC:RChk a c S)(hS:NdsAt w a S)(hE:zao S [(p,u)]=E)(hE0:E≠0) :
  Calls Tryz.prog 35 #[.agg #[.slice a S.length c],.agg #[.int .i64 p,.int .i64 u],qv] w fun e w' => e=.returned (.tuple #[.slice none 0 0,.int .i64 E])∧Below w.heap.size w w' := by
 have D1:Hid (∀ W,NdsAt W a S→Calls _ _ _ _ _):=fun W hW=>znt a c S p u E W hN hC hW hE hE0
 have HS:Hid (NdsAt w a S):=hS
 have hz:(E == 0)=false:=by simp[hE0]
 have hz2:decide (E=0)=false:=decide_eq_false hE0
 clear hS hC hE
 generalize S.length=n at *
 go_enter Tryz.func35,Tryz.ntmps35
 go_wp2_with fail
 refine Calls.mono (D1.out _ (HS.out.below (zaq _ _ _))) ?_
 rintro e w1 ⟨rfl,hb1⟩
 have HB1:Hid (Below w.heap.size w w1):=(zaq _ _ _).trans (hb1.mono (by first|(simp;done)|(simp;omega)))
 clear hb1
 go_wp2_with fail
 first
  |(go_ret;exact⟨rfl,HB1.out⟩)
  |(go_ret2;exact⟨rfl,HB1.out⟩)
  |(refine bodyPost_ret (v:=.tuple #[.slice none 0 0,.int .i64 E]) (by simp[results,Tryz.results35,go_sem]) rfl ⟨rfl,HB1.out⟩)
theorem zkR(a:Option Addr)(c:Nat)(S:List Nd)(k:Nat)(u E:Int)(qa:Option Addr)(qc:Nat)(q:List Tst)(w:World)(wf:WF S)(hk:k<S.length)(hC:RChk a c S)(hS:NdsAt w a S)(hT:zao S [((k:Int),u)]=0)(hql:q.length≤9223372036854775807)(hQ:zaK w qa q)(hE:zcd q=E)(hE0:E≠0) :
  Calls Tryz.prog 35 #[.agg #[.slice a S.length c],.agg #[.int .i64 (k:Int),.int .i64 u],.slice qa q.length qc] w fun e w' => e=.returned (.tuple #[.slice none 0 0,.int .i64 E])∧Below w.heap.size w w' := by
 have D1:Hid (∀ W,NdsAt W a S→Calls _ _ _ _ _):=fun W hW=>zhv a c S k u W wf hC hW hk hT
 have d2:=fun W (hW:zaK W qa q)=>zhp qa qc q W hql hW
 rw[hE] at d2
 have D2:Hid _:=d2
 have HS:Hid (NdsAt w a S):=hS
 have HQ:Hid (zaK w qa q):=hQ
 have hz:(E == 0)=false:=by simp[hE0]
 have hz2:decide (E=0)=false:=decide_eq_false hE0
 clear hS hC hE hQ d2 hT wf hk
 generalize (zat S S.length k).length=OL at *
 generalize S.length=n at *
 generalize q.length=L at *
 go_enter Tryz.func35,Tryz.ntmps35
 go_wp2_with fail
 refine Calls.mono (D1.out _ (HS.out.below (zaq _ _ _))) ?_
 rintro e w1 ⟨sa,cap,rfl,hb1,_⟩
 have HB1:Hid (Below w.heap.size w w1):=(zaq _ _ _).trans (hb1.mono (by first|(simp;done)|(simp;omega)))
 clear hb1
 go_wp2_with fail
 refine Calls.mono (D2.out _ (HQ.out.below HB1.out)) ?_
 rintro e w2 ⟨rfl,hb2⟩
 have HB2:Hid (Below w.heap.size w w2):=HB1.out.trans (hb2.mono HB1.out.size)
 clear hb2
 go_wp2_with fail
 first
  |(go_ret;exact⟨rfl,HB2.out⟩)
  |(go_ret2;exact⟨rfl,HB2.out⟩)
  |(refine bodyPost_ret (v:=.tuple #[.slice none 0 0,.int .i64 E]) (by simp[results,Tryz.results35,go_sem]) rfl ⟨rfl,HB2.out⟩)
end Go.Proofs.YtojlkdekdbdpoaaGreat
