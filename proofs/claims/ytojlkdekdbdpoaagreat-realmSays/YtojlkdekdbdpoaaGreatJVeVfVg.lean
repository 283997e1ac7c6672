/-
  x
-/
import Derived.Test.YtojlkdekdbdpoaaGreatJZpVbVcVd
import Derived.Test.YtojlkdekdbdpoaaGreatJQaVaUe
import Derived.Test.YtojlkdekdbdpoaaGreatJWbTkSnWd
namespace Go.Proofs.YtojlkdekdbdpoaaGreat
set_option maxRecDepth 100000
set_option maxHeartbeats 4000000
open Go.RowKit
def tst(q:List Tst)(i:Nat):Tst:=q.getD i ⟨0,0,false⟩
def zaK(w:World)(a:Option Addr)(q:List Tst):Prop :=
 ∀ i,i<q.length→∃ b o,a=some ⟨b,o,none⟩∧w.cell? ⟨b,o+i*3,none⟩=some (.int .i64 (tst q i).t)∧w.cell? ⟨b,o+i*3+1,none⟩=some (.int .i64 (tst q i).m)∧w.cell? ⟨b,o+i*3+2,none⟩=some (.bool (tst q i).near)
theorem zaK.below{w w' : World}{a:Option Addr}{q:List Tst}(h:zaK w a q)(hb:Below w.heap.size w w'):zaK w' a q:=fun i hi=>by
 obtain⟨b,o,e,h1,h2,h3⟩:=h i hi
 exact⟨b,o,e,(hb.cell (World.block_lt_of_cell? w ⟨b,o+i*3,none⟩ h1)).trans h1,(hb.cell (World.block_lt_of_cell? w ⟨b,o+i*3+1,none⟩ h2)).trans h2,(hb.cell (World.block_lt_of_cell? w ⟨b,o+i*3+2,none⟩ h3)).trans h3⟩
theorem zok{q:List Tst}{j:Nat}(h:j<q.length):(q.take (j+1)).reverse=tst q j ::(q.take j).reverse:=by
 rw[List.take_add_one,List.getElem?_eq_getElem h,List.reverse_append]
 unfold tst
 rw[zad q _ h]
 rfl
theorem zmA{S:List Nd}{te:Tst}{l:List Tst}{ps:List Int}:soGo S (te :: l) ps=if l.length=0 then siftF S te ps else soGo S l (zcj S te.near (siftF S te ps)):=by
 cases l with
 | nil=>rfl
 | cons te' r=>rfl
theorem zlr(S:List Nd)(a:Option Addr)(c:Nat)(te:Tst)(w:World)(hS:NdsAt w a S)(bt:Nat)(ps:List Int)(hps:zbJ S ps)(v:Value)(W:World)(hb:Below w.heap.size w W)(hbt:bt<W.heap.size)(cs:W.cell? ⟨w.heap.size,0,none⟩=some (.slice a S.length c))(t0:W.cell? ⟨bt,0,none⟩=some (.int .i64 te.t))(t1:W.cell? ⟨bt,1,none⟩=some (.int .i64 te.m))(t2:W.cell? ⟨bt,2,none⟩=some (.bool te.near))
  (hown:W.ownsRow (w.heap.size+1) 3 1 v ps.length (ps.map (Value.int .i64))) (hne:∀ k,v.ownBlock=some k→k≠bt) :
  Calls Tryz.prog 113 #[v,.func (.func 132) #[] #[.pointer (some ⟨bt,0,none⟩),.pointer (some ⟨w.heap.size,0,none⟩)]] W fun e w' => ∃ v', e=.returned v' ∧ Below w.heap.size w w' ∧ w'.ownsRow (w.heap.size+1) 3 1 v' (siftF S te ps).length ((siftF S te ps).map (Value.int .i64))∧(∀ o,w'.cell? ⟨bt,o,none⟩=W.cell? ⟨bt,o,none⟩)∧w'.cell? ⟨w.heap.size,0,none⟩=some (.slice a S.length c)∧W.heap.size≤w'.heap.size:=by
 have eg:=enters_of Tryz.func132 (by kernel_rfl) rfl
 rcases hown.2 with ⟨e,e0⟩ |⟨g,cap,cur,e,hg,hcur,h3,h4,h5,h6⟩
 ·subst e
  have hps0:ps=[]:=List.length_eq_zero_iff.1 e0
  subst hps0
  refine(zfR _ _ W eg).mono ?_
  rintro e w' ⟨rfl,hb'⟩
  exact⟨_,rfl,hb.trans (hb'.mono hb.size),World.ownsRow_nil _ _ _ _,fun o=>hb'.cell (by exact hbt),(hb'.cell (World.block_lt_of_cell? _ _ cs)).trans cs,hb'.size⟩
 ·subst e
  have hgb:g≠bt:=hne g rfl
  have hgw:g<W.heap.size:=(Array.getElem?_eq_some_iff.1 hcur).1
  have hcap' : cap≤9223372036854775807:=by unfold maxLen at h4;omega
  obtain⟨_,_,_,_,G,hG,hGk⟩:=zgv hown
  have hst:∀ w1,Off (fun b=>b=g) W w1→Below w.heap.size w w1∧(∀ o,w1.cell? ⟨bt,o,none⟩=W.cell? ⟨bt,o,none⟩)∧w1.cell? ⟨w.heap.size,0,none⟩=some (.slice a S.length c):=fun w1 h1 =>
   ⟨hb.trans (h1.below hb.size (fun k hk=>by omega)),fun o=>h1.cell (by exact hbt) (fun e=>hgb (by simpa using e.symm)),(h1.cell (World.block_lt_of_cell? _ _ cs) (fun e=>by simp at e;omega)).trans cs⟩
  refine(zgV 132 _ (fun x=>!testB te.t te.m (nd S x.toNat)) g ps.length cap ps G W rfl h3 hcap' hG hGk eg (fun x hx w1 h1=>?_)).mono ?_
  ·obtain⟨k,rfl,hk⟩:=hps x hx
   obtain⟨b1,b2,b3⟩:=hst w1 h1
   have:=znW a c S te.t te.m te.near bt w.heap.size k w1 hk (hS.below b1) ((b2 0).trans t0) ((b2 1).trans t1) ((b2 2).trans t2) b3
   rw[Int.toNat_natCast]
   exact this
  ·rintro e w' ⟨rfl,hoff,G', hG', hGk'⟩
   obtain⟨b1,b2,b3⟩:=hst w' hoff
   refine⟨_,rfl,b1,zld hG' hGk' (Nat.le_trans (zmn _ _) h3) h4 hg,b2,b3,hoff.size⟩
theorem znI(a:Option Addr)(c:Nat)(S:List Nd)(place:Nat)(qa:Option Addr)(qc:Nat)(q:List Tst)(w:World)(wf:WF S)(hp:place<S.length)(hS:NdsAt w a S)(hq:q.length≤6)(hQ:zaK w qa q) :
  Calls Tryz.prog 117 #[.agg #[.slice a S.length c],.int .i64 (place:Int),.slice qa q.length qc] w fun e w' => e=.returned (.bool (isSoF S place q))∧Below w.heap.size w w' := by
 have hN:=wf.small
 have SIFT:Hid (∀ (te:Tst) bt ps,zbJ S ps→∀ v W,Below w.heap.size w W→bt<W.heap.size→W.cell? ⟨w.heap.size,0,none⟩=some (.slice a S.length c)→W.cell? ⟨bt,0,none⟩=some (.int .i64 te.t)→W.cell? ⟨bt,1,none⟩=some (.int .i64 te.m)→W.cell? ⟨bt,2,none⟩=some (.bool te.near)→W.ownsRow (w.heap.size+1) 3 1 v ps.length (ps.map (Value.int .i64))→(∀ k,v.ownBlock=some k→k≠bt)→Calls _ _ _ _ _):=fun te bt ps hps v W hb hbt cs t0 t1 t2 hown hne=>zlr S a c te w hS bt ps hps v W hb hbt cs t0 t1 t2 hown hne
 have ABV:Hid (∀ pa pc places near W,NdsAt W a S→places.length≤1000000→zah W pa places→Calls _ _ _ _ _):=fun pa pc places near W hW hL hP=>zmh a c S pa pc places near W hN hW hL hP
 have PL:Hid (∀ near ps,zbJ S ps→zbJ S (zcj S near ps)):=fun near ps h=>(zht wf near h).1
 have PN:Hid (∀ te ps,zbJ S ps→zbJ S (siftF S te ps)):=fun te ps h=>h.sift
 have HS:Hid (NdsAt w a S):=hS
 have HQ:Hid (zaK w qa q):=hQ
 have TR:Hid (∀ j,j<q.length→∀ ps,soGo S (q.take (j+1)).reverse ps=if j=0 then siftF S (tst q j) ps else soGo S (q.take j).reverse (zcj S (tst q j).near (siftF S (tst q j) ps))):=fun j hj ps=>by
  rw[zok hj,zmA]
  simp only[List.length_reverse,List.length_take]
  by_cases e:j=0
  ·subst e;rfl
  ·rw[if_neg (by omega),if_neg e]
 have H0:Hid (soGo S q.reverse [(place:Int)]=soGo S (q.take q.length).reverse [(place:Int)]):=by show _=_;rw[List.take_length]
 have HP:Hid (zbJ S [(place:Int)]):=fun x hx=>⟨place,by simpa using hx,hp⟩
 have HD:Hid (isSoF S place q=decide (0<(soGo S q.reverse [(place:Int)]).length)):=rfl
 generalize isSoF S place q=R at *
 generalize soGo S q.reverse [(place:Int)]=F at *
 clear hS hQ wf
 generalize hn:S.length=n at *
 have HN:Hid _:=hn
 clear hn
 generalize hl:q.length=L at *
 have HL:Hid _:=hl
 clear hl
 go_enter Tryz.func117,Tryz.ntmps117
 go_wp2
 have c0:((w.alloc (.cells #[.slice a n c] 24)).alloc (.cells #[.int .i64 (place:Int)] 3)).cell? ⟨w.heap.size,0,none⟩=some (.slice a n c):=by go_simp
 have HO:Hid (((w.alloc (.cells #[.slice a n c] 24)).alloc (.cells #[.int .i64 (place:Int)] 3)).ownsRow (w.heap.size+1) 3 1 (.slice (some ⟨w.heap.size+1,0,none⟩) 1 1) ([(place:Int)]).length (([(place:Int)]).map (Value.int .i64))):=⟨by simp,Or.inr ⟨w.heap.size+1,1,#[.int .i64 (place:Int)],rfl,Nat.le_refl _,by
  have:=heap_alloc_new (w.alloc (.cells #[.slice a n c] 24)) (.cells #[.int .i64 (place:Int)] 3)
  simpa using this,by simp,by unfold maxLen;omega,by simp,by simp⟩⟩
 go_loopg [7,8] L (fun g1 s7 s8 wr=>∃ (j:Nat) (x:Int) (ps:List Int),j≤L∧j≤g1∧x=(j:Int)-1∧s8=.int .i64 x∧ps.length≤24∧Hid (Below w.heap.size w wr)∧wr.cell? ⟨w.heap.size,0,none⟩=some (.slice a n c)∧w.heap.size<wr.heap.size∧Hid (wr.ownsRow (w.heap.size+1) 3 1 s7 ps.length (ps.map (Value.int .i64)))∧Hid (zbJ S ps)∧Hid (F=soGo S (q.take j).reverse ps))
 case atStart=>exact⟨L,(L:Int)-1,[(place:Int)],Nat.le_refl _,Nat.le_refl _,rfl,rfl,by simp,zaq _ _ _,c0,by simp;omega,HO,HP,H0⟩
 case round =>
  obtain⟨j,x,ps,hj,hg1,hx,rfl,hpl,HB,cs,hs,HOW,HPS,HF⟩:=hrel
  clear c0 HO HP H0
  obtain⟨pa,pc,hv,hints,hblk⟩:=zar HOW.out
  have HI:Hid _:=hints
  have HK:Hid _:=hblk
  clear hints hblk
  by_cases hj0:j=0
  ·subst hj0
   have hx1:x = -1:=by omega
   subst hx1
   clear hx
   have hR:R=decide (0<ps.length):=by
    rw[HD.out,HF.out]
    rfl
   have HR:Hid _:=hR
   rw[hv]
   clear hR hv
   generalize ps.length=PL0 at *
   go_wp2
   go_ret
   exact⟨by rw[HR.out];rfl,HB.out⟩
  ·obtain⟨i,rfl⟩:∃ i,j=i+1:=⟨j-1,by omega⟩
   obtain rfl:x=(i:Int):=by omega
   clear hx
   have hi2:(i:Int)<(L:Int):=by omega
   obtain⟨qb,qo,rfl,q0,q1,q2⟩:=(HQ.out.below HB.out) i (by rw[HL.out];omega)
   have hql:=World.block_lt_of_cell? _ _ q0
   have TRI:=TR.out i (by omega) ps
   have HTR:Hid _:=TRI
   clear TRI
   have SI:Hid (∀ W,Below w.heap.size w W→wr.heap.size<W.heap.size→W.cell? ⟨w.heap.size,0,none⟩=some (.slice a n c)→W.cell? ⟨wr.heap.size,0,none⟩=some (.int .i64 (tst q i).t)→W.cell? ⟨wr.heap.size,1,none⟩=some (.int .i64 (tst q i).m)→W.cell? ⟨wr.heap.size,2,none⟩=some (.bool (tst q i).near)→W.ownsRow (w.heap.size+1) 3 1 (.slice pa ps.length pc) ps.length (ps.map (Value.int .i64))→Calls _ _ _ _ _):=fun W h1 h2 h3 h4 h5 h6 h7=>SIFT.out (tst q i) wr.heap.size ps HPS.out (.slice pa ps.length pc) W h1 h2 h3 h4 h5 h6 h7 (fun k hk=>by have:=HK.out k (by rw[hv];exact hk);omega)
   have OW:Hid (wr.ownsRow (w.heap.size+1) 3 1 (.slice pa ps.length pc) ps.length (ps.map (Value.int .i64))):=by rw[← hv];exact HOW.out
   have PS2:Hid (zbJ S (siftF S (tst q i) ps)):=PN.out _ _ HPS.out
   rw[hv]
   clear hv HOW HPS HI HK SIFT
   have hpl' :(siftF S (tst q i) ps).length≤24:=Nat.le_trans (zmn _ _) hpl
   generalize hps' : siftF S (tst q i) ps=ps' at *
   generalize hte:tst q i=te at *
   have HTE:Hid _:=hte
   clear hps' hte
   generalize hPL:ps.length=PL0 at *
   have HPL:Hid _:=hPL
   clear hPL
   obtain⟨tt,tm,tn⟩:=te
   dsimp only at *
   go_wp2_with fail
   refine Calls.mono (SI.out _ (HB.out.alloc HB.out.size _) (by simp) (by go_simp) (by go_simp) (by go_simp) (by go_simp) (OW.out.alloc _)) ?_
   rintro e w2 ⟨v', rfl,hb2,how2,ht2,hc2,hz2⟩
   obtain⟨pa', pc', hv', hints', _⟩:=zar how2
   have t2:w2.cell? ⟨wr.heap.size,2,none⟩=some (.bool tn):=(ht2 2).trans (by go_simp)
   have HB2:Hid _:=hb2
   have OW2:Hid (w2.ownsRow (w.heap.size+1) 3 1 (.slice pa' ps'.length pc') ps'.length (ps'.map (Value.int .i64))):=by rw[← hv'];exact how2
   have HI2:Hid _:=hints'
   simp only[World.size_alloc] at hz2
   have hs2:w.heap.size<w2.heap.size:=by omega
   have hz3:wr.heap.size<w2.heap.size:=by omega
   clear hb2 how2 hints' ht2
   rw[hv']
   clear hv'
   by_cases hi0:i=0
   ·subst hi0
    have HF2:Hid (F=soGo S (q.take 0).reverse ps'):=by
     show _=_
     rw[HF.out,HTR.out,if_pos rfl];rfl
    go_wp2
    go_roundg 0
    case measure=>omega
    case rel=>exact⟨0,-1,ps', by omega,by omega,rfl,by go_num,hpl', HB2,hc2,hs2,OW2,PS2,HF2⟩
   ·have hi3:(0:Int)<(i:Int):=by omega
    have HF2:Hid (F=soGo S (q.take i).reverse (zcj S tn ps')):=by
     show _=_
     rw[HF.out,HTR.out,if_neg hi0]
    have PS3:Hid (zbJ S (zcj S tn ps')):=PL.out _ _ PS2.out
    have AB:Hid _:=ABV.out pa' pc' ps' tn w2 (HS.out.below HB2.out) (by omega) HI2.out
    generalize hpl2:ps'.length=PL2 at *
    clear hpl2
    go_wp2_with fail
    refine Calls.mono AB.out ?_
    rintro e w3 ⟨v3,rfl,hb3,how3,hlen3⟩
    have hs3:=hb3.size
    have hc3:=(hb3.cell (World.block_lt_of_cell? _ _ hc2)).trans hc2
    have HB3:Hid (Below w.heap.size w w3):=HB2.out.trans (hb3.mono HB2.out.size)
    have OW3:Hid (w3.ownsRow (w.heap.size+1) 3 1 v3 (zcj S tn ps').length ((zcj S tn ps').map (Value.int .i64))):=zbR how3 (by omega)
    clear how3 hb3
    go_wp2
    go_roundg i
    case measure=>omega
    case rel=>exact⟨i,(i:Int)-1,zcj S tn ps', by omega,by omega,rfl,by go_num,by omega,HB3,hc3,by omega,OW3,PS3,HF2⟩
end Go.Proofs.YtojlkdekdbdpoaaGreat

namespace Go.Proofs.YtojlkdekdbdpoaaGreat
set_option maxRecDepth 100000
set_option maxHeartbeats 4000000
open Go.RowKit
def tOkB(te:Tst):Bool:=(decide (te.t = -1000001) || decide (0≤te.t∧te.t≤99)) && (decide (te.m = -1000001) || decide (-1000000≤te.m∧te.m≤1000000))
theorem zhM(te:Tst)(w:World) :
  Calls Tryz.prog 131 #[.agg #[.int .i64 te.t,.int .i64 te.m,.bool te.near]] w fun e w' => e=.returned (.bool (tOkB te))∧Below w.heap.size w w' := by
 obtain⟨T,M,near⟩:=te
 unfold tOkB
 dsimp only
 have d1:=zaU T 0 99
 have d2:=zaU M (-1000000) 1000000
 generalize decide (0≤T∧T≤99)=b1 at *
 generalize decide (-1000000≤M∧M≤1000000)=b2 at *
 by_cases h1:T = -1000001
 ·subst h1
  simp only[decide_true,Bool.true_or,Bool.true_and]
  by_cases h2:M = -1000001
  ·subst h2
   simp only[decide_true,Bool.true_or]
   go_enter Tryz.func131,Tryz.ntmps131
   go_wp2
   go_ret
   exact⟨rfl,(Below.refl _ _).alloc (Nat.le_refl _) _⟩
  ·have e2:(M == -1000001)=false:=beq_eq_false_iff_ne.2 h2
   simp only[decide_eq_false h2,Bool.false_or]
   cases b2 <;>
   ·go_enter Tryz.func131,Tryz.ntmps131
    go_wp2_with (go_at_call 39;refine(d2 _).mono ?_;rintro e w' ⟨rfl,rfl⟩)
    go_ret
    exact⟨rfl,(Below.refl _ _).alloc (Nat.le_refl _) _⟩
 ·have e1:(T == -1000001)=false:=beq_eq_false_iff_ne.2 h1
  simp only[decide_eq_false h1,Bool.false_or]
  cases b1 with
  | false =>
   simp only[Bool.false_and]
   go_enter Tryz.func131,Tryz.ntmps131
   go_wp2_with (go_at_call 39;refine(d1 _).mono ?_;rintro e w' ⟨rfl,rfl⟩)
   go_ret
   exact⟨rfl,(Below.refl _ _).alloc (Nat.le_refl _) _⟩
  | true =>
   simp only[Bool.true_and]
   by_cases h2:M = -1000001
   ·subst h2
    simp only[decide_true,Bool.true_or]
    go_enter Tryz.func131,Tryz.ntmps131
    go_wp2_with (go_at_call 39;refine(d1 _).mono ?_;rintro e w' ⟨rfl,rfl⟩)
    go_ret
    exact⟨rfl,(Below.refl _ _).alloc (Nat.le_refl _) _⟩
   ·have e2:(M == -1000001)=false:=beq_eq_false_iff_ne.2 h2
    simp only[decide_eq_false h2,Bool.false_or]
    cases b2 <;>
    ·go_enter Tryz.func131,Tryz.ntmps131
     go_wp2_with (first|(go_at_call_of 39 (Value.int .i64 99);refine(d1 _).mono ?_;rintro e w' ⟨rfl,rfl⟩)|(go_at_call_of 39 (Value.int .i64 1000000);refine(d2 _).mono ?_;rintro e w' ⟨rfl,rfl⟩))
     go_ret
     exact⟨rfl,(Below.refl _ _).alloc (Nat.le_refl _) _⟩
def zbT:Nat→List Tst→Int
 | _,[]=>0
 | k,te :: r=>if tOkB te then (if decide (k=0) && te.near then 3 else zbT (k+1) r) else 2
def zcd(q:List Tst):Int:=if decide (1≤(q.length:Int)∧(q.length:Int)≤6) then zbT 0 q else 1
theorem zjW{q:List Tst}{k:Nat}(h:k<q.length):q.drop k=tst q k :: q.drop (k+1):=zen h
theorem zgc(qa:Option Addr)(qc:Nat)(q:List Tst)(w:World)(hq:q.length≤9223372036854775807)(hQ:zaK w qa q) :
  Calls Tryz.prog 116 #[.slice qa q.length qc] w fun e w' => e=.returned (.int .i64 (zcd q))∧Below w.heap.size w w' := by
 have HQ:Hid (zaK w qa q):=hQ
 have d1:=zaU (q.length:Int) 1 6
 have DR:Hid (∀ k,k<q.length→zbT k (q.drop k)=if tOkB (tst q k) then (if decide (k=0) && (tst q k).near then 3 else zbT (k+1) (q.drop (k+1))) else 2):=fun k hk=>by rw[zjW hk];rfl
 have DE:Hid (zbT q.length (q.drop q.length)=0):=by show _=_;rw[List.drop_length];rfl
 unfold zcd
 clear hQ
 have H0:Hid (zbT 0 q=zbT 0 (q.drop 0)):=rfl
 generalize zbT 0 q=E at *
 generalize hl:q.length=L at *
 have HL:Hid _:=hl
 clear hl
 cases hb:decide (1≤(L:Int)∧(L:Int)≤6) with
 | false =>
  rw[hb] at d1
  simp only[Bool.false_eq_true,if_false]
  clear hb
  go_enter Tryz.func116,Tryz.ntmps116
  go_wp2_with (go_at_call 39;refine(d1 _).mono ?_;rintro e w' ⟨rfl,hw'⟩;have hw2:=hw'.symm;clear hw'; subst hw2)
  go_ret
  exact⟨rfl,Below.refl _ _⟩
 | true =>
  rw[hb] at d1
  simp only[if_true]
  clear hb
  go_enter Tryz.func116,Tryz.ntmps116
  go_wp2_with (go_at_call 39;refine(d1 _).mono ?_;rintro e w' ⟨rfl,hw'⟩;have hw2:=hw'.symm;clear hw'; subst hw2)
  go_loopg [11] L (fun g1 s11 wr=>∃ k:Nat,k≤L∧L-k≤g1∧s11=.int .i64 k∧Below w.heap.size w wr∧Hid (E=zbT k (q.drop k)))
  case atStart=>exact⟨0,by omega,by omega,rfl,Below.refl _ _,H0⟩
  case round =>
   obtain⟨k,hk,hg1,rfl,hb,HE⟩:=hrel
   by_cases hlt:k<L
   ·have hlt2:(k:Int)<(L:Int):=by omega
    obtain⟨qb,qo,rfl,q0,q1,q2⟩:=(HQ.out.below hb) k (by rw[HL.out];exact hlt)
    have hql:=World.block_lt_of_cell? _ _ q0
    have DK:=DR.out k (by omega)
    have d2:=fun W=>zhM (tst q k) W
    generalize tst q k=te at *
    generalize tOkB te=ok at *
    obtain⟨tt,tm,tn⟩:=te
    dsimp only at *
    have HDK:Hid _:=DK
    clear DK
    cases ok with
    | false =>
     have E2:Hid (E=2):=by show _=_;rw[HE.out,HDK.out];rfl
     go_wp2_with (go_at_call 131;refine(d2 _).mono ?_;rintro e w2 ⟨rfl,hb2⟩)
     go_ret
     exact⟨by rw[E2.out];rfl,hb.trans (((Below.refl _ _).alloc (Nat.le_refl _) _ |>.trans (hb2.mono (by simp))).mono hb.size)⟩
    | true =>
     by_cases hk0:k=0
     ·subst hk0
      simp only[Nat.zero_mul,Nat.add_zero] at q0 q1 q2
      cases tn with
      | true =>
       have E2:Hid (E=3):=by show _=_;rw[HE.out,HDK.out];rfl
       go_wp2_with (go_at_call 131;refine(d2 _).mono ?_;rintro e w2 ⟨rfl,hb2⟩;simp only[World.size_alloc] at hb2;have c2:w2.cell? ⟨wr.heap.size,2,none⟩=some (.bool true):=(hb2.cell (by simp)).trans (by go_simp))
       go_ret
       exact⟨by rw[E2.out];rfl,hb.trans (((Below.refl _ _).alloc (Nat.le_refl _) _ |>.trans (hb2.mono (by omega))).mono hb.size)⟩
      | false =>
       have E2:Hid (E=zbT (0+1) (q.drop (0+1))):=by show _=_;rw[HE.out,HDK.out];rfl
       go_wp2_with (go_at_call 131;refine(d2 _).mono ?_;rintro e w2 ⟨rfl,hb2⟩;simp only[World.size_alloc] at hb2;have c2:w2.cell? ⟨wr.heap.size,2,none⟩=some (.bool false):=(hb2.cell (by simp)).trans (by go_simp))
       go_roundg (L-1)
       case measure=>omega
       case rel=>exact⟨0+1,by omega,by omega,by go_num,hb.trans (((Below.refl _ _).alloc (Nat.le_refl _) _ |>.trans (hb2.mono (by omega))).mono hb.size),E2⟩
     ·have hkb:((k:Int) == 0)=false:=beq_eq_false_iff_ne.2 (by omega)
      have E2:Hid (E=zbT (k+1) (q.drop (k+1))):=by
       show _=_
       rw[HE.out,HDK.out,decide_eq_false hk0];rfl
      go_wp2_with (go_at_call 131;refine(d2 _).mono ?_;rintro e w2 ⟨rfl,hb2⟩)
      go_roundg (L-(k+1))
      case measure=>omega
      case rel=>exact⟨k+1,by omega,by omega,by go_num,hb.trans (((Below.refl _ _).alloc (Nat.le_refl _) _ |>.trans (hb2.mono (by simp))).mono hb.size),E2⟩
   ·have:k=L:=by omega
    subst this
    have E2:Hid (E=0):=by show _=_;rw[HE.out,← HL.out];rw[← HL.out] at DE;exact DE.out
    go_wp2
    go_ret
    exact⟨by rw[E2.out];rfl,hb⟩
end Go.Proofs.YtojlkdekdbdpoaaGreat

namespace Go.Proofs.YtojlkdekdbdpoaaGreat
set_option maxRecDepth 100000
set_option maxHeartbeats 4000000
open Go.RowKit
theorem zgr{q:List Tst}(h:zcd q=0):1≤q.length∧q.length≤6:=by
 unfold zcd at h
 split at h
 ·rename_i hb
  have:=of_decide_eq_true hb
  omega
 ·omega
theorem zjE{w w1:World}{a:Option Addr}{n c:Nat}{p u:Int}(hb:Below (w.heap.size+1+1) ((w.alloc (.cells #[.slice a n c] 24)).alloc (.cells #[.int .i64 p,.int .i64 u] 60)) w1) :
  w1.cell? ⟨w.heap.size,0,none⟩=some (.slice a n c)∧w1.cell? ⟨w.heap.size+1,0,none⟩=some (.int .i64 p)∧w1.cell? ⟨w.heap.size+1,1,none⟩=some (.int .i64 u)∧Below w.heap.size w w1∧w.heap.size<w1.heap.size∧w.heap.size+1<w1.heap.size:=by
 refine⟨?_,?_,?_,(zaq _ _ _).trans (hb.mono (by omega)),by have:=hb.size;simp at this;omega,by have:=hb.size;simp at this;omega⟩
 all_goals exact(hb.cell (by first|(simp;done)|(simp;omega))).trans (by go_simp)
def zcq(S:List Nd)(k:Nat)(q:List Tst):List Int:=(zal S k).tail.filter fun p=>isSoF S p q
theorem zlC(a:Option Addr)(c:Nat)(S:List Nd)(p u E:Int)(qv:Value)(w:World)(hN:S.length≤9223372036854775807)(hB:Big S)(hS:NdsAt w a S)(hE:zao S [(p,u)]=E)(hE0:E≠0) :
  Calls Tryz.prog 94 #[.agg #[.slice a S.length c],.agg #[.int .i64 p,.int .i64 u],qv] w fun e w' => e=.returned (.tuple #[.slice none 0 0,.int .i64 E])∧Below w.heap.size w w' := by
 have D1:Hid (∀ W,NdsAt W a S→Calls _ _ _ _ _):=fun W hW=>zlx a c S p u E W hN hB hW hE hE0
 have HS:Hid (NdsAt w a S):=hS
 have hz:(E == 0)=false:=by simp[hE0]
 clear hS hB hE
 generalize S.length=n at *
 go_enter Tryz.func94,Tryz.ntmps94
 go_wp2_with fail
 refine(D1.out _ (HS.out.below (zaq _ _ _))).mono ?_
 rintro e w1 ⟨rfl,hb1⟩
 simp only[World.size_alloc] at hb1
 have HW1:Hid (Below w.heap.size w w1):=(zaq _ _ _).trans (hb1.mono (by omega))
 clear hb1
 go_wp2
 go_ret2
 exact⟨rfl,HW1.out⟩
theorem zmF(a:Option Addr)(c:Nat)(S:List Nd)(k:Nat)(u E:Int)(qa:Option Addr)(qc:Nat)(q:List Tst)(w:World)(wf:WF S)(hk:k<S.length)(hT:zao S [((k:Int),u)]=0)(hS:NdsAt w a S)(hql:q.length≤9223372036854775807)(hQ:zaK w qa q)(hE:zcd q=E)(hE0:E≠0) :
  Calls Tryz.prog 94 #[.agg #[.slice a S.length c],.agg #[.int .i64 (k:Int),.int .i64 u],.slice qa q.length qc] w fun e w' => e=.returned (.tuple #[.slice none 0 0,.int .i64 E])∧Below w.heap.size w w' := by
 have hN:=wf.small
 have hB:=wf.big
 have D1:Hid (∀ W,NdsAt W a S→Calls _ _ _ _ _):=fun W hW=>zgH a c S k S.length u W (by omega) hB hW hT hk (wf.deep_all hk) (by have:=zcA wf hk;omega)
 have d2:=fun W (hW:zaK W qa q)=>zgc qa qc q W hql hW
 rw[hE] at d2
 have D2:Hid _:=d2
 have HS:Hid (NdsAt w a S):=hS
 have HQ:Hid (zaK w qa q):=hQ
 have hz:(E == 0)=false:=by simp[hE0]
 clear hS hQ d2 hE hB wf hT
 generalize (zat S S.length k).length=OL at *
 generalize S.length=n at *
 generalize q.length=L at *
 go_enter Tryz.func94,Tryz.ntmps94
 go_wp2_with fail
 refine(D1.out _ (HS.out.below (zaq _ _ _))).mono ?_
 rintro e w1 ⟨sa,cap,rfl,hb1,_⟩
 simp only[World.size_alloc] at hb1
 have HW1:Hid (Below w.heap.size w w1):=(zaq _ _ _).trans (hb1.mono (by omega))
 clear hb1
 go_wp2_with fail
 refine(D2.out _ (HQ.out.below HW1.out)).mono ?_
 rintro e w2 ⟨rfl,hb2⟩
 have HW2:Hid (Below w.heap.size w w2):=HW1.out.trans (hb2.mono HW1.out.size)
 clear hb2
 go_wp2
 go_ret2
 exact⟨rfl,HW2.out⟩
theorem zfy(f:Int→Bool)(l:List Int)(k:Nat)(h:k<l.length):(l.take (k+1)).filter f=(l.take k).filter f++(if f (l.getD k 0) then [l.getD k 0] else []):=by
 rw[List.take_add_one,List.filter_append,List.getElem?_eq_getElem h,zad l 0 h]
 simp only[Option.toList,List.filter_cons,List.filter_nil]
theorem zop(a:Option Addr)(c:Nat)(S:List Nd)(k:Nat)(u:Int)(qa:Option Addr)(qc:Nat)(q:List Tst)(w:World)(wf:WF S)(hk:k<S.length)(hku:(nd S k).u=true)(hT:zao S [((k:Int),u)]=0)(hS:NdsAt w a S)(hQ:zaK w qa q)(hq:zcd q=0) :
  Calls Tryz.prog 94 #[.agg #[.slice a S.length c],.agg #[.int .i64 (k:Int),.int .i64 u],.slice qa q.length qc] w fun e w' => ∃ fa fc,e=.returned (.tuple #[.slice fa (zcq S k q).length fc,.int .i64 0])∧Below w.heap.size w w' ∧ zah w' fa (zcq S k q)∧(zcq S k q).length≤24∧∀ x:Addr,fa=some x→w.heap.size≤x.block:=by
 have hN:=wf.small
 have hB:=wf.big
 have hlen:=zgr hq
 have hof:=zgo wf hk hku
 have D1:Hid (∀ W,NdsAt W a S→Calls _ _ _ _ _):=fun W hW=>zgH a c S k S.length u W (by omega) hB hW hT hk (wf.deep_all hk) (by have:=zcA wf hk;omega)
 have d2:=fun W (hW:zaK W qa q)=>zgc qa qc q W (by omega) hW
 rw[hq] at d2
 have D2:Hid _:=d2
 have D3:Hid (∀ (p:Nat) W,p<S.length→NdsAt W a S→zaK W qa q→Calls _ _ _ _ _):=fun p W hp h1 h2=>znI a c S p qa qc q W wf hp h1 hlen.2 h2
 have HS:Hid (NdsAt w a S):=hS
 have HQ:Hid (zaK w qa q):=hQ
 have EACH:Hid (∀ i,i<(zal S k).tail.length→∃ p:Nat,(zal S k).tail.getD i 0=p∧p<S.length):=fun i hi=>by
  rw[List.length_tail] at hi
  obtain⟨p,e,hp,_⟩:=hof.each (i+1) (by omega)
  refine⟨p,?_,hp⟩
  rw[← e,zad _ _ (by rw[List.length_tail];omega),zad _ _ (by omega),List.getElem_tail]
 have hpos:=hof.pos
 have hsml:=hof.small
 have TL:Hid (∀ W sa,zah W sa (zal S k)→∃ b o,sa=some ⟨b,o,none⟩∧zah W (some ⟨b,o+1,none⟩) (zal S k).tail):=fun W sa h=>by
  obtain⟨b,o,e,_⟩:=h 0 hpos
  refine⟨b,o,e,fun i hi=>⟨b,o+1,rfl,?_⟩⟩
  rw[List.length_tail] at hi
  obtain⟨b', o', e', hc⟩:=h (i+1) (by omega)
  rw[e] at e'
  cases e'
  rw[show o+1+i=o+(i+1) by omega,hc,zad _ _ (by omega),zad _ _ (by rw[List.length_tail];omega),List.getElem_tail]
 have FT:Hid (∀ i,i<(zal S k).tail.length→((zal S k).tail.take (i+1)).filter (fun p=>isSoF S p q)=((zal S k).tail.take i).filter (fun p=>isSoF S p q)++(if isSoF S ((zal S k).tail.getD i 0) q then [(zal S k).tail.getD i 0] else [])):=fun i hi=>zfy _ _ i hi
 have FE:Hid (zcq S k q=((zal S k).tail.take (zal S k).tail.length).filter (fun p=>isSoF S p q)):=by show _=_;rw[List.take_length];rfl
 have FL:Hid (∀ i,(((zal S k).tail.take i).filter (fun p=>isSoF S p q)).length≤24):=fun i=>by
  refine Nat.le_trans (List.length_filter_le _ _) ?_
  rw[List.length_take,List.length_tail]
  omega
 have hOL:(zat S S.length k).length=(zal S k).tail.length+1:=by rw[List.length_tail];show (zal S k).length=_;omega
 clear hS hQ d2 hq hB wf hT hof hpos hsml
 rw[show zat S S.length k=zal S k from rfl] at D1 hOL
 rw[hOL] at D1
 clear hOL
 generalize zcq S k q=R at *
 generalize hn:S.length=n at *
 have HN:Hid _:=hn
 clear hn
 generalize hl:q.length=L at *
 have HL:Hid _:=hl
 clear hl
 generalize hol:(zal S k).tail.length=OL at *
 have HOL:Hid _:=hol
 clear hol
 obtain⟨i0,hi0,hz0,hz1,hz2⟩:=info_parts info3
 go_enter Tryz.func94,Tryz.ntmps94
 go_wp2_with fail
 refine(D1.out _ (HS.out.below (zaq _ _ _))).mono ?_
 rintro e w1 ⟨sa,cap,rfl,hb1,hI1,hcap1,hcap2⟩
 simp only[World.size_alloc] at hb1
 obtain⟨l0,l1,l2,l3,r0,r1⟩:=zjE hb1
 have HB1:Hid _:=hb1
 have HW1:Hid _:=l3
 obtain⟨ob,oo,hsa,hI1'⟩:=TL.out _ _ hI1
 subst hsa
 have HI1:Hid (zah w1 (some ⟨ob,oo+1,none⟩) (zal S k).tail):=hI1'
 clear hb1 l3 hI1 hI1'
 go_wp2_with fail
 refine(D2.out _ (HQ.out.below HW1.out)).mono ?_
 rintro e w2 ⟨rfl,hb2⟩
 have hs2:=hb2.size
 have HW2:Hid (Below w.heap.size w w2):=HW1.out.trans (hb2.mono HW1.out.size)
 have HI2:Hid (zah w2 (some ⟨ob,oo+1,none⟩) (zal S k).tail):=HI1.out.below hb2
 have hc2:=(hb2.cell (World.block_lt_of_cell? _ _ l0)).trans l0
 have hcw:=World.block_lt_of_cell? _ _ hc2
 have HCW:Hid (w.heap.size<w2.heap.size):=hcw
 clear hb2 l0 l1 l2 r0 r1 HI1
 by_cases hc1:cap=1
 ·subst hc1
  have hOL0:OL=0:=by omega
  have hT0:(zal S k).tail=[]:=List.length_eq_zero_iff.1 (by rw[HOL.out];exact hOL0)
  have HT0:Hid _:=hT0
  clear hT0 hcap1 hcap2
  have HT:Hid (zah w2 (some ⟨ob,oo,none⟩) (zal S k).tail):=(show Hid _ by rw[HT0.out];exact(fun i hi=>absurd hi (Nat.not_lt_zero _)))
  go_wp2
  go_loopg [11,31] OL (fun g1 s11 s31 wr=>∃ (j:Nat),j≤OL∧OL-j≤g1∧s31=.int .i64 j∧Hid (Below w2.heap.size w2 wr)∧wr.cell? ⟨w.heap.size,0,none⟩=some (.slice a n c)∧w.heap.size<wr.heap.size∧Hid (wr.ownsRow w2.heap.size 3 1 s11 (((zal S k).tail.take j).filter (fun p=>isSoF S p q)).length ((((zal S k).tail.take j).filter (fun p=>isSoF S p q)).map (Value.int .i64))))
  case atStart=>exact⟨0,by omega,by omega,rfl,Below.refl _ _,hc2,hcw,World.ownsRow_nil _ _ _ _⟩
  case round =>
   obtain⟨j,hj,hg1,rfl,HB,hc,hcl,HOW⟩:=hrel
   clear hc2 hcw
   obtain⟨pa,pc,hv,hints,hblk⟩:=zar HOW.out
   have HI:Hid _:=hints
   have HK:Hid (∀ x:Addr,pa=some x→w.heap.size≤x.block):=fun x hx=>by
    have h1:=(hblk x.block (by rw[hv,hx];rfl)).1
    have h2:w.heap.size<w2.heap.size:=HCW.out
    omega
   clear hints hblk
   by_cases hlt:j<OL
   ·exact absurd hlt (by omega)
   ·have hj' : j=OL:=by omega
    subst hj'
    have FR:Hid (R=((zal S k).tail.take j).filter (fun p=>isSoF S p q)):=by
     show _=_
     rw[FE.out]
    have FL2:=FL.out j
    rw[← FR.out] at hv HI FL2
    have HB2:Hid (Below w.heap.size w wr):=HW2.out.trans (HB.out.mono HW2.out.size)
    rw[hv]
    clear hv
    generalize hRL:R.length=RL at FL2 ⊢
    have HRL:Hid _:=hRL
    clear hRL
    go_wp2
    go_ret2
    exact⟨pa,pc,by rw[HRL.out];rfl,HB2.out,HI.out,by rw[HRL.out];exact FL2,HK.out⟩
 ·have hcap3:(1:Int)≤(cap:Int):=by omega
  have hcap4:¬ ((cap:Int)=1):=by omega
  have HT:Hid (zah w2 (some ⟨ob,oo+1,none⟩) (zal S k).tail):=HI2
  go_wp2
  go_loopg [11,31] OL (fun g1 s11 s31 wr=>∃ (j:Nat),j≤OL∧OL-j≤g1∧s31=.int .i64 j∧Hid (Below w2.heap.size w2 wr)∧wr.cell? ⟨w.heap.size,0,none⟩=some (.slice a n c)∧w.heap.size<wr.heap.size∧Hid (wr.ownsRow w2.heap.size 3 1 s11 (((zal S k).tail.take j).filter (fun p=>isSoF S p q)).length ((((zal S k).tail.take j).filter (fun p=>isSoF S p q)).map (Value.int .i64))))
  case atStart=>exact⟨0,by omega,by omega,rfl,Below.refl _ _,hc2,hcw,World.ownsRow_nil _ _ _ _⟩
  case round =>
   obtain⟨j,hj,hg1,rfl,HB,hc,hcl,HOW⟩:=hrel
   clear hc2 hcw
   obtain⟨pa,pc,hv,hints,hblk⟩:=zar HOW.out
   have HI:Hid _:=hints
   have HK:Hid (∀ x:Addr,pa=some x→w.heap.size≤x.block):=fun x hx=>by
    have h1:=(hblk x.block (by rw[hv,hx];rfl)).1
    have h2:w.heap.size<w2.heap.size:=HCW.out
    omega
   clear hints hblk
   by_cases hlt:j<OL
   ·have hlt2:(j:Int)<(OL:Int):=by omega
    obtain⟨tb,to,ee,tc⟩:=(HT.out.below HB.out) j (by rw[HOL.out];exact hlt)
    cases ee
    obtain⟨p,hp,hpn⟩:=EACH.out j (by omega)
    have htl:=World.block_lt_of_cell? _ _ tc
    have FJ:=FT.out j (by omega)
    rw[hp] at tc FJ
    have D:Hid _:=D3.out p wr hpn (HS.out.below (HW2.out.trans (HB.out.mono HW2.out.size))) (HQ.out.below (HW2.out.trans (HB.out.mono HW2.out.size)))
    have HFJ:Hid _:=FJ
    have FLJ:=FL.out j
    clear FJ hp
    generalize hA:((zal S k).tail.take j).filter (fun p=>isSoF S p q)=A at *
    have HA:Hid _:=hA
    clear hA
    cases hso:isSoF S p q with
    | false =>
     rw[hso] at D HFJ
     have F2:Hid (((zal S k).tail.take (j+1)).filter (fun p=>isSoF S p q)=A):=by
      show _=_
      rw[HFJ.out];simp
     clear hso hv
     go_wp2_with fail
     refine Calls.mono D.out ?_
     rintro e w3 ⟨rfl,hb3⟩
     have hc3:=(hb3.cell (World.block_lt_of_cell? _ _ hc)).trans hc
     have HB3:Hid (Below w2.heap.size w2 w3):=HB.out.trans (hb3.mono HB.out.size)
     have OW3:Hid (w3.ownsRow w2.heap.size 3 1 u11 A.length (A.map (Value.int .i64))):=HOW.out.kept (row:=none) ⟨hb3.os,hb3.tape,hb3.output,hb3.size,fun k hk _=>hb3.block k hk⟩ (by
      cases hv:u11.ownBlock with
      | none=>exact Or.inl rfl
      | some k=>exact Or.inr (fun e=>by cases e))
     have hz3:=hb3.size
     clear hb3
     go_wp2
     go_roundg (OL-(j+1))
     case measure=>omega
     case rel=>exact⟨j+1,by omega,by omega,by go_num,HB3,hc3,by omega,by rw[F2.out];exact OW3⟩
    | true =>
     rw[hso] at D HFJ
     have F2:Hid (((zal S k).tail.take (j+1)).filter (fun p=>isSoF S p q)=A++[(p:Int)]):=by
      show _=_
      rw[HFJ.out];simp
     clear hso hv
     go_wp2_with fail
     refine Calls.mono D.out ?_
     rintro e w3 ⟨rfl,hb3⟩
     have hc3:=(hb3.cell (World.block_lt_of_cell? _ _ hc)).trans hc
     have HB3:Hid (Below w2.heap.size w2 w3):=HB.out.trans (hb3.mono HB.out.size)
     have OW3:Hid (w3.ownsRow w2.heap.size 3 1 u11 A.length (A.map (Value.int .i64))):=HOW.out.kept (row:=none) ⟨hb3.os,hb3.tape,hb3.output,hb3.size,fun k hk _=>hb3.block k hk⟩ (by
      cases hv:u11.ownBlock with
      | none=>exact Or.inl rfl
      | some k=>exact Or.inr (fun e=>by cases e))
     have hz3:=hb3.size
     have hz0' := HB.out.size
     have hcl3:w.heap.size<w3.heap.size:=by omega
     clear hb3
     go_wp2_with (at_builtin;refine wpList_append_own _ rfl _ _ 29 rfl w2.heap.size 3 i0 (.int .i64 0) 1 8 Tryz.underlying29 hi0 hz0 hz1 hz2 rfl (by decide) _ _ _ rfl (OW3.out.alloc _) ⟨w3.heap.size,0,none⟩ 1 1 [.int .i64 (p:Int)] rfl rfl ?c1 ?c2 ?c3 ?c4 ?c5 ?_)
     case c1 =>
      intro i u hi
      match i,hi with
      | 0,hi=>simp at hi;subst hi;simp[Addr.add]
     case c2=>intro u hu;simp at hu;subst hu;rfl
     case c3=>unfold maxLen;omega
     case c4=>omega
     case c5=>simp;omega
     intro v' w4 hown' hgrow _
     have HB4:Hid (Below w2.heap.size w2 w4):=(HB3.out.alloc HB3.out.size _).grown hgrow (by simp;have:=HB3.out.size;omega) (fun k hk=>(OW3.out.lt k hk).1)
     have hc4:w4.cell? ⟨w.heap.size,0,none⟩=some (.slice a n c):=by
      have h1:=zbX hc3 (.cells #[.int .i64 (p:Int)] 3)
      exact(World.cell?_of_block (hgrow.block _ (by simp;omega) (fun e=>by have h5:w2.heap.size≤w.heap.size:=(OW3.out.lt _ e.symm).1;have h6:w.heap.size<w2.heap.size:=HCW.out;omega))).trans h1
     have hcl4:w.heap.size<w4.heap.size:=by have:=hgrow.size;simp at this;omega
     have OW4:Hid (w4.ownsRow w2.heap.size 3 1 v' (A++[(p:Int)]).length ((A++[(p:Int)]).map (Value.int .i64))):=by
      show _
      rw[List.length_append,List.map_append]
      exact hown'
     clear hown' hgrow
     go_wp2
     go_roundg (OL-(j+1))
     case measure=>omega
     case rel=>exact⟨j+1,by omega,by omega,by go_num,HB4,hc4,hcl4,by rw[F2.out];exact OW4⟩
   ·have hj' : j=OL:=by omega
    subst hj'
    have FR:Hid (R=((zal S k).tail.take j).filter (fun p=>isSoF S p q)):=by
     show _=_
     rw[FE.out]
    have FL2:=FL.out j
    rw[← FR.out] at hv HI FL2
    have HB2:Hid (Below w.heap.size w wr):=HW2.out.trans (HB.out.mono HW2.out.size)
    rw[hv]
    clear hv
    generalize hRL:R.length=RL at FL2 ⊢
    have HRL:Hid _:=hRL
    clear hRL
    go_wp2
    go_ret2
    exact⟨pa,pc,by rw[HRL.out];rfl,HB2.out,HI.out,by rw[HRL.out];exact FL2,HK.out⟩
end Go.Proofs.YtojlkdekdbdpoaaGreat
