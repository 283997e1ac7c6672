/-
  x
-/
import Derived.Test.YtojlkdekdbdpoaaGreatJDqyWeRcDd
import Derived.Test.YtojlkdekdbdpoaaGreatJMwRmRm2Rm3
import Derived.Deep.DeepCutAuto
import Derived.Deep.RegionHeld3
import Derived.BigQuiet
namespace Go.Proofs.YtojlkdekdbdpoaaGreat
set_option maxRecDepth 100000
set_option maxHeartbeats 4000000
open Go.RowKit
set_option linter.unusedVariables false
def zjv:Prop:=∀ (A B:RA) (R Q:Rl) (w:World),BigR R→RlAt w A R→RlAt w B Q →
 Calls Tryz.prog 9 #[rlV A R,rlV B Q] w fun e w' => ∃ r:Bool,e=.returned (.bool r)∧Below w.heap.size w w' ∧(r=true↔R=Q)
structure SaysI (w:World) (xk xq xr xs xn:Int) (A B N Y:RA) (R Q NR YR:Rl) (nb yb:Nat) (V:World):Prop where
 bel:Below w.heap.size w V
 r:V.heap[w.heap.size]?=some (bxR A R)
 x:V.heap[w.heap.size+1]?=some (.cells #[.int .i64 xk,.int .i64 xq,.int .i64 xr,.int .i64 xs,.int .i64 xn] 33 (0,0))
 q:V.heap[w.heap.size+1+1]?=some (bxR B Q)
 n:V.heap[nb]?=some (bxR N NR)
 y:V.heap[yb]?=some (bxR Y YR)
 hr:RlAt V A R
 hq:RlAt V B Q
 hn:RlAt V N NR
 hy:RlAt V Y YR
theorem SaysI.below{w:World}{xk xq xr xs xn:Int}{A B N Y:RA}{R Q NR YR:Rl}{nb yb:Nat}{V V' : World}(I:SaysI w xk xq xr xs xn A B N Y R Q NR YR nb yb V)(hb:Below V.heap.size V V'):SaysI w xk xq xr xs xn A B N Y R Q NR YR nb yb V' :=
 ⟨I.bel.trans (hb.mono I.bel.size),keepB I.r hb,keepB I.x hb,keepB I.q hb,keepB I.n hb,keepB I.y hb,I.hr.below hb,I.hq.below hb,I.hn.below hb,I.hy.below hb⟩
theorem SaysI.off{w:World}{xk xq xr xs xn:Int}{A B N Y:RA}{R Q NR YR:Rl}{nb yb fb:Nat}{V V' : World}(I:SaysI w xk xq xr xs xn A B N Y R Q NR YR nb yb V)(hs:SlB V fb)(ho:OffB fb V V')(h0:w.heap.size+1+1<fb)(h1:nb≠fb)(h2:yb≠fb)(hb:Below w.heap.size w V'):SaysI w xk xq xr xs xn A B N Y R Q NR YR nb yb V' :=
 ⟨hb,keepO I.r ho (by omega),keepO I.x ho (by omega),keepO I.q ho (by omega),keepO I.n ho h1,keepO I.y ho h2,I.hr.offB hs ho,I.hq.offB hs ho,I.hn.offB hs ho,I.hy.offB hs ho⟩
theorem zdH(W:World):∀ j,j<8→(W.alloc (.cells #[.bool false,.int .i64 0,.int .i64 0,.int .i64 0,.int .i64 (-1),.slice none 0 0,.int .i64 (-1),.bool false] 44)).cell? ⟨W.heap.size,j,none⟩=some (patV j):=fun j hj =>
 zac W _ _ j (by
  match j,hj with
  | 0,_=>rfl
  | 1,_=>rfl
  | 2,_=>rfl
  | 3,_=>rfl
  | 4,_=>rfl
  | 5,_=>rfl
  | 6,_=>rfl
  | 7,_=>rfl)
theorem zog(p:Int):BigR (newR p):=by
 unfold newR
 split
 ·rename_i h
  have wf:=zpS p.toNat (by omega)
  exact⟨by rw[List.length_replicate];omega,wf.big,by rw[List.length_replicate];omega,Nat.zero_le _,fun _ h=>absurd h (Nat.not_lt_zero _),Nat.zero_le _⟩
 ·exact zjV
theorem zgZ(hC:zbH)(hN:zjX)(hD:DoAns)(hK:zhF)(hS:zjv)(A B:RA)(R Q:Rl)(x:Ac)(pl:Int)(w:World)(hB:BigR R)(hL:RlAt w A R)(hLQ:RlAt w B Q) :
  Calls Tryz.prog 3 #[rlV A R,acV x,.int .i64 pl,rlV B Q] w fun e w' => e=.returned (.bool true)∧Below w.heap.size w w' := by
 obtain⟨a0,a1,a2,a3,c0,c1,c2,c3⟩:=A
 obtain⟨b0,b1,b2,b3,d0,d1,d2,d3⟩:=B
 obtain⟨xk,xq,xr,xs,xn⟩:=x
 have D1:Hid (∀ W,_):=fun W=>zoQ hN (R:=newR pl) (E:=newE pl) rfl rfl W
 have DH:Hid zjm:=zly hN hD
 obtain⟨⟨fE,YR,fo⟩,hdo⟩:∃ s,doF R ⟨xk,xq,xr,xs,xn⟩=s:=⟨_,rfl⟩
 have D2:Hid _:=do_at hD (x:=⟨xk,xq,xr,xs,xn⟩) hB hdo a0 a1 a2 a3 c0 c1 c2 c3
 have D3:Hid (∀ W,RlAt W ⟨a0,a1,a2,a3,c0,c1,c2,c3⟩ R→_):=fun W hW=>ziT hC ⟨a0,a1,a2,a3,c0,c1,c2,c3⟩ R W hB hW
 have D4:Hid (∀ W,RlAt W ⟨a0,a1,a2,a3,c0,c1,c2,c3⟩ R→_):=fun W hW=>hK ⟨a0,a1,a2,a3,c0,c1,c2,c3⟩ R W hB hW
 have D5:Hid (∀ W,RlAt W ⟨a0,a1,a2,a3,c0,c1,c2,c3⟩ R→RlAt W ⟨b0,b1,b2,b3,d0,d1,d2,d3⟩ Q→_):=fun W h1 h2=>hS ⟨a0,a1,a2,a3,c0,c1,c2,c3⟩ ⟨b0,b1,b2,b3,d0,d1,d2,d3⟩ R Q W hB h1 h2
 have D6:Hid (∀ W,RlAt W ⟨a0,a1,a2,a3,c0,c1,c2,c3⟩ R→RlAt W ⟨b0,b1,b2,b3,d0,d1,d2,d3⟩ Q→_):=fun W h1 h2=>zeU ⟨a0,a1,a2,a3,c0,c1,c2,c3⟩ ⟨b0,b1,b2,b3,d0,d1,d2,d3⟩ R Q W hB h1 h2
 have BNR:=zog pl
 have BYR:BigR YR:=by have:=zjt R ⟨xk,xq,xr,xs,xn⟩;rw[hdo] at this;exact this
 have D7:Hid (∀ (N F:RA) W,RlAt W N (newR pl)→RlAt W F (newR pl)→_):=fun N F W h1 h2=>zeU N F (newR pl) (newR pl) W BNR h1 h2
 have D8:Hid (∀ (Y Z:RA) (YG:Rl) W,RlAt W Y YR→RlAt W Z YG→_):=fun Y Z YG W h1 h2=>zeU Y Z YR YG W BYR h1 h2
 have FF:Hid (zay R≠0→fE=zay R∧fo=0∧YR=zaR):=fun h=>by
  unfold doF at hdo
  rw[if_neg h] at hdo
  cases hdo
  exact⟨rfl,rfl,rfl⟩
 have DG:Hid (zay R=0→∀ W,RlAt W ⟨a0,a1,a2,a3,c0,c1,c2,c3⟩ R→Calls Tryz.prog 12 #[.agg #[.slice a0 R.s.length c0,.slice a1 R.hs.length c1,.slice a2 R.i.length c2,.slice a3 R.t.length c3],.agg #[.int .i64 xk,.int .i64 xq,.int .i64 xr,.int .i64 xs,.int .i64 xn]] W fun e w' => ∃ (z0 z1 z2 z3:Option Addr) (h0 h1 h2 h3:Nat),e=.returned (.tuple #[.agg #[.slice z0 YR.s.length h0,.slice z1 YR.hs.length h1,.slice z2 YR.i.length h2,.slice z3 YR.t.length h3],.int .i64 fo,.int .i64 fE])∧Below W.heap.size W w' ∧ RlAt w' ⟨z0,z1,z2,z3,h0,h1,h2,h3⟩ YR):=fun h W hW=>by
  refine(znc hC ⟨a0,a1,a2,a3,c0,c1,c2,c3⟩ R ⟨xk,xq,xr,xs,xn⟩ W h hW).mono ?_
  rintro e w' ⟨⟨z0,z1,z2,z3,h0,h1,h2,h3⟩,e1,hb,hr⟩
  unfold doF at hdo
  rw[if_pos h] at hdo
  rw[hdo] at e1 hr
  exact⟨z0,z1,z2,z3,h0,h1,h2,h3,e1,hb,hr⟩
 have HL:Hid (RlAt w ⟨a0,a1,a2,a3,c0,c1,c2,c3⟩ R):=hL
 have HQ:Hid (RlAt w ⟨b0,b1,b2,b3,d0,d1,d2,d3⟩ Q):=hLQ
 have NEW:Hid ((¬ (0≤pl∧pl≤24)→newE pl=2∧newR pl=zaR)∧∀ m:Nat,pl=m→m≤24→newE pl=0∧newR pl=⟨List.replicate m zaM,List.replicate 16 (0,0),[],[]⟩):=⟨fun h=>⟨if_neg h,if_neg h⟩,fun m e h=>by
  subst e
  have h2:0≤(m:Int)∧(m:Int)≤24:=by omega
  exact⟨if_pos h2,by unfold newR;rw[if_pos h2,Int.toNat_natCast]⟩⟩
 clear hL hLQ hC hN hD hK hS hB hdo BNR BYR
 dsimp only[rlV,acV]
 generalize newR pl=NR at *
 generalize newE pl=NE at *
 generalize zay R=BE at *
 go_enter Tryz.func3,Tryz.ntmps3
 go_wp2_with fail
 refine Calls.mono (D1.out _) ?_
 rintro e w1 ⟨n0,n1,n2,n3,m0,m1,m2,m3,rfl,hb1,hn1⟩
 have W0B:Below w.heap.size w (((w.alloc (.cells #[.slice a0 R.s.length c0,.slice a1 R.hs.length c1,.slice a2 R.i.length c2,.slice a3 R.t.length c3] 31)).alloc (.cells #[.int .i64 xk,.int .i64 xq,.int .i64 xr,.int .i64 xs,.int .i64 xn] 33)).alloc (.cells #[.slice b0 Q.s.length d0,.slice b1 Q.hs.length d1,.slice b2 Q.i.length d2,.slice b3 Q.t.length d3] 31)):=(zaf w _ _).trans ((zab _ _).mono (by first|(simp;done)|(simp;omega)))
 have HB1:Hid (Below w.heap.size w w1):=W0B.trans (hb1.mono W0B.size)
 have br:w1.heap[w.heap.size]?=some (bxR ⟨a0,a1,a2,a3,c0,c1,c2,c3⟩ R):=(hb1.block _ (by first|(simp;done)|(simp;omega))).trans (((zab _ _).block _ (by first|(simp;done)|(simp;omega))).trans (((zab _ _).block _ (by simp)).trans (zbE _ _ _ _ _ _)))
 have bxx:w1.heap[w.heap.size+1]?=some (.cells #[.int .i64 xk,.int .i64 xq,.int .i64 xr,.int .i64 xs,.int .i64 xn] 33 (0,0)):=(hb1.block _ (by first|(simp;done)|(simp;omega))).trans (((zab _ _).block _ (by simp)).trans (by simpa using heap_alloc_new (w.alloc (.cells #[.slice a0 R.s.length c0,.slice a1 R.hs.length c1,.slice a2 R.i.length c2,.slice a3 R.t.length c3] 31)) (.cells #[.int .i64 xk,.int .i64 xq,.int .i64 xr,.int .i64 xs,.int .i64 xn] 33)))
 have bq:w1.heap[w.heap.size+1+1]?=some (bxR ⟨b0,b1,b2,b3,d0,d1,d2,d3⟩ Q):=(hb1.block _ (by simp)).trans (by simpa using heap_alloc_new ((w.alloc (.cells #[.slice a0 R.s.length c0,.slice a1 R.hs.length c1,.slice a2 R.i.length c2,.slice a3 R.t.length c3] 31)).alloc (.cells #[.int .i64 xk,.int .i64 xq,.int .i64 xr,.int .i64 xs,.int .i64 xn] 33)) (.cells #[.slice b0 Q.s.length d0,.slice b1 Q.hs.length d1,.slice b2 Q.i.length d2,.slice b3 Q.t.length d3] 31))
 have HR1:Hid (RlAt w1 ⟨a0,a1,a2,a3,c0,c1,c2,c3⟩ R):=HL.out.below HB1.out
 have HQ1:Hid (RlAt w1 ⟨b0,b1,b2,b3,d0,d1,d2,d3⟩ Q):=HQ.out.below HB1.out
 have HN1:Hid (RlAt w1 ⟨n0,n1,n2,n3,m0,m1,m2,m3⟩ NR):=hn1
 have HBR:Hid _:=br
 have HBX:Hid _:=bxx
 have HBQ:Hid _:=bq
 have l0:w1.cell? ⟨w.heap.size,0,none⟩=some (.slice a0 R.s.length c0):=(zaa br).1
 have l1:w1.cell? ⟨w.heap.size,1,none⟩=some (.slice a1 R.hs.length c1):=(zaa br).2.1
 have l2:w1.cell? ⟨w.heap.size,2,none⟩=some (.slice a2 R.i.length c2):=(zaa br).2.2.1
 have l3:w1.cell? ⟨w.heap.size,3,none⟩=some (.slice a3 R.t.length c3):=(zaa br).2.2.2.1
 have ll:w.heap.size<w1.heap.size:=zaz br
 obtain⟨x0,x1,x2,x3,x4,xl⟩:=zaH bxx
 clear hb1 hn1 br bxx bq W0B
 go_wp2_with fail
 refine Calls.mono (D2.out _ (HR1.out.below (zab _ _))) ?_
 rintro e w2 ⟨y0,y1,y2,y3,e0,e1,e2,e3,rfl,hb2,hy2⟩
 have hbb:Below w1.heap.size w1 w2:=(zab _ _).trans (hb2.mono (by simp))
 have bn:w2.heap[w1.heap.size]?=some (bxR ⟨n0,n1,n2,n3,m0,m1,m2,m3⟩ NR):=(hb2.block _ (by simp)).trans (heap_alloc_new w1 (.cells #[.slice n0 NR.s.length m0,.slice n1 NR.hs.length m1,.slice n2 NR.i.length m2,.slice n3 NR.t.length m3] 31))
 replace l0:=keepC l0 hbb
 replace l1:=keepC l1 hbb
 replace l2:=keepC l2 hbb
 replace l3:=keepC l3 hbb
 have ll2:w.heap.size<w2.heap.size:=World.block_lt_of_cell? _ _ l0
 clear ll x0 x1 x2 x3 x4 xl
 have HI:Hid (SaysI w xk xq xr xs xn ⟨a0,a1,a2,a3,c0,c1,c2,c3⟩ ⟨b0,b1,b2,b3,d0,d1,d2,d3⟩ ⟨n0,n1,n2,n3,m0,m1,m2,m3⟩ ⟨y0,y1,y2,y3,e0,e1,e2,e3⟩ R Q NR YR w1.heap.size w2.heap.size (w2.alloc (.cells #[.slice y0 YR.s.length e0,.slice y1 YR.hs.length e1,.slice y2 YR.i.length e2,.slice y3 YR.t.length e3] 31))):=by
  have hv:Below w2.heap.size w2 (w2.alloc (.cells #[.slice y0 YR.s.length e0,.slice y1 YR.hs.length e1,.slice y2 YR.i.length e2,.slice y3 YR.t.length e3] 31)):=zab _ _
  have h12:Below w1.heap.size w1 (w2.alloc (.cells #[.slice y0 YR.s.length e0,.slice y1 YR.hs.length e1,.slice y2 YR.i.length e2,.slice y3 YR.t.length e3] 31)):=hbb.trans (hv.mono hbb.size)
  exact⟨HB1.out.trans (h12.mono HB1.out.size),keepB HBR.out h12,keepB HBX.out h12,keepB HBQ.out h12,keepB bn hv,heap_alloc_new w2 (.cells #[.slice y0 YR.s.length e0,.slice y1 YR.hs.length e1,.slice y2 YR.i.length e2,.slice y3 YR.t.length e3] 31),HR1.out.below h12,HQ1.out.below h12,HN1.out.below h12,hy2.below hv⟩
 have s21:w1.heap.size<w2.heap.size:=zaz bn
 have s1:w.heap.size+1+1<w1.heap.size:=zaz HBQ.out
 clear hb2 hy2 hbb bn HBR HBX HBQ HR1 HQ1 HN1 HB1 D1 D2
 go_wp2_with fail
 refine Calls.mono (D3.out _ HI.out.hr) ?_
 rintro e w3 ⟨rfl,hb3⟩
 have HI3:Hid (SaysI w xk xq xr xs xn ⟨a0,a1,a2,a3,c0,c1,c2,c3⟩ ⟨b0,b1,b2,b3,d0,d1,d2,d3⟩ ⟨n0,n1,n2,n3,m0,m1,m2,m3⟩ ⟨y0,y1,y2,y3,e0,e1,e2,e3⟩ R Q NR YR w1.heap.size w2.heap.size w3):=HI.out.below hb3
 have s3:w2.heap.size<w3.heap.size:=zaz HI3.out.y
 clear hb3 D3 HI l0 l1 l2 l3 ll2
 have l0:w3.cell? ⟨w.heap.size,0,none⟩=some (.slice a0 R.s.length c0):=(zaa HI3.out.r).1
 have l1:w3.cell? ⟨w.heap.size,1,none⟩=some (.slice a1 R.hs.length c1):=(zaa HI3.out.r).2.1
 have l2:w3.cell? ⟨w.heap.size,2,none⟩=some (.slice a2 R.i.length c2):=(zaa HI3.out.r).2.2.1
 have l3:w3.cell? ⟨w.heap.size,3,none⟩=some (.slice a3 R.t.length c3):=(zaa HI3.out.r).2.2.2.1
 have lf:∀ o,w3.frozen? ⟨w.heap.size,o,none⟩=false:=(zaa HI3.out.r).2.2.2.2.1
 have ll:w.heap.size<w3.heap.size:=(zaa HI3.out.r).2.2.2.2.2
 have q0:w3.cell? ⟨w.heap.size+1+1,0,none⟩=some (.slice b0 Q.s.length d0):=(zaa HI3.out.q).1
 have q1:w3.cell? ⟨w.heap.size+1+1,1,none⟩=some (.slice b1 Q.hs.length d1):=(zaa HI3.out.q).2.1
 have q2:w3.cell? ⟨w.heap.size+1+1,2,none⟩=some (.slice b2 Q.i.length d2):=(zaa HI3.out.q).2.2.1
 have q3:w3.cell? ⟨w.heap.size+1+1,3,none⟩=some (.slice b3 Q.t.length d3):=(zaa HI3.out.q).2.2.2.1
 have qf:∀ o,w3.frozen? ⟨w.heap.size+1+1,o,none⟩=false:=(zaa HI3.out.q).2.2.2.2.1
 have ql:w.heap.size+1+1<w3.heap.size:=(zaa HI3.out.q).2.2.2.2.2
 have neq1:(BE == BE)=true:=by simp
 go_wp2_with fail
 go_region_held3 (fun w'' => w''.cell? ⟨w.heap.size,0,none⟩=some (.slice a0 R.s.length c0)∧w''.cell? ⟨w.heap.size,1,none⟩=some (.slice a1 R.hs.length c1)∧w''.cell? ⟨w.heap.size,2,none⟩=some (.slice a2 R.i.length c2)∧w''.cell? ⟨w.heap.size,3,none⟩=some (.slice a3 R.t.length c3)∧w''.cell? ⟨w.heap.size+1+1,0,none⟩=some (.slice b0 Q.s.length d0)∧w''.cell? ⟨w.heap.size+1+1,1,none⟩=some (.slice b1 Q.hs.length d1)∧w''.cell? ⟨w.heap.size+1+1,2,none⟩=some (.slice b2 Q.i.length d2)∧w''.cell? ⟨w.heap.size+1+1,3,none⟩=some (.slice b3 Q.t.length d3)) (go_keep) (first|(go_at_call 7;refine Calls.mono (DH.out _) ?_;rintro e w4 ⟨rfl,hb⟩;have HBw4:Hid (Below w3.heap.size w3 w4):=(Below.refl w3.heap.size w3).drew.trans hb;have l0a:=keepC l0 HBw4.out;have l1a:=keepC l1 HBw4.out;have l2a:=keepC l2 HBw4.out;have l3a:=keepC l3 HBw4.out;have q0a:=keepC q0 HBw4.out;have q1a:=keepC q1 HBw4.out;have q2a:=keepC q2 HBw4.out;have q3a:=keepC q3 HBw4.out;clear hb)|(go_at_call 8;refine Calls.mono (D4.out _ (HI3.out.below HBw4.out).hr) ?_;rintro e w5 ⟨rfl,hb⟩;have HBw5:Hid (Below w3.heap.size w3 w5):=HBw4.out.trans (hb.mono HBw4.out.size);have l0b:=keepC l0 HBw5.out;have l1b:=keepC l1 HBw5.out;have l2b:=keepC l2 HBw5.out;have l3b:=keepC l3 HBw5.out;have q0b:=keepC q0 HBw5.out;have q1b:=keepC q1 HBw5.out;have q2b:=keepC q2 HBw5.out;have q3b:=keepC q3 HBw5.out;clear hb)|(go_at_call 9;refine Calls.mono (D5.out _ (HI3.out.below HBw5.out).hr (HI3.out.below HBw5.out).hq) ?_;rintro e w6 ⟨r1,rfl,hb,hr1⟩;have HBw6:Hid (Below w3.heap.size w3 w6):=HBw5.out.trans (hb.mono HBw5.out.size);have l0c:=keepC l0 HBw6.out;have l1c:=keepC l1 HBw6.out;have l2c:=keepC l2 HBw6.out;have l3c:=keepC l3 HBw6.out;have q0c:=keepC q0 HBw6.out;have q1c:=keepC q1 HBw6.out;have q2c:=keepC q2 HBw6.out;have q3c:=keepC q3 HBw6.out;clear hb)|(go_at_call 10;refine Calls.mono (D6.out _ (HI3.out.below HBw6.out).hr (HI3.out.below HBw6.out).hq) ?_;rintro e w7 ⟨r2,rfl,hb,hr2⟩;have HBw7:Hid (Below w3.heap.size w3 w7):=HBw6.out.trans (hb.mono HBw6.out.size);have er:r1=r2:=Bool.eq_iff_iff.2 (hr1.trans hr2.symm);subst er;have l0d:=keepC l0 HBw7.out;have l1d:=keepC l1 HBw7.out;have l2d:=keepC l2 HBw7.out;have l3d:=keepC l3 HBw7.out;have q0d:=keepC q0 HBw7.out;have q1d:=keepC q1 HBw7.out;have q2d:=keepC q2 HBw7.out;have q3d:=keepC q3 HBw7.out;clear hb))
 have HI7:Hid (SaysI w xk xq xr xs xn ⟨a0,a1,a2,a3,c0,c1,c2,c3⟩ ⟨b0,b1,b2,b3,d0,d1,d2,d3⟩ ⟨n0,n1,n2,n3,m0,m1,m2,m3⟩ ⟨y0,y1,y2,y3,e0,e1,e2,e3⟩ R Q NR YR w1.heap.size w2.heap.size w7):=HI3.out.below HBw7.out
 have s7:w2.heap.size<w7.heap.size:=zaz HI7.out.y
 have s71:w1.heap.size<w7.heap.size:=zaz HI7.out.n
 clear l0 l0a l0b l0c l0d l1 l1a l1b l1c l1d l2 l2a l2b l2c l2d l3 l3a l3b l3c l3d q0 q0a q0b q0c q0d q1 q1a q1b q1c q1d q2 q2a q2b q2c q2d q3 q3a q3b q3c q3d lf ll qf ql HBw4 HBw5 HBw6 HBw7 HI3 D4 D5 D6 DH hr1 hr2 neq1 s3
 obtain⟨BP,hBP⟩:∃ b:Bool,decide (0≤pl∧pl≤24)=b:=⟨_,rfl⟩
 have HBP:Hid (decide (0≤pl∧pl≤24)=BP):=hBP
 clear hBP
 go_upto_region 8 with fail
 go_cut [57] (fun s57 wx=>s57=.bool BP∧wx=w7.alloc (.cells #[.slice none 0 0,.slice none 0 0,.slice none 0 0,.slice none 0 0] 31))
 case first =>
  have hb3:=HBP.out
  by_cases h1:0≤pl
  ·have b1:decide (0≤pl)=true:=decide_eq_true h1
   by_cases h2:pl≤24
   ·have e:BP=true:=by rw[← hb3];exact decide_eq_true ⟨h1,h2⟩
    subst e
    clear hb3 HBP
    have b2:decide (pl≤24)=true:=decide_eq_true h2
    go_wp2_with fail
    go_meet
    case rel=>exact⟨rfl,rfl⟩
   ·have e:BP=false:=by rw[← hb3];exact decide_eq_false (fun h=>h2 h.2)
    subst e
    clear hb3 HBP
    have b2:decide (pl≤24)=false:=decide_eq_false h2
    go_wp2_with fail
    go_meet
    case rel=>exact⟨rfl,rfl⟩
  ·have b1:decide (0≤pl)=false:=decide_eq_false h1
   have e:BP=false:=by rw[← hb3];exact decide_eq_false (fun h=>h1 h.1)
   subst e
   clear hb3 HBP
   go_wp2_with fail
   go_meet
   case rel=>exact⟨rfl,rfl⟩
 case rest =>
 obtain⟨rfl,hwc⟩:=hcut
 have hwc2:=hwc.symm
 clear hwc
 subst hwc2
 go_upto_if 57 with fail
 go_cut [16] (fun s16 wx=>s16=.int .i64 NE∧Hid (∃ (f0 f1 f2 f3:Option Addr) (g0 g1 g2 g3:Nat),wx.heap[w7.heap.size]?=some (bxR ⟨f0,f1,f2,f3,g0,g1,g2,g3⟩ NR)∧RlAt wx ⟨f0,f1,f2,f3,g0,g1,g2,g3⟩ NR∧SaysI w xk xq xr xs xn ⟨a0,a1,a2,a3,c0,c1,c2,c3⟩ ⟨b0,b1,b2,b3,d0,d1,d2,d3⟩ ⟨n0,n1,n2,n3,m0,m1,m2,m3⟩ ⟨y0,y1,y2,y3,e0,e1,e2,e3⟩ R Q NR YR w1.heap.size w2.heap.size wx))
 case first =>
  cases BP with
  | true =>
   have hpl:0≤pl∧pl≤24:=of_decide_eq_true HBP.out
   obtain⟨m,hm⟩:∃ m:Nat,pl=m:=⟨pl.toNat,by omega⟩
   have hm24:m≤24:=by omega
   obtain⟨en1,en2⟩:=NEW.out.2 m hm hm24
   subst en1
   have HNR:Hid (NR=⟨List.replicate m zaM,List.replicate 16 (0,0),[],[]⟩):=en2
   have DRp:Hid (∀ (xb xc:Nat) (W:World),(∀ j,j<8→W.cell? ⟨xb,j,none⟩=some (patV j))→_):=fun xb xc W h=>zlk m xb xc hm24 W h
   subst hm
   have hmk:=zej
   clear en2 NEW hpl HBP
   obtain⟨Z,hZ⟩:∃ Z,w7.alloc (.cells #[.slice none 0 0,.slice none 0 0,.slice none 0 0,.slice none 0 0] 31)=Z:=⟨_,rfl⟩
   have bZ:Z.heap[w7.heap.size]?=some (.cells #[.slice none 0 0,.slice none 0 0,.slice none 0 0,.slice none 0 0] 31 (0,0)):=by rw[← hZ];exact heap_alloc_new w7 _
   have HIZ:Hid (SaysI w xk xq xr xs xn ⟨a0,a1,a2,a3,c0,c1,c2,c3⟩ ⟨b0,b1,b2,b3,d0,d1,d2,d3⟩ ⟨n0,n1,n2,n3,m0,m1,m2,m3⟩ ⟨y0,y1,y2,y3,e0,e1,e2,e3⟩ R Q NR YR w1.heap.size w2.heap.size Z):=by rw[← hZ];exact HI7.out.below (zab _ _)
   rw[hZ]
   clear hZ HI7
   have l0:Z.cell? ⟨w.heap.size,0,none⟩=some (.slice a0 R.s.length c0):=(zaa HIZ.out.r).1
   have ll:w.heap.size<Z.heap.size:=zaz HIZ.out.r
   obtain⟨k0,k1,k2,k3,kf,kl⟩:=zaa bZ
   have FIN:Hid (∀ (w8:World) (gr hb:Nat),Below Z.heap.size Z w8→NdsAt w8 (some ⟨gr,0,none⟩) (List.replicate m zaM)→∀ X' : World,Below ((((w8.setCell ⟨w7.heap.size,0,none⟩ (.slice (some ⟨gr,0,none⟩) m m)).setCell ⟨w7.heap.size,1,none⟩ (.slice (some ⟨hb,0,none⟩) 16 16)).setCell ⟨w7.heap.size,2,none⟩ (.slice none 0 0)).setCell ⟨w7.heap.size,3,none⟩ (.slice none 0 0)).heap.size ((((w8.setCell ⟨w7.heap.size,0,none⟩ (.slice (some ⟨gr,0,none⟩) m m)).setCell ⟨w7.heap.size,1,none⟩ (.slice (some ⟨hb,0,none⟩) 16 16)).setCell ⟨w7.heap.size,2,none⟩ (.slice none 0 0)).setCell ⟨w7.heap.size,3,none⟩ (.slice none 0 0)) X' → zak X' (some ⟨hb,0,none⟩) (List.replicate 16 (0,0))→∃ (f0 f1 f2 f3:Option Addr) (g0 g1 g2 g3:Nat),X'.heap[w7.heap.size]?=some (bxR ⟨f0,f1,f2,f3,g0,g1,g2,g3⟩ NR)∧RlAt X' ⟨f0,f1,f2,f3,g0,g1,g2,g3⟩ NR∧SaysI w xk xq xr xs xn ⟨a0,a1,a2,a3,c0,c1,c2,c3⟩ ⟨b0,b1,b2,b3,d0,d1,d2,d3⟩ ⟨n0,n1,n2,n3,m0,m1,m2,m3⟩ ⟨y0,y1,y2,y3,e0,e1,e2,e3⟩ R Q NR YR w1.heap.size w2.heap.size X'):=fun w8 gr hb hb8 hn8 X' hX hH=>by
    have I8:=HIZ.out.below hb8
    have hbx:=keepB bZ hb8
    have ho:OffB w7.heap.size w8 ((((w8.setCell ⟨w7.heap.size,0,none⟩ (.slice (some ⟨gr,0,none⟩) m m)).setCell ⟨w7.heap.size,1,none⟩ (.slice (some ⟨hb,0,none⟩) 16 16)).setCell ⟨w7.heap.size,2,none⟩ (.slice none 0 0)).setCell ⟨w7.heap.size,3,none⟩ (.slice none 0 0)):=(OffB.refl _ _).set.set.set.set
    have hle:w.heap.size≤w7.heap.size:=by omega
    have I9:=I8.off (sl4 hbx) ho (by omega) (by omega) (by omega) ((((I8.bel.setCell hle _).setCell hle _).setCell hle _).setCell hle _)
    refine⟨some ⟨gr,0,none⟩,some ⟨hb,0,none⟩,none,none,m,16,0,0,?_,?_,I9.below hX⟩
    ·rw[HNR.out]
     have h:=keepB (zbc (u0:=.slice (some ⟨gr,0,none⟩) m m) (u1:=.slice (some ⟨hb,0,none⟩) 16 16) (u2:=.slice none 0 0) (u3:=.slice none 0 0) hbx) hX
     rw[h]
     simp[bxR]
    ·rw[HNR.out]
     exact⟨(hn8.offB (sl4 hbx) ho).below hX,hH,fun _ h=>absurd h (Nat.not_lt_zero _),fun _ h=>absurd h (Nat.not_lt_zero _)⟩
   have ne1:¬ w7.heap.size=w.heap.size:=by omega
   have ne2:¬ w.heap.size=w7.heap.size:=by omega
   go_upto_region 10 with fail
   go_region_held3 (fun w'' => w''.cell? ⟨w.heap.size,0,none⟩=some (.slice a0 R.s.length c0)) (go_keep) (first|(go_at_call 11;refine Calls.mono (DRp.out _ _ _ ?pt) ?_;(case pt=>first|exact zdH _|exact fun j hj=>zdH Z j hj|exact fun j hj=>keepC (zdH Z j hj) ((zab _ _).drew)|exact fun j hj=>(by have h:=zdH (Z.alloc (.cells (madeCells #[.int .i64 0,.int .i64 0] 32) 60)) j hj;rw[World.size_alloc] at h;exact h));rintro e w8 ⟨gr,rfl,hb,hn8⟩;have HB8:Hid (Below Z.heap.size Z w8):=(by first|exact((Below.refl Z.heap.size Z).drew.alloc (Nat.le_refl _) _).trans (hb.mono (by simp))|exact(((Below.refl Z.heap.size Z).drew.alloc (Nat.le_refl _) _).alloc (by simp) _).trans (hb.mono (by simp;omega)));have HN8:Hid (NdsAt w8 (some ⟨gr,0,none⟩) (List.replicate m zaM)):=hn8;have HK8:Hid (Below _ _ w8):=hb;have l0' := keepC l0 HB8.out;have k0' := keepC k0 HB8.out;have k1' := keepC k1 HB8.out;have k2' := keepC k2 HB8.out;have k3' := keepC k3 HB8.out;have kf' : ∀ o,w8.frozen? ⟨w7.heap.size,o,none⟩=false:=fun o=>(HB8.out.frozen (show (⟨w7.heap.size,o,none⟩:Addr).block<Z.heap.size from kl)).trans (kf o);have kl' : w7.heap.size<w8.heap.size:=World.block_lt_of_cell? _ _ k0'; have ll' : w.heap.size<w8.heap.size:=World.block_lt_of_cell? _ _ l0'; clear hb hn8))
   ·have HH:zak (((((w8.setCell ⟨w7.heap.size,0,none⟩ (.slice (some ⟨gr,0,none⟩) m m)).setCell ⟨w7.heap.size,1,none⟩ (.slice (some ⟨w8.heap.size,0,none⟩) 16 16)).setCell ⟨w7.heap.size,2,none⟩ (.slice none 0 0)).setCell ⟨w7.heap.size,3,none⟩ (.slice none 0 0)).alloc (.cells (madeCells #[.int .i64 0,.int .i64 0] 32) 60)) (some ⟨w8.heap.size,0,none⟩) (List.replicate 16 (0,0)):=by
     have h:=zdM ((((w8.setCell ⟨w7.heap.size,0,none⟩ (.slice (some ⟨gr,0,none⟩) m m)).setCell ⟨w7.heap.size,1,none⟩ (.slice (some ⟨w8.heap.size,0,none⟩) 16 16)).setCell ⟨w7.heap.size,2,none⟩ (.slice none 0 0)).setCell ⟨w7.heap.size,3,none⟩ (.slice none 0 0))
     rw[show ((((w8.setCell ⟨w7.heap.size,0,none⟩ (.slice (some ⟨gr,0,none⟩) m m)).setCell ⟨w7.heap.size,1,none⟩ (.slice (some ⟨w8.heap.size,0,none⟩) 16 16)).setCell ⟨w7.heap.size,2,none⟩ (.slice none 0 0)).setCell ⟨w7.heap.size,3,none⟩ (.slice none 0 0)).heap.size=w8.heap.size by simp] at h
     exact h
    have FF:Hid _:=FIN.out w8 gr w8.heap.size HB8.out HN8.out _ (zab _ _) HH
    clear FIN k0' k1' k2' k3' kf' l0' HH
    go_wp2_with fail
    go_meet
    case rel=>exact⟨rfl,FF⟩
   ·have HH8:zak w8 (some ⟨Z.heap.size+1,0,none⟩) (List.replicate 16 (0,0)):=by
     have h:=zdM (Z.alloc (.cells #[.bool false,.int .i64 0,.int .i64 0,.int .i64 0,.int .i64 (-1),.slice none 0 0,.int .i64 (-1),.bool false] 44))
     rw[World.size_alloc] at h
     exact(h.below (Below.refl _ _).drew).below HK8.out
    have FF:Hid _:=FIN.out w8 gr (Z.heap.size+1) HB8.out HN8.out _ (Below.refl _ _) (HH8.offB (sl4 (keepB bZ HB8.out)) (OffB.refl _ _).set.set.set.set)
    clear FIN k0' k1' k2' k3' kf' l0' HH8
    go_wp2_with fail
    go_meet
    case rel=>exact⟨rfl,FF⟩
   ·have HH8:zak w8 (some ⟨Z.heap.size,0,none⟩) (List.replicate 16 (0,0)):=((zdM Z).below ((zab _ _).drew)).below HK8.out
    have FF:Hid _:=FIN.out w8 gr Z.heap.size HB8.out HN8.out _ (Below.refl _ _) (HH8.offB (sl4 (keepB bZ HB8.out)) (OffB.refl _ _).set.set.set.set)
    clear FIN k0' k1' k2' k3' kf' l0' HH8
    go_wp2_with fail
    go_meet
    case rel=>exact⟨rfl,FF⟩
  | false =>
   have hpl:¬ (0≤pl∧pl≤24):=of_decide_eq_false HBP.out
   obtain⟨en1,en2⟩:=NEW.out.1 hpl
   subst en1
   have HF:Hid (∃ (f0 f1 f2 f3:Option Addr) (g0 g1 g2 g3:Nat),(w7.alloc (.cells #[.slice none 0 0,.slice none 0 0,.slice none 0 0,.slice none 0 0] 31)).heap[w7.heap.size]?=some (bxR ⟨f0,f1,f2,f3,g0,g1,g2,g3⟩ NR)∧RlAt (w7.alloc (.cells #[.slice none 0 0,.slice none 0 0,.slice none 0 0,.slice none 0 0] 31)) ⟨f0,f1,f2,f3,g0,g1,g2,g3⟩ NR∧SaysI w xk xq xr xs xn ⟨a0,a1,a2,a3,c0,c1,c2,c3⟩ ⟨b0,b1,b2,b3,d0,d1,d2,d3⟩ ⟨n0,n1,n2,n3,m0,m1,m2,m3⟩ ⟨y0,y1,y2,y3,e0,e1,e2,e3⟩ R Q NR YR w1.heap.size w2.heap.size (w7.alloc (.cells #[.slice none 0 0,.slice none 0 0,.slice none 0 0,.slice none 0 0] 31))):=by
    refine⟨none,none,none,none,0,0,0,0,?_,?_,HI7.out.below (zab _ _)⟩
    ·rw[en2]
     exact heap_alloc_new w7 _
    ·rw[en2]
     exact zaI _ _
   clear en2 NEW HBP hpl
   go_wp2_with fail
   go_meet
   case rel=>exact⟨rfl,HF⟩
 case rest =>
 obtain⟨rfl,HR⟩:=hcut
 obtain⟨f0,f1,f2,f3,g0,g1,g2,g3,bf,hf,hI⟩:=HR.out
 have HIc:Hid (SaysI w xk xq xr xs xn ⟨a0,a1,a2,a3,c0,c1,c2,c3⟩ ⟨b0,b1,b2,b3,d0,d1,d2,d3⟩ ⟨n0,n1,n2,n3,m0,m1,m2,m3⟩ ⟨y0,y1,y2,y3,e0,e1,e2,e3⟩ R Q NR YR w1.heap.size w2.heap.size wc):=hI
 have HFc:Hid (RlAt wc ⟨f0,f1,f2,f3,g0,g1,g2,g3⟩ NR):=hf
 clear HR hI hf NEW HBP HI7
 have u0:wc.cell? ⟨w1.heap.size,0,none⟩=some (.slice n0 NR.s.length m0):=(zaa HIc.out.n).1
 have u1:wc.cell? ⟨w1.heap.size,1,none⟩=some (.slice n1 NR.hs.length m1):=(zaa HIc.out.n).2.1
 have u2:wc.cell? ⟨w1.heap.size,2,none⟩=some (.slice n2 NR.i.length m2):=(zaa HIc.out.n).2.2.1
 have u3:wc.cell? ⟨w1.heap.size,3,none⟩=some (.slice n3 NR.t.length m3):=(zaa HIc.out.n).2.2.2.1
 have ul:w1.heap.size<wc.heap.size:=zaz HIc.out.n
 have v0:wc.cell? ⟨w7.heap.size,0,none⟩=some (.slice f0 NR.s.length g0):=(zaa bf).1
 have v1:wc.cell? ⟨w7.heap.size,1,none⟩=some (.slice f1 NR.hs.length g1):=(zaa bf).2.1
 have v2:wc.cell? ⟨w7.heap.size,2,none⟩=some (.slice f2 NR.i.length g2):=(zaa bf).2.2.1
 have v3:wc.cell? ⟨w7.heap.size,3,none⟩=some (.slice f3 NR.t.length g3):=(zaa bf).2.2.2.1
 have vl:w7.heap.size<wc.heap.size:=zaz bf
 have HSZ:Hid (w7.heap.size<wc.heap.size):=zaz bf
 clear bf
 go_wp2_with fail
 refine Calls.mono (D7.out ⟨n0,n1,n2,n3,m0,m1,m2,m3⟩ ⟨f0,f1,f2,f3,g0,g1,g2,g3⟩ _ HIc.out.hn HFc.out) ?_
 rintro e w9 ⟨r3,rfl,hb9,hr3⟩
 obtain rfl:r3=true:=(by first|exact hr3.2 rfl|exact hr3.2 trivial)
 have HI9:Hid (SaysI w xk xq xr xs xn ⟨a0,a1,a2,a3,c0,c1,c2,c3⟩ ⟨b0,b1,b2,b3,d0,d1,d2,d3⟩ ⟨n0,n1,n2,n3,m0,m1,m2,m3⟩ ⟨y0,y1,y2,y3,e0,e1,e2,e3⟩ R Q NR YR w1.heap.size w2.heap.size w9):=HIc.out.below hb9
 clear hb9 hr3 HIc HFc D7 HSZ
 clear u0 u1 u2 u3 ul v0 v1 v2 v3 vl
 by_cases hBE:BE=0
 ·subst hBE
  have l0:w9.cell? ⟨w.heap.size,0,none⟩=some (.slice a0 R.s.length c0):=(zaa HI9.out.r).1
  have l1:w9.cell? ⟨w.heap.size,1,none⟩=some (.slice a1 R.hs.length c1):=(zaa HI9.out.r).2.1
  have l2:w9.cell? ⟨w.heap.size,2,none⟩=some (.slice a2 R.i.length c2):=(zaa HI9.out.r).2.2.1
  have l3:w9.cell? ⟨w.heap.size,3,none⟩=some (.slice a3 R.t.length c3):=(zaa HI9.out.r).2.2.2.1
  have ll:w.heap.size<w9.heap.size:=zaz HI9.out.r
  obtain⟨x0,x1,x2,x3,x4,xl⟩:=zaH HI9.out.x
  go_wp2_with fail
  refine Calls.mono (DG.out (by first|rfl|trivial) _ HI9.out.hr) ?_
  rintro e w10 ⟨z0,z1,z2,z3,h0,h1,h2,h3,rfl,hb10,hz⟩
  have HI10:Hid (SaysI w xk xq xr xs xn ⟨a0,a1,a2,a3,c0,c1,c2,c3⟩ ⟨b0,b1,b2,b3,d0,d1,d2,d3⟩ ⟨n0,n1,n2,n3,m0,m1,m2,m3⟩ ⟨y0,y1,y2,y3,e0,e1,e2,e3⟩ R Q NR YR w1.heap.size w2.heap.size w10):=HI9.out.below hb10
  have HZ:Hid (RlAt w10 ⟨z0,z1,z2,z3,h0,h1,h2,h3⟩ YR):=hz
  clear hb10 hz HI9 DG x0 x1 x2 x3 x4 xl
  clear l0 l1 l2 l3 ll
  have v0:w10.cell? ⟨w2.heap.size,0,none⟩=some (.slice y0 YR.s.length e0):=(zaa HI10.out.y).1
  have v1:w10.cell? ⟨w2.heap.size,1,none⟩=some (.slice y1 YR.hs.length e1):=(zaa HI10.out.y).2.1
  have v2:w10.cell? ⟨w2.heap.size,2,none⟩=some (.slice y2 YR.i.length e2):=(zaa HI10.out.y).2.2.1
  have v3:w10.cell? ⟨w2.heap.size,3,none⟩=some (.slice y3 YR.t.length e3):=(zaa HI10.out.y).2.2.2.1
  have vl:w2.heap.size<w10.heap.size:=zaz HI10.out.y
  go_wp2_with fail
  refine Calls.mono (D8.out ⟨y0,y1,y2,y3,e0,e1,e2,e3⟩ ⟨z0,z1,z2,z3,h0,h1,h2,h3⟩ YR _ (HI10.out.hy.below (zab _ _)) (HZ.out.below (zab _ _))) ?_
  rintro e w11 ⟨r4,rfl,hb11,hr4⟩
  obtain rfl:r4=true:=(by first|exact hr4.2 rfl|exact hr4.2 trivial)
  have HB11:Hid (Below w.heap.size w w11):=HI10.out.bel.trans (((zab _ _).trans (hb11.mono (by simp))).mono HI10.out.bel.size)
  clear hb11 hr4 D8
  clear v0 v1 v2 v3 vl
  go_wp2_with fail
  go_ret
  exact⟨rfl,HB11.out⟩
 ·obtain⟨hf1,hf2,hf3⟩:=FF.out hBE
  subst hf1 hf2 hf3
  have bz1:decide (fE=0)=false:=decide_eq_false hBE
  have bz2:(fE == 0)=false:=beq_eq_false_iff_ne.2 hBE
  have bz3:(fE != 0)=true:=by simp[hBE]
  have v0:w9.cell? ⟨w2.heap.size,0,none⟩=some (.slice y0 zaR.s.length e0):=(zaa HI9.out.y).1
  have v1:w9.cell? ⟨w2.heap.size,1,none⟩=some (.slice y1 zaR.hs.length e1):=(zaa HI9.out.y).2.1
  have v2:w9.cell? ⟨w2.heap.size,2,none⟩=some (.slice y2 zaR.i.length e2):=(zaa HI9.out.y).2.2.1
  have v3:w9.cell? ⟨w2.heap.size,3,none⟩=some (.slice y3 zaR.t.length e3):=(zaa HI9.out.y).2.2.2.1
  have vl:w2.heap.size<w9.heap.size:=zaz HI9.out.y
  go_wp2_with fail
  refine Calls.mono (D8.out ⟨y0,y1,y2,y3,e0,e1,e2,e3⟩ ⟨none,none,none,none,0,0,0,0⟩ zaR _ HI9.out.hy (zaI _ _)) ?_
  rintro e w11 ⟨r4,rfl,hb11,hr4⟩
  obtain rfl:r4=true:=(by first|exact hr4.2 rfl|exact hr4.2 trivial)
  have HB11:Hid (Below w.heap.size w w11):=HI9.out.bel.trans (hb11.mono HI9.out.bel.size)
  clear hb11 hr4 D8
  clear v0 v1 v2 v3 vl
  go_wp2_with fail
  go_ret
  exact⟨rfl,HB11.out⟩
end Go.Proofs.YtojlkdekdbdpoaaGreat

namespace Go.Proofs.YtojlkdekdbdpoaaGreat
set_option maxRecDepth 100000
set_option maxHeartbeats 4000000
open Go.RowKit
set_option linter.unusedVariables false
theorem zkk(A B:RA)(R Q:Rl)(w:World)(hB:BigR R)(h1:RlAt w A R)(h2:RlAt w B Q) :
  Calls Tryz.prog 9 #[rlV A R,rlV B Q] w fun e w' => ∃ r:Bool,e=.returned (.bool r)∧Below w.heap.size w w' ∧(r=true↔R=Q):=by
 obtain⟨a0,a1,a2,a3,c0,c1,c2,c3⟩:=A
 obtain⟨b0,b1,b2,b3,d0,d1,d2,d3⟩:=B
 have EX:Hid (R=Q↔R.s=Q.s∧R.hs=Q.hs∧R.i=Q.i∧R.t=Q.t):=zoJ
 obtain⟨g1,g2,g3,g4,g5,g6⟩:=hB
 have D1:Hid (∀ W,Below w.heap.size w W→_):=fun W hW=>zot a0 b0 c0 d0 R.s Q.s W g1 g2 (h1.1.below hW) (h2.1.below hW)
 have D2:Hid (∀ W,Below w.heap.size w W→_):=fun W hW=>zeb a1 b1 c1 d1 R.hs Q.hs W g3 (h1.2.1.below hW) (h2.2.1.below hW)
 have D3:Hid (∀ W,Below w.heap.size w W→_):=fun W hW=>znj a2 b2 c2 d2 R.i Q.i W g4 g5 (h1.2.2.1.below hW) (h2.2.2.1.below hW)
 have D4:Hid (∀ W,Below w.heap.size w W→Calls Tryz.prog 24 #[.slice a3 R.t.length c3,.slice b3 Q.t.length d3] W fun e w' => ∃ r:Bool,e=.returned (.bool r)∧Below W.heap.size W w' ∧(r=true↔R.t=Q.t)):=fun W hW=>(zcN a3 b3 c3 d3 R.t Q.t W g6 (h1.2.2.2.below hW) (h2.2.2.2.below hW)).mono fun e w' ⟨e1,hb⟩=>⟨_,e1,hb,decide_eq_true_iff⟩
 clear h1 h2 g1 g2 g3 g4 g5 g6
 dsimp only[rlV]
 generalize R.s=x0 at *
 generalize Q.s=y0 at *
 generalize R.hs=x1 at *
 generalize Q.hs=y1 at *
 generalize R.i=x2 at *
 generalize Q.i=y2 at *
 generalize R.t=x3 at *
 generalize Q.t=y3 at *
 generalize x0.length=m0 at *
 generalize y0.length=n0 at *
 generalize x1.length=m1 at *
 generalize y1.length=n1 at *
 generalize x2.length=m2 at *
 generalize y2.length=n2 at *
 generalize x3.length=m3 at *
 generalize y3.length=n3 at *
 go_enter Tryz.func9,Tryz.ntmps9
 go_wp2_with fail
 refine Calls.mono (D1.out _ (zaf _ _ _)) ?_
 rintro e W1 ⟨r1,rfl,hb,hr⟩
 have HR1:Hid _:=hr
 clear hr
 have HB:Hid (Below w.heap.size w W1):=(zaf w _ _).trans (hb.mono (by simp;omega))
 have l0:=keepC (zaL w #[.slice a0 m0 c0,.slice a1 m1 c1,.slice a2 m2 c2,.slice a3 m3 c3] 31 0 (.cells #[.slice b0 n0 d0,.slice b1 n1 d1,.slice b2 n2 d2,.slice b3 n3 d3] 31) rfl) hb
 have m0' := keepC (zaN w #[.slice b0 n0 d0,.slice b1 n1 d1,.slice b2 n2 d2,.slice b3 n3 d3] 31 0 (.cells #[.slice a0 m0 c0,.slice a1 m1 c1,.slice a2 m2 c2,.slice a3 m3 c3] 31) rfl) hb
 have l1:=keepC (zaL w #[.slice a0 m0 c0,.slice a1 m1 c1,.slice a2 m2 c2,.slice a3 m3 c3] 31 1 (.cells #[.slice b0 n0 d0,.slice b1 n1 d1,.slice b2 n2 d2,.slice b3 n3 d3] 31) rfl) hb
 have m1' := keepC (zaN w #[.slice b0 n0 d0,.slice b1 n1 d1,.slice b2 n2 d2,.slice b3 n3 d3] 31 1 (.cells #[.slice a0 m0 c0,.slice a1 m1 c1,.slice a2 m2 c2,.slice a3 m3 c3] 31) rfl) hb
 have l2:=keepC (zaL w #[.slice a0 m0 c0,.slice a1 m1 c1,.slice a2 m2 c2,.slice a3 m3 c3] 31 2 (.cells #[.slice b0 n0 d0,.slice b1 n1 d1,.slice b2 n2 d2,.slice b3 n3 d3] 31) rfl) hb
 have m2' := keepC (zaN w #[.slice b0 n0 d0,.slice b1 n1 d1,.slice b2 n2 d2,.slice b3 n3 d3] 31 2 (.cells #[.slice a0 m0 c0,.slice a1 m1 c1,.slice a2 m2 c2,.slice a3 m3 c3] 31) rfl) hb
 have l3:=keepC (zaL w #[.slice a0 m0 c0,.slice a1 m1 c1,.slice a2 m2 c2,.slice a3 m3 c3] 31 3 (.cells #[.slice b0 n0 d0,.slice b1 n1 d1,.slice b2 n2 d2,.slice b3 n3 d3] 31) rfl) hb
 have m3' := keepC (zaN w #[.slice b0 n0 d0,.slice b1 n1 d1,.slice b2 n2 d2,.slice b3 n3 d3] 31 3 (.cells #[.slice a0 m0 c0,.slice a1 m1 c1,.slice a2 m2 c2,.slice a3 m3 c3] 31) rfl) hb
 clear hb D1
 cases r1
 ·go_wp2_with fail
  go_ret
  exact⟨_,rfl,HB.out,⟨fun h=>(by cases h),fun h=>(by have:=HR1.out.2 ((EX.out.1 h).1);cases this)⟩⟩
 go_wp2_with fail
 refine Calls.mono (D2.out _ HB.out) ?_
 rintro e W2 ⟨r2,rfl,hb,hr⟩
 have HR2:Hid _:=hr
 clear hr
 have HB:Hid (Below w.heap.size w W2):=HB.out.trans (hb.mono HB.out.size)
 have l0:=keepC l0 hb
 have m0' := keepC m0' hb
 have l1:=keepC l1 hb
 have m1' := keepC m1' hb
 have l2:=keepC l2 hb
 have m2' := keepC m2' hb
 have l3:=keepC l3 hb
 have m3' := keepC m3' hb
 clear hb D2
 cases r2
 ·go_wp2_with fail
  go_ret
  exact⟨_,rfl,HB.out,⟨fun h=>(by cases h),fun h=>(by have:=HR2.out.2 ((EX.out.1 h).2.1);cases this)⟩⟩
 go_wp2_with fail
 refine Calls.mono (D3.out _ HB.out) ?_
 rintro e W3 ⟨r3,rfl,hb,hr⟩
 have HR3:Hid _:=hr
 clear hr
 have HB:Hid (Below w.heap.size w W3):=HB.out.trans (hb.mono HB.out.size)
 have l0:=keepC l0 hb
 have m0' := keepC m0' hb
 have l1:=keepC l1 hb
 have m1' := keepC m1' hb
 have l2:=keepC l2 hb
 have m2' := keepC m2' hb
 have l3:=keepC l3 hb
 have m3' := keepC m3' hb
 clear hb D3
 cases r3
 ·go_wp2_with fail
  go_ret
  exact⟨_,rfl,HB.out,⟨fun h=>(by cases h),fun h=>(by have:=HR3.out.2 ((EX.out.1 h).2.2.1);cases this)⟩⟩
 go_wp2_with fail
 refine Calls.mono (D4.out _ HB.out) ?_
 rintro e W4 ⟨r4,rfl,hb,hr⟩
 have HR4:Hid _:=hr
 clear hr
 have HB:Hid (Below w.heap.size w W4):=HB.out.trans (hb.mono HB.out.size)
 have l0:=keepC l0 hb
 have m0' := keepC m0' hb
 have l1:=keepC l1 hb
 have m1' := keepC m1' hb
 have l2:=keepC l2 hb
 have m2' := keepC m2' hb
 have l3:=keepC l3 hb
 have m3' := keepC m3' hb
 clear hb D4
 go_wp2_with fail
 go_ret
 exact⟨_,rfl,HB.out,⟨fun h=>EX.out.2 ⟨HR1.out.1 trivial,HR2.out.1 trivial,HR3.out.1 trivial,HR4.out.1 h⟩,fun h=>HR4.out.2 (EX.out.1 h).2.2.2⟩⟩
theorem zlO:zjv:=fun A B R Q w hB h1 h2=>zkk A B R Q w hB h1 h2
end Go.Proofs.YtojlkdekdbdpoaaGreat
