/-
  x
-/
import Derived.Test.YtojlkdekdbdpoaaGreatJWrXb
import Derived.Test.YtojlkdekdbdpoaaGreatJSrWfXdZaTlTmTnZf
import Derived.Deep.RegionHeld3
namespace Go.Proofs.YtojlkdekdbdpoaaGreat
set_option maxRecDepth 100000
set_option maxHeartbeats 4000000
open Go.RowKit
theorem zpa(a:Option Addr)(c:Nat)(S:List Nd)(k:Nat)(u:Int)(w:World)(hN:S.length≤24)(hB:∀ i,i<S.length→(nd S i).ks.length≤1000)(hS:NdsAt w a S)(hk:k<S.length)(hF:findE S k u=0)(hT:zdk S k) :
  Calls Tryz.prog 43 #[.agg #[.slice a S.length c],.agg #[.int .i64 k,.int .i64 u]] w fun e w' => ∃ g,e=.returned (.tuple #[.agg #[.slice (some ⟨g,0,none⟩) S.length S.length],.int .i64 0])∧Below w.heap.size w w' ∧ w.heap.size≤g∧∀ w3:World,(∀ b,g≤b→w3.heap[b]?=w'.heap[b]?)→NdsAt w3 (some ⟨g,0,none⟩) (S.set k (zbY (nd S k))):=by
 have hK:=Nat.le_trans (hB k hk) (show 1000≤1000000 by omega)
 have dc:=fun(W:World) (hW:NdsAt W a S)=>copy_any a c S W hN hB hW
 have DC:Hid _:=dc
 replace hB:Big S:=fun i hi=>Nat.le_trans (hB i hi) (by omega)
 have D1:Hid (∀ W,NdsAt W a S→Calls _ _ _ _ _):=fun W hW=>find_ok a c S k u W (by omega) hB hW hk hF hK
 obtain⟨r,hr⟩:∃ r,zae (nd S k)=r:=⟨_,rfl⟩
 obtain⟨hb0,hhb⟩:∃ b,hostB S k=b:=⟨_,rfl⟩
 have d2:=fun(v:Value) W=>zcI (nd S k) v W
 rw[show (if (nd S k).h = -1 then (nd S k).p else (nd S k).h)=r from hr] at d2
 have D2:Hid _:=d2
 have d3:=fun W hW=>zcV a c S (k:Int) W (by omega) hW (by omega)
 rw[hhb] at d3
 have D3:Hid _:=d3
 have HS:Hid (NdsAt w a S):=hS
 have N8:Hid (∀ (w w3:World) (B g:Nat) (kb kc:Nat→Nat),Own w B g S kb kc S.length→_→NdsAt w3 (some ⟨g,0,none⟩) (S.set k (zbY (nd S k)))):=fun w w3 B g kb kc h hup=>Own.nil8 h hk (zbY (nd S k)) rfl w3 hup
 have OC:Hid (∀ (wr:World) (B g:Nat) (kb kc:Nat→Nat),Own wr B g S kb kc S.length→(g<wr.heap.size∧(∀ o,wr.frozen? ⟨g,o,none⟩=false)∧(∃ v0 v1 v2 v3 v4 v5 v6 v7,wr.cell? ⟨g,k*8,none⟩=some v0∧wr.cell? ⟨g,k*8+1,none⟩=some v1∧wr.cell? ⟨g,k*8+2,none⟩=some v2∧wr.cell? ⟨g,k*8+3,none⟩=some v3∧wr.cell? ⟨g,k*8+4,none⟩=some v4∧wr.cell? ⟨g,k*8+5,none⟩=some v5∧wr.cell? ⟨g,k*8+6,none⟩=some v6∧wr.cell? ⟨g,k*8+7,none⟩=some v7))):=fun wr B g kb kc h=>by
  obtain⟨_,F,hF,hNd,_⟩:=h
  exact⟨hF.lt,hF.frozen,_,_,_,_,_,_,_,_,hF.cell (by omega),hF.cell (by omega),hF.cell (by omega),hF.cell (by omega),hF.cell (by omega),hF.cell (by omega),hF.cell (by omega),hF.cell (by omega)⟩
 obtain⟨t1,t2,t3⟩:=hT
 rw[hr] at t1
 rw[hhb] at t3
 subst t1 t3
 have t4:(nd S k).ks.length=0:=by rw[t2];rfl
 have hk2:(k:Int)<(S.length:Int):=by omega
 have hk3:decide ((k:Int)<0)=false:=decide_eq_false (by omega)
 unfold zbY at N8 ⊢
 clear hS d2 d3 dc hF hB hr hhb t2 hK
 generalize hx:nd S k=x at *
 clear hx
 obtain⟨xu,xn,xt,xm,xp,xks,xh,xc⟩:=x
 dsimp only at *
 generalize xks.length=L at *
 subst t4
 generalize hn:S.length=n at *
 clear hn
 go_enter Tryz.func43,Tryz.ntmps43
 go_wp2_with (go_at_call 87;refine(D1.out _ (HS.out.below (zaj _ _ _ _))).mono ?_;rintro e w1 ⟨kg,rfl,hb1,hkg⟩;clear hkg;simp only[World.size_alloc] at hb1;obtain⟨l0,l1,l2,l3,z3⟩:=zbK hb1;have hs1:=hb1.size;simp only[World.size_alloc] at hs1;have q0:w.heap.size<w1.heap.size:=(by omega);have q1:w.heap.size+1<w1.heap.size:=(by omega);have q2:w.heap.size+1+1<w1.heap.size:=(by omega))
 refine(D2.out _ _).mono ?_
 rintro e w2 ⟨rfl,hb2⟩
 simp only[World.size_alloc] at hb2
 obtain⟨hb12,n0,n1,n2,n3,n4,n5,n6,n7⟩:=zdj hb1 hs1 hb2
 have hs2:=hb2.size
 simp only[World.size_alloc] at hs2
 clear l0 l1 l2 l3 z3
 obtain⟨l0,l1,l2,l3,z3⟩:=zbK hb12
 have HBO:Hid (Below w.heap.size w w2):=(zaj _ _ _ _).trans (hb12.mono (by omega))
 have HB1:Hid _:=hb1
 have HB2:Hid _:=hb2
 have q3:w1.heap.size<w2.heap.size:=by omega
 clear hb1 hb2 hb12
 go_wp2_with fail
 refine(D3.out _ (HS.out.below HBO.out)).mono ?_
 rintro e w3 ⟨rfl,hb3⟩
 have hs3:=hb3.size
 have HBO3:Hid (Below w.heap.size w w3):=HBO.out.trans (hb3.mono (by have:=HBO.out.size;omega))
 have hb23:=HB2.out.trans (hb3.mono hs2)
 clear l0 l1 l2 l3 z3 n0 n1 n2 n3 n4 n5 n6 n7 hb3 HB2
 obtain⟨hb13,n0,n1,n2,n3,n4,n5,n6,n7⟩:=zdj HB1.out hs1 hb23
 obtain⟨l0,l1,l2,l3,z3⟩:=zbK hb13
 have r1:w1.heap.size<w3.heap.size:=by omega
 have r2:w.heap.size<w3.heap.size:=by omega
 have r3:w.heap.size+1<w3.heap.size:=by omega
 have r4:w.heap.size+1+1<w3.heap.size:=by omega
 have HB23:Hid _:=hb23
 clear hb13 hb23
 go_wp2_with fail
 refine(DC.out _ (HS.out.below HBO3.out)).mono ?_
 rintro e w4 ⟨g,kb,kc,rfl,hb4,hO4⟩
 have hg:w3.heap.size≤g:=hO4.1
 have hs34:w1.heap.size+1≤w3.heap.size:=by omega
 have hb24:=HB23.out.trans (hb4.mono hs34)
 have hs4:=hb4.size
 have HBO4:Hid (Below w.heap.size w w4):=HBO3.out.trans (hb4.mono (by have:=HBO3.out.size;omega))
 clear l0 l1 l2 l3 z3 n0 n1 n2 n3 n4 n5 n6 n7 HB23
 obtain⟨hb14,n0,n1,n2,n3,n4,n5,n6,n7⟩:=zdj HB1.out hs1 hb24
 obtain⟨l0,l1,l2,l3,z3⟩:=zbK hb14
 obtain⟨hglt,hfz,v0,v1,v2,v3,v4,v5,v6,v7,d0,d1,d2,d3,d4,d5,d6,d7⟩:=OC.out _ _ _ _ _ hO4
 have hgge:w1.heap.size<g:=by omega
 have HO4:Hid (Own w4 w3.heap.size g S kb kc n):=hO4
 have HB14:Hid _:=hb14
 clear hb14 hb24 hO4 hb4 hg
 go_wp2_with fail
 have t1:w1.heap.size<w4.heap.size:=by omega
 obtain⟨W5,hW5⟩:∃ W5,W5=w4.alloc (Obj.cells #[Value.slice (some ⟨g,0,none⟩) n n] 24):=⟨_,rfl⟩
 rw[← hW5]
 have k8:W5.cell? ⟨w4.heap.size,0,none⟩=some (.slice (some ⟨g,0,none⟩) n n):=by rw[hW5];go_simp
 have k9:W5.cell? ⟨w1.heap.size,1,none⟩=some (.int .i64 xn):=by rw[hW5];go_simp
 have hsz:W5.heap.size=w4.heap.size+1:=by rw[hW5];simp
 have hbl:Below w4.heap.size w4 W5:=by rw[hW5];exact(Below.refl _ _).alloc (Nat.le_refl _) _
 have hb5:=HB14.out.trans (hbl.mono (by have:=HB14.out.size;simp at this;omega))
 have HBO5:Hid (Below w.heap.size w W5):=HBO4.out.trans (hbl.mono HBO4.out.size)
 have HO5:Hid (Own W5 w3.heap.size g S kb kc n):=Own.below HO4.out hbl
 clear l0 l1 l2 l3 z3 n0 n1 n2 n3 n4 n5 n6 n7 d0 d1 d2 d3 d4 d5 d6 d7 hfz HO4 HB14 hW5 hbl
 obtain⟨l0,l1,l2,l3,z3⟩:=zbK hb5
 obtain⟨_,hfz,v0', v1', v2', v3', v4', v5', v6', v7', d0,d1,d2,d3,d4,d5,d6,d7⟩:=OC.out _ _ _ _ _ HO5.out
 have u1:w4.heap.size<W5.heap.size:=by omega
 have u2:w1.heap.size<W5.heap.size:=by omega
 have u3:w.heap.size+1<W5.heap.size:=by omega
 have u4:w.heap.size+1+1<W5.heap.size:=by omega
 have u5:g<W5.heap.size:=by omega
 have u6:w.heap.size+1+1<g:=by omega
 have HSZ:Hid (W5.heap.size=w4.heap.size+1):=hsz
 clear hb5 hsz
 have ne1:=World.new_ne W5 _ k8
 have ne2:=World.new_ne W5 _ k9
 have ne3:=World.new_ne W5 _ l1
 have e1:¬ g=w4.heap.size:=by omega
 have e2:¬ w4.heap.size=g:=by omega
 have e3:¬ g=w.heap.size+1:=by omega
 have e4:¬ w.heap.size+1=g:=by omega
 have e5:¬ g=w1.heap.size:=by omega
 have e6:¬ w1.heap.size=g:=by omega
 clear HBO4 HBO3 HBO HB1 HS D1 D2 D3 DC OC
 go_region_held3 (fun w'' => w''.cell? ⟨w4.heap.size,0,none⟩=some (.slice (some ⟨g,0,none⟩) n n)∧w''.cell? ⟨w.heap.size+1,0,none⟩=some (.int .i64 k)∧w''.cell? ⟨w1.heap.size,1,none⟩=some (.int .i64 xn)) (go_keep) (first|(go_at_call 40;refine(zeT _ _).mono ?_;rintro e w' ⟨rfl,rfl⟩))
 all_goals (try go_wp2)
 all_goals
  refine bodyPost_ret (v:=.tuple #[.agg #[.slice (some ⟨g,0,none⟩) n n],.int .i64 0]) (by simp only[results,Tryz.results43];go_simp) rfl ⟨g,rfl,?_,by omega,fun w3 hup=>?_⟩
  ·first
    | exact((((((((((HBO5.out.setCell (by simp;omega) _).setCell (by simp;omega) _).setCell (by simp;omega) _).setCell (by simp;omega) _).setCell (by simp;omega) _).setCell (by simp;omega) _).setCell (by simp;omega) _).setCell (by simp;omega) _).setCell (by simp;omega) _).alloc (by simp;omega) _).drew
    | exact((((((((((HBO5.out.setCell (by simp;omega) _).setCell (by simp;omega) _).setCell (by simp;omega) _).setCell (by simp;omega) _).setCell (by simp;omega) _).setCell (by simp;omega) _).setCell (by simp;omega) _).setCell (by simp;omega) _).alloc (by simp;omega) _).setCell (by simp;omega) _).drew
  ·refine N8.out W5 w3 _ g kb kc HO5.out (fun b hb hlt=>(hup b hb).trans ?_)
   first
    |(rw[heap_drew,((Below.refl _ _).alloc (Nat.le_refl _) _).block b (by simpa using hlt),Below.heap_setCell _ _ _ _ (by show b≠w.heap.size+1+1;omega)])
    |(rw[heap_drew,Below.heap_setCell _ _ _ _ (by show b≠w.heap.size+1+1;omega),((Below.refl _ _).alloc (Nat.le_refl _) _).block b (by simpa using hlt)])
end Go.Proofs.YtojlkdekdbdpoaaGreat

namespace Go.Proofs.YtojlkdekdbdpoaaGreat
set_option maxRecDepth 100000
set_option maxHeartbeats 4000000
open Go.RowKit
theorem zdb{w w1:World}{a:Option Addr}{n c:Nat}{p u:Int}(hb:Below (w.heap.size+1+1+1+1) ((((w.alloc (.cells #[.slice a n c] 24)).alloc (.cells #[.int .i64 p,.int .i64 u] 60)).alloc (.cells #[.slice none 0 0] 24)).alloc (.cells #[.int .i64 0,.int .i64 0] 60)) w1) :
  w1.cell? ⟨w.heap.size,0,none⟩=some (.slice a n c)∧w1.cell? ⟨w.heap.size+1,0,none⟩=some (.int .i64 p)∧w1.cell? ⟨w.heap.size+1,1,none⟩=some (.int .i64 u)∧w1.cell? ⟨w.heap.size+1+1,0,none⟩=some (.slice none 0 0)∧w1.cell? ⟨w.heap.size+1+1+1,0,none⟩=some (.int .i64 0)∧w1.cell? ⟨w.heap.size+1+1+1,1,none⟩=some (.int .i64 0)∧(∀ o,w1.frozen? ⟨w.heap.size+1+1,o,none⟩=false)∧(∀ o,w1.frozen? ⟨w.heap.size+1+1+1,o,none⟩=false):=by
 refine⟨?_,?_,?_,?_,?_,?_,fun o=>?_,fun o=>?_⟩
 all_goals first|exact(hb.cell (by first|(simp;done)|(simp;omega))).trans (by go_simp)|exact(hb.frozen (by first|(simp;done)|(simp;omega))).trans (by go_simp)
theorem zlH(a:Option Addr)(c:Nat)(S:List Nd)(k f:Nat)(u:Int)(cl:Bool)(w:World)(wf:WF S)(hS:NdsAt w a S)(hk:k<S.length)(hE:findE S k u=0)(hH:hostB S k=false)(hf:f<S.length)(hfr:freeB (nd S f)=true)(hall:∀ i,i<f→freeB (nd S i)=false) :
  Calls Tryz.prog 98 #[.agg #[.slice a S.length c],.agg #[.int .i64 (k:Int),.int .i64 u],.bool cl] w fun e w' => ∃ g,e=.returned (.tuple #[.agg #[.slice (some ⟨g,0,none⟩) S.length S.length],.agg #[.int .i64 (f:Int),.int .i64 ((nd S f).n+1)],.int .i64 0])∧Below w.heap.size w w' ∧ w.heap.size≤g∧OwnR w' g (S.set f (zbq (nd S f) k cl)):=by
 have hN:=wf.small
 have D0:Hid (∀ W,NdsAt W a S→Calls _ _ _ _ _):=fun W hW=>find_ok a c S k u W (by omega) wf.big hW hk hE (by have:=wf.kids_small hk;omega)
 have d1:=fun W hW=>zcV a c S (k:Int) W (by omega) hW (by omega)
 rw[hH] at d1
 have D1:Hid _:=d1
 have D2:Hid (∀ W,NdsAt W a S→Calls _ _ _ _ _):=fun W hW=>zjR a c S 0 W hN (fun i hi=>by have:=wf.kids_small hi;omega) hW ((zcK _).2 wf) (by omega) (by omega) f hf hfr (wf.uses hf).1 hall
 have HS:Hid (NdsAt w a S):=hS
 have RT:Hid (∀ W g,OwnR W g (S.set f (zbg (nd S f) 0))→OwnR ((W.setCell ⟨g,f*8+6,none⟩ (.int .i64 (k:Int))).setCell ⟨g,f*8+7,none⟩ (.bool cl)) g (S.set f (zbq (nd S f) k cl))):=fun W g h=>by
  have h2:=h.root (k:=f) (by simpa using hf) (k:Int) cl
  rw[zav S f f _ hf,if_pos rfl,List.set_set] at h2
  exact h2
 have RC:Hid (∀ W g,OwnR W g (S.set f (zbg (nd S f) 0))→g<W.heap.size∧(∀ o,W.frozen? ⟨g,o,none⟩=false)∧(∃ v6 v7,W.cell? ⟨g,f*8+6,none⟩=some v6∧W.cell? ⟨g,f*8+7,none⟩=some v7)):=fun W g ⟨F,hF,_⟩=>by
  rw[List.length_set] at hF
  exact⟨hF.lt,hF.frozen,_,_,hF.cell (by omega),hF.cell (by omega)⟩
 have hf2:(f:Int)<(S.length:Int):=by omega
 have hf3:decide ((f:Int)<0)=false:=decide_eq_false (by omega)
 clear hS wf hE hH hfr hall d1
 obtain⟨x0,hx0⟩:∃ x,nd S k=x:=⟨_,rfl⟩
 rw[hx0] at D0
 clear hx0
 obtain⟨S1,hS1⟩:∃ S1,S.set f (zbg (nd S f) 0)=S1:=⟨_,rfl⟩
 obtain⟨S2,hS2⟩:∃ S2,S.set f (zbq (nd S f) k cl)=S2:=⟨_,rfl⟩
 rw[hS1] at D2 RT RC
 rw[hS2] at RT ⊢
 clear hS1 hS2
 generalize (nd S f).n=nf at *
 generalize S.length=n at *
 go_enter Tryz.func98,Tryz.ntmps98
 go_wp2_with fail
 refine Calls.mono (D0.out _ (HS.out.below (zan _ _ _ _ _))) ?_
 rintro e w2 ⟨fg,rfl,hb2,_⟩
 simp only[World.size_alloc] at hb2
 have HB2:Hid (Below (w.heap.size+1+1+1+1) ((((w.alloc (.cells #[.slice a n c] 24)).alloc (.cells #[.int .i64 (k:Int),.int .i64 u] 60)).alloc (.cells #[.slice none 0 0] 24)).alloc (.cells #[.int .i64 0,.int .i64 0] 60)) w2):=hb2
 have hs2:=hb2.size
 simp only[World.size_alloc] at hs2
 obtain⟨l0,l1,l2,l3,l4,l5,l6,l7⟩:=zdb hb2
 have BW:Hid (∀ W,Below (w.heap.size+1+1+1+1) ((((w.alloc (.cells #[.slice a n c] 24)).alloc (.cells #[.int .i64 (k:Int),.int .i64 u] 60)).alloc (.cells #[.slice none 0 0] 24)).alloc (.cells #[.int .i64 0,.int .i64 0] 60)) W→Below w.heap.size w W):=fun W h=>(zan _ _ _ _ _).trans (h.mono (by omega))
 clear hb2
 have q0:w.heap.size<w2.heap.size:=by omega
 have q1:w.heap.size+1<w2.heap.size:=by omega
 go_wp2_with fail
 refine Calls.mono (D1.out _ (HS.out.below (BW.out _ (HB2.out.alloc (by omega) _)))) ?_
 rintro e w3 ⟨rfl,hb3⟩
 simp only[World.size_alloc] at hb3
 have HB3:Hid (Below (w.heap.size+1+1+1+1) ((((w.alloc (.cells #[.slice a n c] 24)).alloc (.cells #[.int .i64 (k:Int),.int .i64 u] 60)).alloc (.cells #[.slice none 0 0] 24)).alloc (.cells #[.int .i64 0,.int .i64 0] 60)) w3):=(HB2.out.alloc (by omega) _).trans (hb3.mono (by omega))
 have hs3:=hb3.size
 simp only[World.size_alloc] at hs3
 clear hb3 l0 l1 l2 l3 l4 l5 l6 l7
 obtain⟨l0,l1,l2,l3,l4,l5,l6,l7⟩:=zdb HB3.out
 go_wp2_with fail
 refine Calls.mono (D2.out _ (HS.out.below (BW.out _ HB3.out))) ?_
 rintro e w4 ⟨g,rfl,hb4,hg4,hO4⟩
 have HB4:Hid (Below (w.heap.size+1+1+1+1) ((((w.alloc (.cells #[.slice a n c] 24)).alloc (.cells #[.int .i64 (k:Int),.int .i64 u] 60)).alloc (.cells #[.slice none 0 0] 24)).alloc (.cells #[.int .i64 0,.int .i64 0] 60)) w4):=HB3.out.trans (hb4.mono (by omega))
 have hs4:=hb4.size
 clear hb4 l0 l1 l2 l3 l4 l5 l6 l7
 obtain⟨l0,l1,l2,l3,l4,l5,l6,l7⟩:=zdb HB4.out
 obtain⟨hgl,hfz,v6,v7,d6,d7⟩:=RC.out _ _ hO4
 have HO4:Hid (OwnR w4 g S1):=hO4
 have e1:¬ g=w.heap.size+1:=by omega
 have e2:¬ w.heap.size+1=g:=by omega
 have e3:¬ g=w.heap.size+1+1:=by omega
 have e4:¬ w.heap.size+1+1=g:=by omega
 have e5:¬ g=w.heap.size+1+1+1:=by omega
 have e6:¬ w.heap.size+1+1+1=g:=by omega
 have q2:w.heap.size+1<w4.heap.size:=by omega
 have q3:w.heap.size+1+1<w4.heap.size:=by omega
 have q4:w.heap.size+1+1+1<w4.heap.size:=by omega
 have q5:w.heap.size<w4.heap.size:=by omega
 clear hO4 D0 D1 D2
 go_wp2_with fail
 first
  |(obtain⟨W6,hW6⟩:∃ W6,W6=((((w4.setCell ⟨g,f*8+6,none⟩ (.int .i64 (k:Int))).setCell ⟨g,f*8+7,none⟩ (.bool cl)).alloc (.cells #[.slice (some ⟨g,0,none⟩) n n] 24)).alloc (.cells #[.int .i64 (f:Int),.int .i64 (nf+1)] 60)):=⟨_,rfl⟩;rw[← hW6])
  |(obtain⟨W6,hW6⟩:∃ W6,W6=((((w4.alloc (.cells #[.slice (some ⟨g,0,none⟩) n n] 24)).alloc (.cells #[.int .i64 (f:Int),.int .i64 (nf+1)] 60)).setCell ⟨g,f*8+6,none⟩ (.int .i64 (k:Int))).setCell ⟨g,f*8+7,none⟩ (.bool cl)):=⟨_,rfl⟩;rw[← hW6])
 have HR6:Hid (OwnR W6 g S2):=by
  rw[hW6]
  first
   | exact(RT.out w4 g HO4.out).up (fun b _ hlt=>(((Below.refl _ _).alloc (Nat.le_refl _) _).alloc (by simp) _).block b hlt)
   | exact RT.out _ g (HO4.out.up (fun b _ hlt=>(((Below.refl _ _).alloc (Nat.le_refl _) _).alloc (by simp) _).block b hlt))
 have hs6:W6.heap.size=w4.heap.size+1+1:=by rw[hW6];simp
 have HB6:Hid (Below w.heap.size w W6):=by
  rw[hW6]
  first
   | exact((((BW.out _ HB4.out).setCell (by simp;omega) _).setCell (by simp;omega) _).alloc (by simp;omega) _).alloc (by simp;omega) _
   | exact((((BW.out _ HB4.out).alloc (by omega) _).alloc (by simp;omega) _).setCell (by simp;omega) _).setCell (by simp;omega) _
 have y0:W6.cell? ⟨w4.heap.size,0,none⟩=some (.slice (some ⟨g,0,none⟩) n n):=by rw[hW6];go_simp
 have y1:W6.cell? ⟨w4.heap.size+1,0,none⟩=some (.int .i64 (f:Int)):=by rw[hW6];go_simp
 have y2:W6.cell? ⟨w4.heap.size+1,1,none⟩=some (.int .i64 (nf+1)):=by rw[hW6];go_simp
 have y3:W6.cell? ⟨w.heap.size+1+1,0,none⟩=some (.slice none 0 0):=by rw[hW6];go_simp
 have y4:W6.cell? ⟨w.heap.size+1+1+1,0,none⟩=some (.int .i64 0):=by rw[hW6];go_simp
 have y5:W6.cell? ⟨w.heap.size+1+1+1,1,none⟩=some (.int .i64 0):=by rw[hW6];go_simp
 have y6:∀ o,W6.frozen? ⟨w.heap.size+1+1,o,none⟩=false:=fun o=>by rw[hW6];go_simp
 have y7:∀ o,W6.frozen? ⟨w.heap.size+1+1+1,o,none⟩=false:=fun o=>by rw[hW6];go_simp
 have z1:w4.heap.size<W6.heap.size:=by omega
 have z2:w4.heap.size+1<W6.heap.size:=by omega
 have z3:w.heap.size+1+1<W6.heap.size:=by omega
 have z4:w.heap.size+1+1+1<W6.heap.size:=by omega
 have z5:¬ w4.heap.size=w.heap.size+1+1:=by omega
 have z6:¬ w4.heap.size+1=w.heap.size+1+1:=by omega
 have z7:¬ w4.heap.size=w.heap.size+1+1+1:=by omega
 have z8:¬ w4.heap.size+1=w.heap.size+1+1+1:=by omega
 clear hW6 l0 l1 l2 l3 l4 l5 l6 l7 d6 d7 hfz
 go_region
 all_goals (try go_wp2)
 all_goals
  refine bodyPost_ret (v:=.tuple #[.agg #[.slice (some ⟨g,0,none⟩) n n],.agg #[.int .i64 (f:Int),.int .i64 (nf+1)],.int .i64 0]) (by simp[results,Tryz.results98,go_sem,y3,y4,y5]) rfl ⟨g,rfl,?_,by omega,?_⟩
  ·first
    | exact(((HB6.out.setCell (by simp;omega) _).setCell (by simp;omega) _).setCell (by simp;omega) _).drew
    | exact((HB6.out.setCell (by simp;omega) _).setCell (by simp;omega) _).setCell (by simp;omega) _
  ·refine HR6.out.up (fun b hb hlt=>?_)
   first
    | rw[heap_drew,Below.heap_setCell _ _ _ _ (by show b≠w.heap.size+1+1+1;omega),Below.heap_setCell _ _ _ _ (by show b≠w.heap.size+1+1+1;omega),Below.heap_setCell _ _ _ _ (by show b≠w.heap.size+1+1;omega)]
    | rw[Below.heap_setCell _ _ _ _ (by show b≠w.heap.size+1+1+1;omega),Below.heap_setCell _ _ _ _ (by show b≠w.heap.size+1+1+1;omega),Below.heap_setCell _ _ _ _ (by show b≠w.heap.size+1+1;omega)]
end Go.Proofs.YtojlkdekdbdpoaaGreat

namespace Go.Proofs.YtojlkdekdbdpoaaGreat
set_option maxRecDepth 100000
set_option maxHeartbeats 4000000
open Go.RowKit
theorem ziY(a:Option Addr)(c:Nat)(S:List Nd)(p u E:Int)(cl:Bool)(w:World)(hN:S.length≤9223372036854775807)(hB:Big S)(hS:NdsAt w a S)(hE:findE S p u=E)(hE0:E≠0) :
  Calls Tryz.prog 98 #[.agg #[.slice a S.length c],.agg #[.int .i64 p,.int .i64 u],.bool cl] w fun e w' => e=.returned (.tuple #[.agg #[.slice none 0 0],.agg #[.int .i64 0,.int .i64 0],.int .i64 E])∧Below w.heap.size w w' := by
 have D0:Hid (∀ W,NdsAt W a S→Calls _ _ _ _ _):=fun W hW=>zfk a c S p u E W hN hB hW hE hE0
 have HS:Hid (NdsAt w a S):=hS
 have hz0:(E == 0)=false:=by simp[hE0]
 clear hS hE hB hN
 generalize S.length=n at *
 have BW:Hid (∀ W,Below (w.heap.size+1+1+1+1) ((((w.alloc (.cells #[.slice a n c] 24)).alloc (.cells #[.int .i64 p,.int .i64 u] 60)).alloc (.cells #[.slice none 0 0] 24)).alloc (.cells #[.int .i64 0,.int .i64 0] 60)) W→Below w.heap.size w W):=fun W h=>(zan _ _ _ _ _).trans (h.mono (by omega))
 go_enter Tryz.func98,Tryz.ntmps98
 go_wp2_with fail
 refine Calls.mono (D0.out _ (HS.out.below (zan _ _ _ _ _))) ?_
 rintro e w2 ⟨rfl,hb2⟩
 simp only[World.size_alloc] at hb2
 have HB2:Hid (Below (w.heap.size+1+1+1+1) ((((w.alloc (.cells #[.slice a n c] 24)).alloc (.cells #[.int .i64 p,.int .i64 u] 60)).alloc (.cells #[.slice none 0 0] 24)).alloc (.cells #[.int .i64 0,.int .i64 0] 60)) w2):=hb2
 have hs2:=hb2.size
 simp only[World.size_alloc] at hs2
 obtain⟨l0,l1,l2,l3,l4,l5,l6,l7⟩:=zdb hb2
 have q0:w.heap.size<w2.heap.size:=by omega
 have q1:w.heap.size+1<w2.heap.size:=by omega
 have q2:w.heap.size+1+1<w2.heap.size:=by omega
 have q3:w.heap.size+1+1+1<w2.heap.size:=by omega
 clear hb2
 have HBX:Hid _:=HB2
 go_wp2
 refine bodyPost_ret (v:=.tuple #[.agg #[.slice none 0 0],.agg #[.int .i64 0,.int .i64 0],.int .i64 E]) (by simp only[results,Tryz.results98];go_simp) rfl ⟨rfl,?_⟩
 have hbo:=BW.out _ HBX.out
 have hbs:=HBX.out.size
 simp only[World.size_alloc] at hbs
 first
  | exact((hbo.setCell (by simp;omega) _).setCell (by simp;omega) _).setCell (by simp;omega) _
  | exact(((hbo.setCell (by simp;omega) _).setCell (by simp;omega) _).setCell (by simp;omega) _).drew
  | exact(((hbo.alloc (by omega) _).setCell (by simp;omega) _).setCell (by simp;omega) _).setCell (by simp;omega) _
  | exact(((hbo.setCell (by simp;omega) _).setCell (by simp;omega) _).setCell (by simp;omega) _).alloc (by simp;omega) _
  | exact((((hbo.alloc (by omega) _).alloc (by simp;omega) _).setCell (by simp;omega) _).setCell (by simp;omega) _).setCell (by simp;omega) _
  | exact((((hbo.setCell (by simp;omega) _).setCell (by simp;omega) _).setCell (by simp;omega) _).alloc (by simp;omega) _).alloc (by simp;omega) _
theorem ziZ(a:Option Addr)(c:Nat)(S:List Nd)(k:Nat)(u:Int)(cl:Bool)(w:World)(wf:WF S)(hS:NdsAt w a S)(hk:k<S.length)(hE:findE S k u=0)(hH:hostB S k=true) :
  Calls Tryz.prog 98 #[.agg #[.slice a S.length c],.agg #[.int .i64 (k:Int),.int .i64 u],.bool cl] w fun e w' => e=.returned (.tuple #[.agg #[.slice none 0 0],.agg #[.int .i64 0,.int .i64 0],.int .i64 6])∧Below w.heap.size w w' := by
 have hN:=wf.small
 have D0:Hid (∀ W,NdsAt W a S→Calls _ _ _ _ _):=fun W hW=>find_ok a c S k u W (by omega) wf.big hW hk hE (by have:=wf.kids_small hk;omega)
 have d1:=fun W hW=>zcV a c S (k:Int) W (by omega) hW (by omega)
 rw[hH] at d1
 have D1:Hid _:=d1
 have HS:Hid (NdsAt w a S):=hS
 clear hS wf hE hH d1
 obtain⟨x0,hx0⟩:∃ x,nd S k=x:=⟨_,rfl⟩
 rw[hx0] at D0
 clear hx0
 generalize S.length=n at *
 have BW:Hid (∀ W,Below (w.heap.size+1+1+1+1) ((((w.alloc (.cells #[.slice a n c] 24)).alloc (.cells #[.int .i64 (k:Int),.int .i64 u] 60)).alloc (.cells #[.slice none 0 0] 24)).alloc (.cells #[.int .i64 0,.int .i64 0] 60)) W→Below w.heap.size w W):=fun W h=>(zan _ _ _ _ _).trans (h.mono (by omega))
 go_enter Tryz.func98,Tryz.ntmps98
 go_wp2_with fail
 refine Calls.mono (D0.out _ (HS.out.below (zan _ _ _ _ _))) ?_
 rintro e w2 ⟨fg,rfl,hb2,_⟩
 simp only[World.size_alloc] at hb2
 have HB2:Hid (Below (w.heap.size+1+1+1+1) ((((w.alloc (.cells #[.slice a n c] 24)).alloc (.cells #[.int .i64 (k:Int),.int .i64 u] 60)).alloc (.cells #[.slice none 0 0] 24)).alloc (.cells #[.int .i64 0,.int .i64 0] 60)) w2):=hb2
 have hs2:=hb2.size
 simp only[World.size_alloc] at hs2
 obtain⟨l0,l1,l2,l3,l4,l5,l6,l7⟩:=zdb hb2
 have q0:w.heap.size<w2.heap.size:=by omega
 have q1:w.heap.size+1<w2.heap.size:=by omega
 have q2:w.heap.size+1+1<w2.heap.size:=by omega
 have q3:w.heap.size+1+1+1<w2.heap.size:=by omega
 clear hb2
 go_wp2_with fail
 refine Calls.mono (D1.out _ (HS.out.below (BW.out _ (HB2.out.alloc (by omega) _)))) ?_
 rintro e w3 ⟨rfl,hb3⟩
 simp only[World.size_alloc] at hb3
 have HB3:Hid (Below (w.heap.size+1+1+1+1) ((((w.alloc (.cells #[.slice a n c] 24)).alloc (.cells #[.int .i64 (k:Int),.int .i64 u] 60)).alloc (.cells #[.slice none 0 0] 24)).alloc (.cells #[.int .i64 0,.int .i64 0] 60)) w3):=(HB2.out.alloc (by omega) _).trans (hb3.mono (by omega))
 have hs3:=hb3.size
 simp only[World.size_alloc] at hs3
 clear hb3 l0 l1 l2 l3 l4 l5 l6 l7 q0 q1 q2 q3
 obtain⟨l0,l1,l2,l3,l4,l5,l6,l7⟩:=zdb HB3.out
 have q0:w.heap.size<w3.heap.size:=by omega
 have q1:w.heap.size+1<w3.heap.size:=by omega
 have q2:w.heap.size+1+1<w3.heap.size:=by omega
 have q3:w.heap.size+1+1+1<w3.heap.size:=by omega
 have HBX:Hid _:=HB3
 go_wp2
 refine bodyPost_ret (v:=.tuple #[.agg #[.slice none 0 0],.agg #[.int .i64 0,.int .i64 0],.int .i64 6]) (by simp only[results,Tryz.results98];go_simp) rfl ⟨rfl,?_⟩
 have hbo:=BW.out _ HBX.out
 have hbs:=HBX.out.size
 simp only[World.size_alloc] at hbs
 first
  | exact((hbo.setCell (by simp;omega) _).setCell (by simp;omega) _).setCell (by simp;omega) _
  | exact(((hbo.setCell (by simp;omega) _).setCell (by simp;omega) _).setCell (by simp;omega) _).drew
  | exact(((hbo.alloc (by omega) _).setCell (by simp;omega) _).setCell (by simp;omega) _).setCell (by simp;omega) _
  | exact(((hbo.setCell (by simp;omega) _).setCell (by simp;omega) _).setCell (by simp;omega) _).alloc (by simp;omega) _
  | exact((((hbo.alloc (by omega) _).alloc (by simp;omega) _).setCell (by simp;omega) _).setCell (by simp;omega) _).setCell (by simp;omega) _
  | exact((((hbo.setCell (by simp;omega) _).setCell (by simp;omega) _).setCell (by simp;omega) _).alloc (by simp;omega) _).alloc (by simp;omega) _
theorem ziF(a:Option Addr)(c:Nat)(S:List Nd)(k:Nat)(u E:Int)(cl:Bool)(w:World)(wf:WF S)(hS:NdsAt w a S)(hk:k<S.length)(hE:findE S k u=0)(hH:hostB S k=false)(hM:makeE S 0=E)(hM0:E≠0) :
  Calls Tryz.prog 98 #[.agg #[.slice a S.length c],.agg #[.int .i64 (k:Int),.int .i64 u],.bool cl] w fun e w' => e=.returned (.tuple #[.agg #[.slice none 0 0],.agg #[.int .i64 0,.int .i64 0],.int .i64 E])∧Below w.heap.size w w' := by
 have hN:=wf.small
 have D0:Hid (∀ W,NdsAt W a S→Calls _ _ _ _ _):=fun W hW=>find_ok a c S k u W (by omega) wf.big hW hk hE (by have:=wf.kids_small hk;omega)
 have d1:=fun W hW=>zcV a c S (k:Int) W (by omega) hW (by omega)
 rw[hH] at d1
 have D1:Hid _:=d1
 have D2:Hid (∀ W,NdsAt W a S→Calls _ _ _ _ _):=fun W hW=>zjK a c S 0 E W (by omega) wf.big hW hM hM0
 have HS:Hid (NdsAt w a S):=hS
 have hz0:(E == 0)=false:=by simp[hM0]
 clear hS wf hE hH d1 hM
 obtain⟨x0,hx0⟩:∃ x,nd S k=x:=⟨_,rfl⟩
 rw[hx0] at D0
 clear hx0
 generalize S.length=n at *
 have BW:Hid (∀ W,Below (w.heap.size+1+1+1+1) ((((w.alloc (.cells #[.slice a n c] 24)).alloc (.cells #[.int .i64 (k:Int),.int .i64 u] 60)).alloc (.cells #[.slice none 0 0] 24)).alloc (.cells #[.int .i64 0,.int .i64 0] 60)) W→Below w.heap.size w W):=fun W h=>(zan _ _ _ _ _).trans (h.mono (by omega))
 go_enter Tryz.func98,Tryz.ntmps98
 go_wp2_with fail
 refine Calls.mono (D0.out _ (HS.out.below (zan _ _ _ _ _))) ?_
 rintro e w2 ⟨fg,rfl,hb2,_⟩
 simp only[World.size_alloc] at hb2
 have HB2:Hid (Below (w.heap.size+1+1+1+1) ((((w.alloc (.cells #[.slice a n c] 24)).alloc (.cells #[.int .i64 (k:Int),.int .i64 u] 60)).alloc (.cells #[.slice none 0 0] 24)).alloc (.cells #[.int .i64 0,.int .i64 0] 60)) w2):=hb2
 have hs2:=hb2.size
 simp only[World.size_alloc] at hs2
 obtain⟨l0,l1,l2,l3,l4,l5,l6,l7⟩:=zdb hb2
 have q0:w.heap.size<w2.heap.size:=by omega
 have q1:w.heap.size+1<w2.heap.size:=by omega
 have q2:w.heap.size+1+1<w2.heap.size:=by omega
 have q3:w.heap.size+1+1+1<w2.heap.size:=by omega
 clear hb2
 go_wp2_with fail
 refine Calls.mono (D1.out _ (HS.out.below (BW.out _ (HB2.out.alloc (by omega) _)))) ?_
 rintro e w3 ⟨rfl,hb3⟩
 simp only[World.size_alloc] at hb3
 have HB3:Hid (Below (w.heap.size+1+1+1+1) ((((w.alloc (.cells #[.slice a n c] 24)).alloc (.cells #[.int .i64 (k:Int),.int .i64 u] 60)).alloc (.cells #[.slice none 0 0] 24)).alloc (.cells #[.int .i64 0,.int .i64 0] 60)) w3):=(HB2.out.alloc (by omega) _).trans (hb3.mono (by omega))
 have hs3:=hb3.size
 simp only[World.size_alloc] at hs3
 clear hb3 l0 l1 l2 l3 l4 l5 l6 l7 q0 q1 q2 q3
 obtain⟨l0,l1,l2,l3,l4,l5,l6,l7⟩:=zdb HB3.out
 have q0:w.heap.size<w3.heap.size:=by omega
 have q1:w.heap.size+1<w3.heap.size:=by omega
 have q2:w.heap.size+1+1<w3.heap.size:=by omega
 have q3:w.heap.size+1+1+1<w3.heap.size:=by omega
 go_wp2_with fail
 refine Calls.mono (D2.out _ (HS.out.below (BW.out _ HB3.out))) ?_
 rintro e w4 ⟨rfl,hb4⟩
 have HB4:Hid (Below (w.heap.size+1+1+1+1) ((((w.alloc (.cells #[.slice a n c] 24)).alloc (.cells #[.int .i64 (k:Int),.int .i64 u] 60)).alloc (.cells #[.slice none 0 0] 24)).alloc (.cells #[.int .i64 0,.int .i64 0] 60)) w4):=HB3.out.trans (hb4.mono (by omega))
 have hs4:=hb4.size
 clear hb4 l0 l1 l2 l3 l4 l5 l6 l7 q0 q1 q2 q3
 obtain⟨l0,l1,l2,l3,l4,l5,l6,l7⟩:=zdb HB4.out
 have q0:w.heap.size<w4.heap.size:=by omega
 have q1:w.heap.size+1<w4.heap.size:=by omega
 have q2:w.heap.size+1+1<w4.heap.size:=by omega
 have q3:w.heap.size+1+1+1<w4.heap.size:=by omega
 have HBX:Hid _:=HB4
 go_wp2
 refine bodyPost_ret (v:=.tuple #[.agg #[.slice none 0 0],.agg #[.int .i64 0,.int .i64 0],.int .i64 E]) (by simp only[results,Tryz.results98];go_simp) rfl ⟨rfl,?_⟩
 have hbo:=BW.out _ HBX.out
 have hbs:=HBX.out.size
 simp only[World.size_alloc] at hbs
 first
  | exact((hbo.setCell (by simp;omega) _).setCell (by simp;omega) _).setCell (by simp;omega) _
  | exact(((hbo.setCell (by simp;omega) _).setCell (by simp;omega) _).setCell (by simp;omega) _).drew
  | exact(((hbo.alloc (by omega) _).setCell (by simp;omega) _).setCell (by simp;omega) _).setCell (by simp;omega) _
  | exact(((hbo.setCell (by simp;omega) _).setCell (by simp;omega) _).setCell (by simp;omega) _).alloc (by simp;omega) _
  | exact((((hbo.alloc (by omega) _).alloc (by simp;omega) _).setCell (by simp;omega) _).setCell (by simp;omega) _).setCell (by simp;omega) _
  | exact((((hbo.setCell (by simp;omega) _).setCell (by simp;omega) _).setCell (by simp;omega) _).alloc (by simp;omega) _).alloc (by simp;omega) _
end Go.Proofs.YtojlkdekdbdpoaaGreat
