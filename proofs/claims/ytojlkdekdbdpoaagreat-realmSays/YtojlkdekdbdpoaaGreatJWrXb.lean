/-
  x
-/
import Derived.Test.YtojlkdekdbdpoaaGreatJWbTkSnWd
import Derived.Test.YtojlkdekdbdpoaaGreatJSrWfXdZaTlTmTnZf
import Derived.Deep.RegionWith
namespace Go.Proofs.YtojlkdekdbdpoaaGreat
set_option maxRecDepth 100000
set_option maxHeartbeats 4000000
open Go.RowKit
theorem zgO{w w1:World}{a:Option Addr}{n c:Nat}{p pu:Int}(hb:Below (w.heap.size+1+1+1) (((w.alloc (.cells #[.slice a n c] 24)).alloc (.cells #[.int .i64 p,.int .i64 pu] 60)).alloc (.cells #[.slice none 0 0] 24)) w1) :
  w1.cell? ⟨w.heap.size,0,none⟩=some (.slice a n c)∧w1.cell? ⟨w.heap.size+1,0,none⟩=some (.int .i64 p)∧w1.cell? ⟨w.heap.size+1,1,none⟩=some (.int .i64 pu)∧w1.cell? ⟨w.heap.size+1+1,0,none⟩=some (.slice none 0 0)∧(∀ o,w1.frozen? ⟨w.heap.size+1+1,o,none⟩=false):=by
 refine⟨?_,?_,?_,?_,fun o=>?_⟩
 all_goals first|exact(hb.cell (by first|(simp;done)|(simp;omega))).trans (by go_simp)|exact(hb.frozen (by first|(simp;done)|(simp;omega))).trans (by go_simp)
theorem zkH(a:Option Addr)(c:Nat)(S:List Nd)(p u E:Int)(w:World)(hN:S.length≤9223372036854775807)(hB:Big S)(hS:NdsAt w a S)(hE:zao S [(p,u)]=E)(hE0:E≠0) :
  Calls Tryz.prog 44 #[.agg #[.slice a S.length c],.agg #[.int .i64 p,.int .i64 u]] w fun e w' => e=.returned (.tuple #[.agg #[.slice none 0 0],.int .i64 E])∧Below w.heap.size w w' := by
 have d1:=fun(W:World) (ha:Option Addr) (hW:NdsAt W a S) (hH:zak W ha [(p,u)])=>zco a c S ha 1 [(p,u)] W hN hB hW (by simp) hH
 rw[hE] at d1
 have D1:Hid _:=d1
 have HS:Hid (NdsAt w a S):=hS
 clear hS d1 hE hB
 have hz:(E == 0)=false:=by simp[hE0]
 generalize S.length=n at *
 go_enter Tryz.func44,Tryz.ntmps44
 go_wp2_with (go_at_call 90;refine(D1.out _ _ (HS.out.below (zan _ _ _ _ _)) (zaP _ _ _ _ (by go_simp) (by go_simp))).mono ?_;rintro e w1 ⟨rfl,hb1⟩;simp only[World.size_alloc] at hb1;obtain⟨l0,l1,l2,l3,l4⟩:=zgO (((Below.refl _ _).alloc (by simp) _).trans (hb1.mono (by omega)));have HB:Hid _:=hb1;clear hb1)
 refine bodyPost_ret (v:=.tuple #[.agg #[.slice none 0 0],.int .i64 E]) (by simp[results,Tryz.results44,go_sem,l3]) rfl ⟨rfl,?_⟩
 exact((zan _ _ _ _ _).trans (HB.out.mono (by omega))).setCell (by simp;omega) _
theorem zjk(a:Option Addr)(c:Nat)(S:List Nd)(ch:Nat)(u:Int)(w:World)(hN:S.length≤9223372036854775807)(hB:Big S)(hS:NdsAt w a S)(hE:zao S [((ch:Int),u)]=0)(hch:ch<S.length)(hp:(nd S ch).p = -1) :
  Calls Tryz.prog 44 #[.agg #[.slice a S.length c],.agg #[.int .i64 ch,.int .i64 u]] w fun e w' => e=.returned (.tuple #[.agg #[.slice none 0 0],.int .i64 6])∧Below w.heap.size w w' := by
 have d1:=fun(W:World) (ha:Option Addr) (hW:NdsAt W a S) (hH:zak W ha [((ch:Int),u)])=>zco a c S ha 1 [((ch:Int),u)] W hN hB hW (by simp) hH
 rw[hE] at d1
 have D1:Hid _:=d1
 have HS:Hid (NdsAt w a S):=hS
 have hch2:(ch:Int)<(S.length:Int):=by omega
 have QP:Hid (∀ W,NdsAt W a S→∃ b o,a=some ⟨b,o,none⟩∧W.cell? ⟨b,o+ch*8+4,none⟩=some (.int .i64 (-1))):=fun W hW=>by
  obtain⟨b,o,e,_,_,_,_,c4,_⟩:=hW ch hch
  exact⟨b,o,e,by rw[c4,hp]⟩
 clear hS d1 hE hB hp
 generalize S.length=n at *
 go_enter Tryz.func44,Tryz.ntmps44
 go_wp2_with (go_at_call 90;refine(D1.out _ _ (HS.out.below (zan _ _ _ _ _)) (zaP _ _ _ _ (by go_simp) (by go_simp))).mono ?_;rintro e w1 ⟨rfl,hb1⟩;simp only[World.size_alloc] at hb1;obtain⟨l0,l1,l2,l3,l4⟩:=zgO (((Below.refl _ _).alloc (by simp) _).trans (hb1.mono (by omega)));have hbw:=(zan _ _ _ _ _).trans (hb1.mono (by omega));obtain⟨b,o,rfl,qp⟩:=QP.out _ (HS.out.below hbw);have HB:Hid _:=hbw;have hq:=World.block_lt_of_cell? _ _ qp;clear hb1 hbw)
 refine bodyPost_ret (v:=.tuple #[.agg #[.slice none 0 0],.int .i64 6]) (by simp[results,Tryz.results44,go_sem,l3]) rfl ⟨rfl,?_⟩
 exact HB.out.setCell (by simp;omega) _
theorem zmZ(a:Option Addr)(c:Nat)(S:List Nd)(ch pa:Nat)(u:Int)(w:World)(hN:S.length≤24)(hB:Big S)(hS:NdsAt w a S)(hE:zao S [((ch:Int),u)]=0)(hch:ch<S.length)(hpa:pa<S.length)(hne:pa≠ch)(hp:(nd S ch).p=pa)(hK:∀ i,i<S.length→(nd S i).ks.length≤1000) :
  Calls Tryz.prog 44 #[.agg #[.slice a S.length c],.agg #[.int .i64 ch,.int .i64 u]] w fun e w' => ∃ g,e=.returned (.tuple #[.agg #[.slice (some ⟨g,0,none⟩) S.length S.length],.int .i64 0])∧Below w.heap.size w w' ∧ w.heap.size≤g∧∀ w3:World,(∀ b,g≤b→w3.heap[b]?=w'.heap[b]?)→NdsAt w3 (some ⟨g,0,none⟩) (zbl S pa ch):=by
 have d1:=fun(W:World) (ha:Option Addr) (hW:NdsAt W a S) (hH:zak W ha [((ch:Int),u)])=>zco a c S ha 1 [((ch:Int),u)] W (by omega) hB hW (by simp) hH
 rw[hE] at d1
 have D1:Hid _:=d1
 have HS:Hid (NdsAt w a S):=hS
 have hch2:(ch:Int)<(S.length:Int):=by omega
 have QP:Hid (∀ W,NdsAt W a S→∃ b o,a=some ⟨b,o,none⟩∧W.cell? ⟨b,o+ch*8+4,none⟩=some (.int .i64 (pa:Int))):=fun W hW=>by
  obtain⟨b,o,e,_,_,_,_,c4,_⟩:=hW ch hch
  exact⟨b,o,e,by rw[c4,hp]⟩
 have dc:=fun(W:World) (hW:NdsAt W a S)=>copy_any a c S W hN hK hW
 have DC:Hid _:=dc
 have dl:=fun(B g c:Nat) (kb kc:Nat→Nat) (W:World) (hO:Own W B g S kb kc S.length)=>zhj B g c S kb kc pa ch W hO hpa hch hne hp
 have DL:Hid _:=dl
 have OC:Hid (∀ (wr:World) (B g:Nat) (kb kc:Nat→Nat),Own wr B g S kb kc S.length→B≤g∧g<wr.heap.size∧g<kb pa∧kb pa<wr.heap.size):=fun wr B g kb kc h=>by
  obtain⟨hB,F,hF,hNd,hg,_⟩:=h
  exact⟨hB,hF.lt,hg pa hpa,(hNd pa hpa).row⟩
 clear hS d1 hE hB hp dc dl hK
 generalize hn:S.length=n at *
 have HN:Hid _:=hn
 clear hn
 go_enter Tryz.func44,Tryz.ntmps44
 go_wp2_with (go_at_call 90;refine(D1.out _ _ (HS.out.below (zan _ _ _ _ _)) (zaP _ _ _ _ (by go_simp) (by go_simp))).mono ?_;rintro e w1 ⟨rfl,hb1⟩;simp only[World.size_alloc] at hb1;have HB1:Hid (Below (w.heap.size+1+1+1) (((w.alloc (.cells #[.slice a n c] 24)).alloc (.cells #[.int .i64 (ch:Int),.int .i64 u] 60)).alloc (.cells #[.slice none 0 0] 24)) w1):=((Below.refl _ _).alloc (by simp) _).trans (hb1.mono (by omega));obtain⟨l0,l1,l2,l3,l4⟩:=zgO HB1.out;have hbw:=(zan _ _ _ _ _).trans (hb1.mono (by omega));obtain⟨b,o,ea,qp⟩:=QP.out _ (HS.out.below hbw);have HB:Hid _:=hbw;have hq:=World.block_lt_of_cell? _ _ qp;have hl0:=World.block_lt_of_cell? _ _ l0;have hl1:=World.block_lt_of_cell? _ _ l1;have hl3:=World.block_lt_of_cell? _ _ l3;subst ea;clear hb1 hbw)
 refine(DC.out _ (HS.out.below HB.out)).mono ?_
 rintro e w7 ⟨g,kb,kc,rfl,hb7,hO7⟩
 obtain⟨hgB,hgl,hgk,hkl⟩:=OC.out _ _ _ _ _ hO7
 have hs7:=hb7.size
 have H7:Hid _:=HB1.out.trans (hb7.mono (by have:=HB1.out.size;simp at this;omega))
 have HO7:Hid (Own w7 w1.heap.size g S kb kc n):=hO7
 have HB7:Hid (Below w.heap.size w w7):=HB.out.trans (hb7.mono HB.out.size)
 clear l0 l1 l2 l3 l4 hb7 hO7
 obtain⟨l0,l1,l2,l3,l4⟩:=zgO H7.out
 have L1:=zbX l1
 have L3:=zbX l3
 have hm0:=World.block_lt_of_cell? _ _ l0
 have hm3:=World.block_lt_of_cell? _ _ l3
 go_wp2_with fail
 refine(DL.out _ g n kb kc _ (Own.below HO7.out ((Below.refl _ _).alloc (Nat.le_refl _) _))).mono ?_
 rintro e w9 ⟨rfl,hoff9,hO9⟩
 have b9:=(hoff9.cell (p:=⟨w7.heap.size,0,none⟩) (by simp) (by show ¬ (w7.heap.size=g∨w7.heap.size=kb pa);omega)).trans (show _=some (Value.slice (some ⟨g,0,none⟩) n n) by go_simp)
 have r9:=(hoff9.cell (p:=⟨w.heap.size+1+1,0,none⟩) (by simp;omega) (by show ¬ (w.heap.size+1+1=g∨w.heap.size+1+1=kb pa);omega)).trans (L3 _)
 have f9:=fun o=>(hoff9.frozen (p:=⟨w.heap.size+1+1,o,none⟩) (by simp;omega) (by show ¬ (w.heap.size+1+1=g∨w.heap.size+1+1=kb pa);omega)).trans ((((Below.refl _ w7).alloc (Nat.le_refl _) (.cells #[.slice (some ⟨g,0,none⟩) n n] 24)).frozen (by exact hm3)).trans (l4 o))
 have HB9:Hid (Below w.heap.size w w9):=(HB7.out.alloc HB7.out.size _).trans (hoff9.below (by simp;omega) (fun k hk=>by rcases hk with hk|hk <;> omega))
 have NS:Hid (∀ v (w3:World),(∀ b,g≤b→w3.heap[b]?=(w9.setCell ⟨w.heap.size+1+1,0,none⟩ v).heap[b]?)→NdsAt w3 (some ⟨g,0,none⟩) (zbl S pa ch)):=fun v w3 hup=>Own.up hO9 _ (fun b hb=>(hup b hb).trans (Below.heap_setCell _ _ _ _ (by show b≠w.heap.size+1+1;omega)))
 clear hO9 hoff9 l0 l1 l2 l3 l4 L1 L3
 go_wp2
 refine bodyPost_ret (v:=.tuple #[.agg #[.slice (some ⟨g,0,none⟩) n n],.int .i64 0]) (by simp[results,Tryz.results44,go_sem,r9]) rfl ⟨g,rfl,HB9.out.setCell (by simp;omega) _,by omega,NS.out _⟩
end Go.Proofs.YtojlkdekdbdpoaaGreat

namespace Go.Proofs.YtojlkdekdbdpoaaGreat
set_option maxRecDepth 100000
set_option maxHeartbeats 4000000
open Go.RowKit
theorem Own.nil8{w:World}{B g:Nat}{S:List Nd}{kb kc:Nat→Nat}{k:Nat}(h:Own w B g S kb kc S.length)(hk:k<S.length)(x:Nd)(hx:x.ks=[])(w3:World)
  (hup:∀ b,g≤b→b<w.heap.size→w3.heap[b]?=((((((((w.setCell ⟨g,k*8,none⟩ (.bool x.u)).setCell ⟨g,k*8+1,none⟩ (.int .i64 x.n)).setCell ⟨g,k*8+2,none⟩ (.int .i64 x.t)).setCell ⟨g,k*8+3,none⟩ (.int .i64 x.m)).setCell ⟨g,k*8+4,none⟩ (.int .i64 x.p)).setCell ⟨g,k*8+5,none⟩ (.slice none 0 0)).setCell ⟨g,k*8+6,none⟩ (.int .i64 x.h)).setCell ⟨g,k*8+7,none⟩ (.bool x.c)).heap[b]?) :
  NdsAt w3 (some ⟨g,0,none⟩) (S.set k x):=fun i hi=>by
 obtain⟨_,F,hF,hN,hg,_⟩:=h
 rw[List.length_set] at hi
 have hR:=(zgN hF (k*8) (.bool x.u) (.int .i64 x.n) (.int .i64 x.t) (.int .i64 x.m) (.int .i64 x.p) (.slice none 0 0) (.int .i64 x.h) (.bool x.c)).of_block (hup g (Nat.le_refl _) hF.lt)
 refine⟨g,0,rfl,?_⟩
 rw[Nat.zero_add,zav S k i x hk]
 by_cases e:i=k
 ·subst e
  rw[if_pos rfl]
  refine⟨?_,?_,?_,?_,?_,⟨none,0,?_,fun j hj=>absurd hj (by rw[hx];exact Nat.not_lt_zero _)⟩,?_,?_⟩
  ·rw[hR.cell (by omega)];unfold put8;rw[if_neg (by omega),if_neg (by omega),if_neg (by omega),if_neg (by omega),if_neg (by omega),if_neg (by omega),if_neg (by omega),if_pos rfl]
  ·rw[hR.cell (by omega)];unfold put8;rw[if_neg (by omega),if_neg (by omega),if_neg (by omega),if_neg (by omega),if_neg (by omega),if_neg (by omega),if_pos rfl]
  ·rw[hR.cell (by omega)];unfold put8;rw[if_neg (by omega),if_neg (by omega),if_neg (by omega),if_neg (by omega),if_neg (by omega),if_pos rfl]
  ·rw[hR.cell (by omega)];unfold put8;rw[if_neg (by omega),if_neg (by omega),if_neg (by omega),if_neg (by omega),if_pos rfl]
  ·rw[hR.cell (by omega)];unfold put8;rw[if_neg (by omega),if_neg (by omega),if_neg (by omega),if_pos rfl]
  ·rw[hR.cell (by omega),hx];unfold put8;rw[if_neg (by omega),if_neg (by omega),if_pos rfl];rfl
  ·rw[hR.cell (by omega)];unfold put8;rw[if_neg (by omega),if_pos rfl]
  ·rw[hR.cell (by omega)];unfold put8;rw[if_pos rfl]
 ·rw[if_neg e]
  have hgi:=hg i hi
  obtain⟨e0,e1,e2,e3,e4,e5,e6,e7,e8,e8b,G,hG0,e9⟩:=hN i hi
  have hgn:kb i≠g:=by omega
  have hG:=hG0.of_block (w' := w3) ((hup (kb i) (Nat.le_of_lt hgi) hG0.lt).trans (by
   rw[Below.heap_setCell _ _ _ _ hgn,Below.heap_setCell _ _ _ _ hgn,Below.heap_setCell _ _ _ _ hgn,Below.heap_setCell _ _ _ _ hgn,Below.heap_setCell _ _ _ _ hgn,Below.heap_setCell _ _ _ _ hgn,Below.heap_setCell _ _ _ _ hgn,Below.heap_setCell _ _ _ _ hgn]))
  refine⟨?_,?_,?_,?_,?_,⟨some ⟨kb i,0,none⟩,kc i,?_,fun j hj=>⟨kb i,0,rfl,?_⟩⟩,?_,?_⟩
  ·rw[hR.cell (by omega),put8_other (by omega),e0]
  ·rw[hR.cell (by omega),put8_other (by omega),e1]
  ·rw[hR.cell (by omega),put8_other (by omega),e2]
  ·rw[hR.cell (by omega),put8_other (by omega),e3]
  ·rw[hR.cell (by omega),put8_other (by omega),e4]
  ·rw[hR.cell (by omega),put8_other (by omega),e5]
  ·rw[Nat.zero_add,hG.cell (by omega),e9 j hj]
  ·rw[hR.cell (by omega),put8_other (by omega),e6]
  ·rw[hR.cell (by omega),put8_other (by omega),e7]
theorem zbK{w w1:World}{v:Value}{x y:Int}(hb:Below (w.heap.size+1+1+1) (((w.alloc (.cells #[v] 24)).alloc (.cells #[.int .i64 x,.int .i64 y] 60)).alloc (.cells #[.slice none 0 0] 24)) w1) :
  w1.cell? ⟨w.heap.size,0,none⟩=some v∧w1.cell? ⟨w.heap.size+1,0,none⟩=some (.int .i64 x)∧w1.cell? ⟨w.heap.size+1,1,none⟩=some (.int .i64 y)∧w1.cell? ⟨w.heap.size+1+1,0,none⟩=some (.slice none 0 0)∧w1.frozen? ⟨w.heap.size+1+1,0,none⟩=false :=
 ⟨(hb.cell (by simp;omega)).trans (by go_simp),(hb.cell (by simp)).trans (by go_simp),(hb.cell (by simp)).trans (by go_simp),(hb.cell (by simp)).trans (by go_simp),(hb.frozen (by simp)).trans (by go_simp)⟩
theorem zdj{B:Nat}{W w1 w2:World}{a0 a1 a2 a3 a4 a5 a6 a7:Value}(hb1:Below B W w1)(hs:B≤w1.heap.size)(hb2:Below (w1.heap.size+1) (w1.alloc (.cells #[a0,a1,a2,a3,a4,a5,a6,a7] 44)) w2) :
  Below B W w2∧w2.cell? ⟨w1.heap.size,0,none⟩=some a0∧w2.cell? ⟨w1.heap.size,1,none⟩=some a1∧w2.cell? ⟨w1.heap.size,2,none⟩=some a2∧w2.cell? ⟨w1.heap.size,3,none⟩=some a3∧w2.cell? ⟨w1.heap.size,4,none⟩=some a4∧w2.cell? ⟨w1.heap.size,5,none⟩=some a5∧w2.cell? ⟨w1.heap.size,6,none⟩=some a6∧w2.cell? ⟨w1.heap.size,7,none⟩=some a7 :=
 ⟨(hb1.alloc hs _).trans (hb2.mono (by omega)),(hb2.cell (by simp)).trans (by go_simp),(hb2.cell (by simp)).trans (by go_simp),(hb2.cell (by simp)).trans (by go_simp),(hb2.cell (by simp)).trans (by go_simp),(hb2.cell (by simp)).trans (by go_simp),(hb2.cell (by simp)).trans (by go_simp),(hb2.cell (by simp)).trans (by go_simp),(hb2.cell (by simp)).trans (by go_simp)⟩
theorem zor(a:Option Addr)(c:Nat)(S:List Nd)(p u E:Int)(w:World)(hN:S.length≤9223372036854775807)(hB:Big S)(hS:NdsAt w a S)(hE:findE S p u=E)(hE0:E≠0) :
  Calls Tryz.prog 43 #[.agg #[.slice a S.length c],.agg #[.int .i64 p,.int .i64 u]] w fun e w' => e=.returned (.tuple #[.agg #[.slice none 0 0],.int .i64 E])∧Below w.heap.size w w' := by
 have D1:Hid (∀ W,NdsAt W a S→Calls _ _ _ _ _):=fun W hW=>zfk a c S p u E W hN hB hW hE hE0
 have HS:Hid (NdsAt w a S):=hS
 have hz:(E == 0)=false:=by simp[hE0]
 clear hS hE hB hN
 generalize S.length=n at *
 go_enter Tryz.func43,Tryz.ntmps43
 go_wp2_with (go_at_call 87;refine(D1.out _ (HS.out.below (zaj _ _ _ _))).mono ?_;rintro e w1 ⟨rfl,hb1⟩;simp only[World.size_alloc] at hb1;obtain⟨l0,l1,l2,l3,z3⟩:=zbK hb1;have hs1:=hb1.size;simp only[World.size_alloc] at hs1;have q0:w.heap.size<w1.heap.size:=(by omega);have q1:w.heap.size+1<w1.heap.size:=(by omega);have q2:w.heap.size+1+1<w1.heap.size:=(by omega))
 refine bodyPost_ret (v:=.tuple #[.agg #[.slice none 0 0],.int .i64 E]) (by simp only[results,Tryz.results43];go_simp) rfl ⟨rfl,?_⟩
 have hbo:Below w.heap.size w w1:=(zaj _ _ _ _).trans (hb1.mono (by omega))
 first|exact(hbo.setCell (by simp;omega) _).alloc (by simp;omega) _|exact(hbo.alloc (by omega) _).setCell (by simp;omega) _|exact hbo.setCell (by simp;omega) _
theorem znp(a:Option Addr)(c:Nat)(S:List Nd)(k:Nat)(u:Int)(w:World)(hN:S.length≤9223372036854775807)(hB:Big S)(hS:NdsAt w a S)(hk:k<S.length)(hF:findE S k u=0)(hK:(nd S k).ks.length≤1000000)(hT:¬ zdk S k) :
  Calls Tryz.prog 43 #[.agg #[.slice a S.length c],.agg #[.int .i64 k,.int .i64 u]] w fun e w' => e=.returned (.tuple #[.agg #[.slice none 0 0],.int .i64 6])∧Below w.heap.size w w' := by
 have D1:Hid (∀ W,NdsAt W a S→Calls _ _ _ _ _):=fun W hW=>find_ok a c S k u W (by omega) hB hW hk hF hK
 obtain⟨r,hr⟩:∃ r,zae (nd S k)=r:=⟨_,rfl⟩
 obtain⟨hb0,hhb⟩:∃ b,hostB S k=b:=⟨_,rfl⟩
 have d2:=fun(v:Value) W=>zcI (nd S k) v W
 rw[show (if (nd S k).h = -1 then (nd S k).p else (nd S k).h)=r from hr] at d2
 have D2:Hid _:=d2
 have d3:=fun W hW=>zcV a c S (k:Int) W (by omega) hW (by omega)
 rw[hhb] at d3
 have D3:Hid _:=d3
 have HS:Hid (NdsAt w a S):=hS
 have hT2:r≠-1∨(r = -1∧(nd S k).ks.length≠0)∨(r = -1∧(nd S k).ks.length=0∧hb0=true):=by
  unfold zdk at hT
  rw[hr,hhb] at hT
  by_cases h1:r = -1
  ·by_cases h2:(nd S k).ks=[]
   ·refine Or.inr (Or.inr ⟨h1,by rw[h2];rfl,?_⟩)
    cases hb0 with
    | true=>rfl
    | false=>exact absurd ⟨h1,h2,rfl⟩ hT
   ·refine Or.inr (Or.inl ⟨h1,fun h=>h2 (List.length_eq_zero_iff.1 h)⟩)
  ·exact Or.inl h1
 clear hS d2 d3 hF hB hT hr hhb
 generalize nd S k=x at *
 obtain⟨xu,xn,xt,xm,xp,xks,xh,xc⟩:=x
 dsimp only at *
 generalize xks.length=L at *
 generalize S.length=n at *
 rcases hT2 with h1 |⟨rfl,h2⟩ |⟨rfl,rfl,rfl⟩
 ·have hz:(r == -1)=false:=by simp[h1]
  go_enter Tryz.func43,Tryz.ntmps43
  go_wp2_with (go_at_call 87;refine(D1.out _ (HS.out.below (zaj _ _ _ _))).mono ?_;rintro e w1 ⟨kg,rfl,hb1,hkg⟩;clear hkg;simp only[World.size_alloc] at hb1;obtain⟨l0,l1,l2,l3,z3⟩:=zbK hb1;have hs1:=hb1.size;simp only[World.size_alloc] at hs1;have q0:w.heap.size<w1.heap.size:=(by omega);have q1:w.heap.size+1<w1.heap.size:=(by omega);have q2:w.heap.size+1+1<w1.heap.size:=(by omega))
  refine(D2.out _ _).mono ?_
  rintro e w2 ⟨rfl,hb2⟩
  simp only[World.size_alloc] at hb2
  obtain⟨hb12,n0,n1,n2,n3,n4,n5,n6,n7⟩:=zdj hb1 hs1 hb2
  have hs2:=hb2.size
  simp only[World.size_alloc] at hs2
  clear l0 l1 l2 l3 z3
  obtain⟨l0,l1,l2,l3,z3⟩:=zbK hb12
  have HBO:Hid (Below w.heap.size w w2):=(zaj _ _ _ _).trans (hb12.mono (by omega))
  have HB1:Hid _:=hb1
  have HB2:Hid _:=hb2
  have q3:w1.heap.size<w2.heap.size:=by omega
  clear hb1 hb2 hb12
  go_wp2
  refine bodyPost_ret (v:=.tuple #[.agg #[.slice none 0 0],.int .i64 6]) (by simp only[results,Tryz.results43];go_simp) rfl ⟨rfl,?_⟩
  first|exact HBO.out.setCell (by simp;omega) _|exact(HBO.out.setCell (by simp;omega) _).drew|exact(HBO.out.alloc (by simp;omega) _).setCell (by simp;omega) _|exact(HBO.out.setCell (by simp;omega) _).alloc (by simp;omega) _
 ·have hz:decide ((0:Int)<(L:Int))=true:=decide_eq_true (by omega)
  have hz2:(0:Int)<(L:Int):=by omega
  go_enter Tryz.func43,Tryz.ntmps43
  go_wp2_with (go_at_call 87;refine(D1.out _ (HS.out.below (zaj _ _ _ _))).mono ?_;rintro e w1 ⟨kg,rfl,hb1,hkg⟩;clear hkg;simp only[World.size_alloc] at hb1;obtain⟨l0,l1,l2,l3,z3⟩:=zbK hb1;have hs1:=hb1.size;simp only[World.size_alloc] at hs1;have q0:w.heap.size<w1.heap.size:=(by omega);have q1:w.heap.size+1<w1.heap.size:=(by omega);have q2:w.heap.size+1+1<w1.heap.size:=(by omega))
  refine(D2.out _ _).mono ?_
  rintro e w2 ⟨rfl,hb2⟩
  simp only[World.size_alloc] at hb2
  obtain⟨hb12,n0,n1,n2,n3,n4,n5,n6,n7⟩:=zdj hb1 hs1 hb2
  have hs2:=hb2.size
  simp only[World.size_alloc] at hs2
  clear l0 l1 l2 l3 z3
  obtain⟨l0,l1,l2,l3,z3⟩:=zbK hb12
  have HBO:Hid (Below w.heap.size w w2):=(zaj _ _ _ _).trans (hb12.mono (by omega))
  have HB1:Hid _:=hb1
  have HB2:Hid _:=hb2
  have q3:w1.heap.size<w2.heap.size:=by omega
  clear hb1 hb2 hb12
  go_wp2
  refine bodyPost_ret (v:=.tuple #[.agg #[.slice none 0 0],.int .i64 6]) (by simp only[results,Tryz.results43];go_simp) rfl ⟨rfl,?_⟩
  first|exact HBO.out.setCell (by simp;omega) _|exact(HBO.out.setCell (by simp;omega) _).drew|exact(HBO.out.alloc (by simp;omega) _).setCell (by simp;omega) _|exact(HBO.out.setCell (by simp;omega) _).alloc (by simp;omega) _
 ·go_enter Tryz.func43,Tryz.ntmps43
  go_wp2_with (go_at_call 87;refine(D1.out _ (HS.out.below (zaj _ _ _ _))).mono ?_;rintro e w1 ⟨kg,rfl,hb1,hkg⟩;clear hkg;simp only[World.size_alloc] at hb1;obtain⟨l0,l1,l2,l3,z3⟩:=zbK hb1;have hs1:=hb1.size;simp only[World.size_alloc] at hs1;have q0:w.heap.size<w1.heap.size:=(by omega);have q1:w.heap.size+1<w1.heap.size:=(by omega);have q2:w.heap.size+1+1<w1.heap.size:=(by omega))
  refine(D2.out _ _).mono ?_
  rintro e w2 ⟨rfl,hb2⟩
  simp only[World.size_alloc] at hb2
  obtain⟨hb12,n0,n1,n2,n3,n4,n5,n6,n7⟩:=zdj hb1 hs1 hb2
  have hs2:=hb2.size
  simp only[World.size_alloc] at hs2
  clear l0 l1 l2 l3 z3
  obtain⟨l0,l1,l2,l3,z3⟩:=zbK hb12
  have HBO:Hid (Below w.heap.size w w2):=(zaj _ _ _ _).trans (hb12.mono (by omega))
  have HB1:Hid _:=hb1
  have HB2:Hid _:=hb2
  have q3:w1.heap.size<w2.heap.size:=by omega
  clear hb1 hb2 hb12
  go_wp2_with fail
  refine(D3.out _ (HS.out.below HBO.out)).mono ?_
  rintro e w3 ⟨rfl,hb3⟩
  have hs3:=hb3.size
  have HBO3:Hid (Below w.heap.size w w3):=HBO.out.trans (hb3.mono (by have:=HBO.out.size;omega))
  have hb23:=HB2.out.trans (hb3.mono hs2)
  clear l0 l1 l2 l3 z3 n0 n1 n2 n3 n4 n5 n6 n7 hb3 HB2
  obtain⟨hb13,n0,n1,n2,n3,n4,n5,n6,n7⟩:=zdj HB1.out hs1 hb23
  obtain⟨l0,l1,l2,l3,z3⟩:=zbK hb13
  have r1:w1.heap.size<w3.heap.size:=by omega
  have r2:w.heap.size<w3.heap.size:=by omega
  have r3:w.heap.size+1<w3.heap.size:=by omega
  have r4:w.heap.size+1+1<w3.heap.size:=by omega
  have HB23:Hid _:=hb23
  clear hb13 hb23
  go_wp2
  refine bodyPost_ret (v:=.tuple #[.agg #[.slice none 0 0],.int .i64 6]) (by simp only[results,Tryz.results43];go_simp) rfl ⟨rfl,?_⟩
  first|exact HBO3.out.setCell (by simp;omega) _|exact(HBO3.out.setCell (by simp;omega) _).drew|exact(HBO3.out.alloc (by simp;omega) _).setCell (by simp;omega) _|exact(HBO3.out.setCell (by simp;omega) _).alloc (by simp;omega) _
end Go.Proofs.YtojlkdekdbdpoaaGreat
