/-
  x
-/
import Derived.Test.YtgjfmepbphfjoaaGreatQ20
namespace Go.Proofs.YtgjfmepbphfjoaaGreat
set_option maxRecDepth 100000
set_option maxHeartbeats 4000000
set_option linter.unusedVariables false
open Go.RowKit
theorem zii{w A:World}{a:Option Addr}{n c:Nat}{p F:Int}(D:Below (w.heap.size+1+1+1) (((w.alloc (.cells #[.slice a n c] 24)).alloc (.cells #[.int .i64 p,.int .i64 F] 39)).alloc (.cells #[.slice none 0 0] 24)) A) :
  A.cell? ⟨w.heap.size,0,none⟩=some (.slice a n c)/\A.cell? ⟨w.heap.size+1,0,none⟩=some (.int .i64 p)/\A.cell? ⟨w.heap.size+1,1,none⟩=some (.int .i64 F)/\A.cell? ⟨w.heap.size+1+1,0,none⟩=some (.slice none 0 0)/\(∀ o,A.frozen? ⟨w.heap.size+1+1,o,none⟩=false):=by
 refine⟨?_,?_,?_,?_,fun o=>?_⟩
 all_goals first|exact(D.cell (by first|(simp;done)|(simp;omega))).trans (by go_simp)|exact(D.frozen (by first|(simp;done)|(simp;omega))).trans (by go_simp)
theorem zmL(a:Option Addr)(c:Nat)(S:List Nd)(p u E:Int)(w:World)(Z:S.length<=9223372036854775807)(F:Big S)(J:zae w a S)(I:zar S [(p,u)]=E)(D:E≠0) :
  Calls Tryz.prog 58 #[.agg #[.slice a S.length c],.agg #[.int .i64 p,.int .i64 u]] w fun e w' => e=.returned (.tuple #[.agg #[.slice none 0 0],.int .i64 E])/\Below w.heap.size w w' := by
 have d1:=fun(W:World) (M:Option Addr) (hW:zae W a S) (V:zam W M [(p,u)])=>zcM a c S M 1 [(p,u)] W Z F hW (by simp) V;rw[I] at d1;have O:Hid _:=d1;have U:Hid (zae w a S):=J;clear J d1 I F;have hz:(E == 0)=false:=by simp[D]
 generalize S.length=n at *
 go_enter Tryz.func58,Tryz.ntmps58
 go_wp2_with (go_at_call 105;refine(O.out _ _ (U.out.below (zaq _ _ _ _ _)) (zaV _ _ _ _ (by go_simp) (by go_simp))).mono ?_;rintro e w1 ⟨rfl,A⟩;simp only[yk] at A;obtain⟨l0,l1,l2,l3,l4⟩:=zii (((yj _ _).alloc (by simp) _).trans (A.mono (by omega)));have T:Hid _:=A;clear A)
 refine yq (v:=.tuple #[.agg #[.slice none 0 0],.int .i64 E]) (by simp[results,Tryz.results58,go_sem,l3]) rfl ⟨rfl,?_⟩;exact((zaq _ _ _ _ _).trans (T.out.mono (by omega))).setCell (by simp;omega) _
theorem zku(a:Option Addr)(c:Nat)(S:List Nd)(ch:Nat)(u:Int)(w:World)(hN:S.length<=9223372036854775807)(J:Big S)(O:zae w a S)(M:zar S [((ch:Int),u)]=0)(hch:ch<S.length)(V:(nd S ch).p = -1) :
  Calls Tryz.prog 58 #[.agg #[.slice a S.length c],.agg #[.int .i64 ch,.int .i64 u]] w fun e w' => e=.returned (.tuple #[.agg #[.slice none 0 0],.int .i64 6])/\Below w.heap.size w w' := by
 have d1:=fun(W:World) (T:Option Addr) (F:zae W a S) (hH:zam W T [((ch:Int),u)])=>zcM a c S T 1 [((ch:Int),u)] W hN J F (by simp) hH;rw[M] at d1;have Z:Hid _:=d1;have I:Hid (zae w a S):=O;have U:(ch:Int)<(S.length:Int):=by omega
 have QP:Hid (∀ W,zae W a S->∃ b o,a=some ⟨b,o,none⟩/\W.cell? ⟨b,o+ch*8+4,none⟩=some (.int .i64 (-1))):=fun W F=>by
  obtain⟨b,o,e,_,_,_,_,c4,_⟩:=F ch hch;exact⟨b,o,e,by rw[c4,V]⟩
 clear O d1 M J V;generalize S.length=n at *
 go_enter Tryz.func58,Tryz.ntmps58
 go_wp2_with (go_at_call 105;refine(Z.out _ _ (I.out.below (zaq _ _ _ _ _)) (zaV _ _ _ _ (by go_simp) (by go_simp))).mono ?_;rintro e w1 ⟨rfl,A⟩;simp only[yk] at A;obtain⟨l0,l1,l2,l3,l4⟩:=zii (((yj _ _).alloc (by simp) _).trans (A.mono (by omega)));have D:=(zaq _ _ _ _ _).trans (A.mono (by omega));obtain⟨b,o,rfl,qp⟩:=QP.out _ (I.out.below D);have HB:Hid _:=D;have hq:=ye _ _ qp;clear A D)
 refine yq (v:=.tuple #[.agg #[.slice none 0 0],.int .i64 6]) (by simp[results,Tryz.results58,go_sem,l3]) rfl ⟨rfl,?_⟩;exact HB.out.setCell (by simp;omega) _
theorem zoZ(a:Option Addr)(c:Nat)(S:List Nd)(ch D:Nat)(u:Int)(w:World)(hN:S.length<=24)(hB:Big S)(hS:zae w a S)(hE:zar S [((ch:Int),u)]=0)(hch:ch<S.length)(hpa:D<S.length)(a9:D≠ch)(hp:(nd S ch).p=D)(hK:∀ i,i<S.length->(nd S i).ks.length<=1000) :
  Calls Tryz.prog 58 #[.agg #[.slice a S.length c],.agg #[.int .i64 ch,.int .i64 u]] w fun e w' => ∃ g,e=.returned (.tuple #[.agg #[.slice (some ⟨g,0,none⟩) S.length S.length],.int .i64 0])/\Below w.heap.size w w' /\ w.heap.size<=g/\∀ w3:World,(∀ b,g<=b->w3.heap[b]?=w'.heap[b]?)->zae w3 (some ⟨g,0,none⟩) (zbu S D ch):=by
 have d1:=fun(W:World) (ha:Option Addr) (hW:zae W a S) (hH:zam W ha [((ch:Int),u)])=>zcM a c S ha 1 [((ch:Int),u)] W (by omega) hB hW (by simp) hH;rw[hE] at d1;have D1:Hid _:=d1;have HS:Hid (zae w a S):=hS;have b5:(ch:Int)<(S.length:Int):=by omega
 have QP:Hid (∀ W,zae W a S->∃ b o,a=some ⟨b,o,none⟩/\W.cell? ⟨b,o+ch*8+4,none⟩=some (.int .i64 (D:Int))):=fun W hW=>by
  obtain⟨b,o,e,_,_,_,_,c4,_⟩:=hW ch hch;exact⟨b,o,e,by rw[c4,hp]⟩
 have dc:=fun(W:World) (hW:zae W a S)=>copy_any a c S W hN hK hW;have DC:Hid _:=dc;have dl:=fun(B g c:Nat) (kb kc:Nat->Nat) (W:World) (hO:Own W B g S kb kc S.length)=>ziU B g c S kb kc D ch W hO hpa hch a9 hp;have DL:Hid _:=dl
 have OC:Hid (∀ (wr:World) (B g:Nat) (kb kc:Nat->Nat),Own wr B g S kb kc S.length->B<=g/\g<wr.heap.size/\g<kb D/\kb D<wr.heap.size):=fun wr B g kb kc h=>by
  obtain⟨hB,F,hF,a7,hg,_⟩:=h;exact⟨hB,hF.lt,hg D hpa,(a7 D hpa).row⟩
 clear hS d1 hE hB hp dc dl hK;generalize hn:S.length=n at *;have HN:Hid _:=hn;clear hn
 go_enter Tryz.func58,Tryz.ntmps58
 go_wp2_with (go_at_call 105;refine(D1.out _ _ (HS.out.below (zaq _ _ _ _ _)) (zaV _ _ _ _ (by go_simp) (by go_simp))).mono ?_;rintro e w1 ⟨rfl,I⟩;simp only[yk] at I;have M:Hid (Below (w.heap.size+1+1+1) (((w.alloc (.cells #[.slice a n c] 24)).alloc (.cells #[.int .i64 (ch:Int),.int .i64 u] 39)).alloc (.cells #[.slice none 0 0] 24)) w1):=((yj _ _).alloc (by simp) _).trans (I.mono (by omega));obtain⟨l0,l1,l2,U,l4⟩:=zii M.out;have T:=(zaq _ _ _ _ _).trans (I.mono (by omega));obtain⟨b,o,ea,qp⟩:=QP.out _ (HS.out.below T);have HB:Hid _:=T;have hq:=ye _ _ qp;have c7:=ye _ _ l0;have c8:=ye _ _ l1;have c9:=ye _ _ U;subst ea;clear I T)
 refine(DC.out _ (HS.out.below HB.out)).mono ?_;rintro e V ⟨g,kb,kc,rfl,J,O⟩;obtain⟨b6,b8,b7,c6⟩:=OC.out _ _ _ _ _ O;have d7:=J.size;have H7:Hid _:=M.out.trans (J.mono (by have:=M.out.size;simp at this;omega));have a6:Hid (Own V w1.heap.size g S kb kc n):=O;have Z:Hid (Below w.heap.size w V):=HB.out.trans (J.mono HB.out.size);clear l0 l1 l2 U l4 J O;obtain⟨l0,l1,l2,U,l4⟩:=zii H7.out;have L1:=zcr l1;have L3:=zcr U;have d6:=ye _ _ l0;have a8:=ye _ _ U
 go_wp2_with fail
 refine(DL.out _ g n kb kc _ (Own.below a6.out ((yj _ _).alloc (yi _) _))).mono ?_;rintro e w9 ⟨rfl,A,a4⟩;have b9:=(A.cell (p:=⟨V.heap.size,0,none⟩) (by simp) (by show ¬ (V.heap.size=g\/V.heap.size=kb D);omega)).trans (show _=some (Value.slice (some ⟨g,0,none⟩) n n) by go_simp);have r9:=(A.cell (p:=⟨w.heap.size+1+1,0,none⟩) (by simp;omega) (by show ¬ (w.heap.size+1+1=g\/w.heap.size+1+1=kb D);omega)).trans (L3 _);have f9:=fun o=>(A.frozen (p:=⟨w.heap.size+1+1,o,none⟩) (by simp;omega) (by show ¬ (w.heap.size+1+1=g\/w.heap.size+1+1=kb D);omega)).trans ((((yj _ V).alloc (yi _) (.cells #[.slice (some ⟨g,0,none⟩) n n] 24)).frozen (by exact a8)).trans (l4 o));have a5:Hid (Below w.heap.size w w9):=(Z.out.alloc Z.out.size _).trans (A.below (by simp;omega) (fun k hk=>by rcases hk with hk|hk <;> omega));have NS:Hid (∀ v (w3:World),(∀ b,g<=b->w3.heap[b]?=(w9.setCell ⟨w.heap.size+1+1,0,none⟩ v).heap[b]?)->zae w3 (some ⟨g,0,none⟩) (zbu S D ch)):=fun v w3 b4=>Own.up a4 _ (fun b hb=>(b4 b hb).trans (yo _ _ _ _ (by show b≠w.heap.size+1+1;omega)));clear a4 A l0 l1 l2 U l4 L1 L3
 go_wp2
 refine yq (v:=.tuple #[.agg #[.slice (some ⟨g,0,none⟩) n n],.int .i64 0]) (by simp[results,Tryz.results58,go_sem,r9]) rfl ⟨g,rfl,a5.out.setCell (by simp;omega) _,by omega,NS.out _⟩
theorem zjM(a:Option Addr)(c:Nat)(S:List Nd)(p u E:Int)(cl:Bool)(w:World)(U:S.length<=9223372036854775807)(O:Big S)(V:zae w a S)(T:zas S p u=E)(I:E≠0) :
  Calls Tryz.prog 113 #[.agg #[.slice a S.length c],.agg #[.int .i64 p,.int .i64 u],.bool cl] w fun e w' => e=.returned (.tuple #[.agg #[.slice none 0 0],.agg #[.int .i64 0,.int .i64 0],.int .i64 E])/\Below w.heap.size w w' := by
 have D0:Hid (∀ W,zae W a S->Calls _ _ _ _ _):=fun W hW=>zge a c S p u E W U O hW T I;have HS:Hid (zae w a S):=V;have a4:(E == 0)=false:=by simp[I]
 clear V T O U;generalize S.length=n at *;have Z:Hid (∀ W,Below (w.heap.size+1+1+1+1) ((((w.alloc (.cells #[.slice a n c] 24)).alloc (.cells #[.int .i64 p,.int .i64 u] 39)).alloc (.cells #[.slice none 0 0] 24)).alloc (.cells #[.int .i64 0,.int .i64 0] 39)) W->Below w.heap.size w W):=fun W h=>(zaq _ _ _ _ _).trans (h.mono (by omega))
 go_enter Tryz.func113,Tryz.ntmps113
 go_wp2_with fail
 refine yf (D0.out _ (HS.out.below (zaq _ _ _ _ _))) ?_;rintro e w2 ⟨rfl,D⟩;simp only[yk] at D;have J:Hid (Below (w.heap.size+1+1+1+1) ((((w.alloc (.cells #[.slice a n c] 24)).alloc (.cells #[.int .i64 p,.int .i64 u] 39)).alloc (.cells #[.slice none 0 0] 24)).alloc (.cells #[.int .i64 0,.int .i64 0] 39)) w2):=D;have hs2:=D.size;simp only[yk] at hs2;obtain⟨l0,l1,l2,l3,l4,l5,l6,l7⟩:=zdD D;have q0:w.heap.size<w2.heap.size:=by omega
 have q1:w.heap.size+1<w2.heap.size:=by omega
 have q2:w.heap.size+1+1<w2.heap.size:=by omega
 have q3:w.heap.size+1+1+1<w2.heap.size:=by omega
 clear D;have F:Hid _:=J
 go_wp2
 refine yq (v:=.tuple #[.agg #[.slice none 0 0],.agg #[.int .i64 0,.int .i64 0],.int .i64 E]) (by simp only[results,Tryz.results113];go_simp) rfl ⟨rfl,?_⟩;have A:=Z.out _ F.out;have M:=F.out.size;simp only[yk] at M
 first
  | exact((A.setCell (by simp;omega) _).setCell (by simp;omega) _).setCell (by simp;omega) _
  | exact(((A.setCell (by simp;omega) _).setCell (by simp;omega) _).setCell (by simp;omega) _).drew
  | exact(((A.alloc (by omega) _).setCell (by simp;omega) _).setCell (by simp;omega) _).setCell (by simp;omega) _
  | exact(((A.setCell (by simp;omega) _).setCell (by simp;omega) _).setCell (by simp;omega) _).alloc (by simp;omega) _
  | exact((((A.alloc (by omega) _).alloc (by simp;omega) _).setCell (by simp;omega) _).setCell (by simp;omega) _).setCell (by simp;omega) _
  | exact((((A.setCell (by simp;omega) _).setCell (by simp;omega) _).setCell (by simp;omega) _).alloc (by simp;omega) _).alloc (by simp;omega) _
theorem zjN(a:Option Addr)(c:Nat)(S:List Nd)(k:Nat)(u:Int)(cl:Bool)(w:World)(wf:WF S)(hS:zae w a S)(hk:k<S.length)(hE:zas S k u=0)(hH:zdq S k=true) :
  Calls Tryz.prog 113 #[.agg #[.slice a S.length c],.agg #[.int .i64 (k:Int),.int .i64 u],.bool cl] w fun e w' => e=.returned (.tuple #[.agg #[.slice none 0 0],.agg #[.int .i64 0,.int .i64 0],.int .i64 6])/\Below w.heap.size w w' := by
 have hN:=wf.small;have D0:Hid (∀ W,zae W a S->Calls _ _ _ _ _):=fun W T=>find_ok a c S k u W (by omega) wf.big T hk hE (by have:=wf.kids_small hk;omega);have d1:=fun W T=>zdr a c S (k:Int) W (by omega) T (by omega);rw[hH] at d1;have D1:Hid _:=d1;have HS:Hid (zae w a S):=hS;clear hS wf hE hH d1;obtain⟨x0,O⟩:∃ x,nd S k=x:=⟨_,rfl⟩;rw[O] at D0;clear O;generalize S.length=n at *;have Z:Hid (∀ W,Below (w.heap.size+1+1+1+1) ((((w.alloc (.cells #[.slice a n c] 24)).alloc (.cells #[.int .i64 (k:Int),.int .i64 u] 39)).alloc (.cells #[.slice none 0 0] 24)).alloc (.cells #[.int .i64 0,.int .i64 0] 39)) W->Below w.heap.size w W):=fun W h=>(zaq _ _ _ _ _).trans (h.mono (by omega))
 go_enter Tryz.func113,Tryz.ntmps113
 go_wp2_with fail
 refine yf (D0.out _ (HS.out.below (zaq _ _ _ _ _))) ?_;rintro e w2 ⟨fg,rfl,D,_⟩;simp only[yk] at D;have I:Hid (Below (w.heap.size+1+1+1+1) ((((w.alloc (.cells #[.slice a n c] 24)).alloc (.cells #[.int .i64 (k:Int),.int .i64 u] 39)).alloc (.cells #[.slice none 0 0] 24)).alloc (.cells #[.int .i64 0,.int .i64 0] 39)) w2):=D;have hs2:=D.size;simp only[yk] at hs2;obtain⟨l0,l1,l2,l3,l4,l5,l6,l7⟩:=zdD D;have q0:w.heap.size<w2.heap.size:=by omega
 have q1:w.heap.size+1<w2.heap.size:=by omega
 have q2:w.heap.size+1+1<w2.heap.size:=by omega
 have q3:w.heap.size+1+1+1<w2.heap.size:=by omega
 clear D
 go_wp2_with fail
 refine yf (D1.out _ (HS.out.below (Z.out _ (I.out.alloc (by omega) _)))) ?_;rintro e w3 ⟨rfl,F⟩;simp only[yk] at F;have J:Hid (Below (w.heap.size+1+1+1+1) ((((w.alloc (.cells #[.slice a n c] 24)).alloc (.cells #[.int .i64 (k:Int),.int .i64 u] 39)).alloc (.cells #[.slice none 0 0] 24)).alloc (.cells #[.int .i64 0,.int .i64 0] 39)) w3):=(I.out.alloc (by omega) _).trans (F.mono (by omega));have V:=F.size;simp only[yk] at V;clear F l0 l1 l2 l3 l4 l5 l6 l7 q0 q1 q2 q3;obtain⟨l0,l1,l2,l3,l4,l5,l6,l7⟩:=zdD J.out;have q0:w.heap.size<w3.heap.size:=by omega
 have q1:w.heap.size+1<w3.heap.size:=by omega
 have q2:w.heap.size+1+1<w3.heap.size:=by omega
 have q3:w.heap.size+1+1+1<w3.heap.size:=by omega
 have M:Hid _:=J
 go_wp2
 refine yq (v:=.tuple #[.agg #[.slice none 0 0],.agg #[.int .i64 0,.int .i64 0],.int .i64 6]) (by simp only[results,Tryz.results113];go_simp) rfl ⟨rfl,?_⟩;have A:=Z.out _ M.out;have U:=M.out.size;simp only[yk] at U
 first
  | exact((A.setCell (by simp;omega) _).setCell (by simp;omega) _).setCell (by simp;omega) _
  | exact(((A.setCell (by simp;omega) _).setCell (by simp;omega) _).setCell (by simp;omega) _).drew
  | exact(((A.alloc (by omega) _).setCell (by simp;omega) _).setCell (by simp;omega) _).setCell (by simp;omega) _
  | exact(((A.setCell (by simp;omega) _).setCell (by simp;omega) _).setCell (by simp;omega) _).alloc (by simp;omega) _
  | exact((((A.alloc (by omega) _).alloc (by simp;omega) _).setCell (by simp;omega) _).setCell (by simp;omega) _).setCell (by simp;omega) _
  | exact((((A.setCell (by simp;omega) _).setCell (by simp;omega) _).setCell (by simp;omega) _).alloc (by simp;omega) _).alloc (by simp;omega) _
theorem zjO(a:Option Addr)(c:Nat)(S:List Nd)(k:Nat)(u E:Int)(cl:Bool)(w:World)(wf:WF S)(hS:zae w a S)(hk:k<S.length)(hE:zas S k u=0)(hH:zdq S k=false)(hM:zcH S 0=E)(U:E≠0) :
  Calls Tryz.prog 113 #[.agg #[.slice a S.length c],.agg #[.int .i64 (k:Int),.int .i64 u],.bool cl] w fun e w' => e=.returned (.tuple #[.agg #[.slice none 0 0],.agg #[.int .i64 0,.int .i64 0],.int .i64 E])/\Below w.heap.size w w' := by
 have hN:=wf.small;have D0:Hid (∀ W,zae W a S->Calls _ _ _ _ _):=fun W V=>find_ok a c S k u W (by omega) wf.big V hk hE (by have:=wf.kids_small hk;omega);have d1:=fun W V=>zdr a c S (k:Int) W (by omega) V (by omega);rw[hH] at d1;have D1:Hid _:=d1;have D2:Hid (∀ W,zae W a S->Calls _ _ _ _ _):=fun W V=>zlf a c S 0 E W (by omega) wf.big V hM U;have HS:Hid (zae w a S):=hS;have a7:(E == 0)=false:=by simp[U]
 clear hS wf hE hH d1 hM;obtain⟨x0,Z⟩:∃ x,nd S k=x:=⟨_,rfl⟩;rw[Z] at D0;clear Z;generalize S.length=n at *;have BW:Hid (∀ W,Below (w.heap.size+1+1+1+1) ((((w.alloc (.cells #[.slice a n c] 24)).alloc (.cells #[.int .i64 (k:Int),.int .i64 u] 39)).alloc (.cells #[.slice none 0 0] 24)).alloc (.cells #[.int .i64 0,.int .i64 0] 39)) W->Below w.heap.size w W):=fun W h=>(zaq _ _ _ _ _).trans (h.mono (by omega))
 go_enter Tryz.func113,Tryz.ntmps113
 go_wp2_with fail
 refine yf (D0.out _ (HS.out.below (zaq _ _ _ _ _))) ?_;rintro e w2 ⟨fg,rfl,D,_⟩;simp only[yk] at D;have M:Hid (Below (w.heap.size+1+1+1+1) ((((w.alloc (.cells #[.slice a n c] 24)).alloc (.cells #[.int .i64 (k:Int),.int .i64 u] 39)).alloc (.cells #[.slice none 0 0] 24)).alloc (.cells #[.int .i64 0,.int .i64 0] 39)) w2):=D;have hs2:=D.size;simp only[yk] at hs2;obtain⟨l0,l1,l2,l3,l4,l5,l6,l7⟩:=zdD D;have q0:w.heap.size<w2.heap.size:=by omega
 have q1:w.heap.size+1<w2.heap.size:=by omega
 have q2:w.heap.size+1+1<w2.heap.size:=by omega
 have q3:w.heap.size+1+1+1<w2.heap.size:=by omega
 clear D
 go_wp2_with fail
 refine yf (D1.out _ (HS.out.below (BW.out _ (M.out.alloc (by omega) _)))) ?_;rintro e w3 ⟨rfl,F⟩;simp only[yk] at F;have I:Hid (Below (w.heap.size+1+1+1+1) ((((w.alloc (.cells #[.slice a n c] 24)).alloc (.cells #[.int .i64 (k:Int),.int .i64 u] 39)).alloc (.cells #[.slice none 0 0] 24)).alloc (.cells #[.int .i64 0,.int .i64 0] 39)) w3):=(M.out.alloc (by omega) _).trans (F.mono (by omega));have a5:=F.size;simp only[yk] at a5;clear F l0 l1 l2 l3 l4 l5 l6 l7 q0 q1 q2 q3;obtain⟨l0,l1,l2,l3,l4,l5,l6,l7⟩:=zdD I.out;have q0:w.heap.size<w3.heap.size:=by omega
 have q1:w.heap.size+1<w3.heap.size:=by omega
 have q2:w.heap.size+1+1<w3.heap.size:=by omega
 have q3:w.heap.size+1+1+1<w3.heap.size:=by omega
 go_wp2_with fail
 refine yf (D2.out _ (HS.out.below (BW.out _ I.out))) ?_;rintro e w4 ⟨rfl,J⟩;have O:Hid (Below (w.heap.size+1+1+1+1) ((((w.alloc (.cells #[.slice a n c] 24)).alloc (.cells #[.int .i64 (k:Int),.int .i64 u] 39)).alloc (.cells #[.slice none 0 0] 24)).alloc (.cells #[.int .i64 0,.int .i64 0] 39)) w4):=I.out.trans (J.mono (by omega));have a6:=J.size;clear J l0 l1 l2 l3 l4 l5 l6 l7 q0 q1 q2 q3;obtain⟨l0,l1,l2,l3,l4,l5,l6,l7⟩:=zdD O.out;have q0:w.heap.size<w4.heap.size:=by omega
 have q1:w.heap.size+1<w4.heap.size:=by omega
 have q2:w.heap.size+1+1<w4.heap.size:=by omega
 have q3:w.heap.size+1+1+1<w4.heap.size:=by omega
 have T:Hid _:=O
 go_wp2
 refine yq (v:=.tuple #[.agg #[.slice none 0 0],.agg #[.int .i64 0,.int .i64 0],.int .i64 E]) (by simp only[results,Tryz.results113];go_simp) rfl ⟨rfl,?_⟩;have A:=BW.out _ T.out;have a4:=T.out.size;simp only[yk] at a4
 first
  | exact((A.setCell (by simp;omega) _).setCell (by simp;omega) _).setCell (by simp;omega) _
  | exact(((A.setCell (by simp;omega) _).setCell (by simp;omega) _).setCell (by simp;omega) _).drew
  | exact(((A.alloc (by omega) _).setCell (by simp;omega) _).setCell (by simp;omega) _).setCell (by simp;omega) _
  | exact(((A.setCell (by simp;omega) _).setCell (by simp;omega) _).setCell (by simp;omega) _).alloc (by simp;omega) _
  | exact((((A.alloc (by omega) _).alloc (by simp;omega) _).setCell (by simp;omega) _).setCell (by simp;omega) _).setCell (by simp;omega) _
  | exact((((A.setCell (by simp;omega) _).setCell (by simp;omega) _).setCell (by simp;omega) _).alloc (by simp;omega) _).alloc (by simp;omega) _
theorem zoD{w I w2:World}{a:Option Addr}{c n:Nat}{S:List Nd}{K:Nat->Value}{v:Value}(h0:0<n)(F:Below (w.heap.size+1+1+1) (((w.alloc (.cells #[.slice a n c] 24)).alloc (.cells #[.slice none 0 0] 24)).alloc (.cells #[.int .i64 0,.int .i64 0] 39)) I)(O:Below I.heap.size I w2)(A:zca I.heap.size S n K v w2) :
  ∃ g cap,v=.slice (some ⟨g,0,none⟩) n cap/\w.heap.size+3<=g/\g<w2.heap.size/\n<=cap/\cap<=9223372036854775807/\zca (w.heap.size+3) S n K (.slice (some ⟨g,0,none⟩) n cap) (w2.setCell ⟨w.heap.size,0,none⟩ (.slice (some ⟨g,0,none⟩) n cap)) /\
  Below w.heap.size w (w2.setCell ⟨w.heap.size,0,none⟩ (.slice (some ⟨g,0,none⟩) n cap))/\(w2.cell? ⟨w.heap.size,0,none⟩=some (.slice a n c)/\w2.frozen? ⟨w.heap.size,0,none⟩=false) /\
  w2.cell? ⟨w.heap.size+1,0,none⟩=some (.slice none 0 0)/\w2.cell? ⟨w.heap.size+1+1,0,none⟩=some (.int .i64 0)/\w2.cell? ⟨w.heap.size+1+1,1,none⟩=some (.int .i64 0) /\
  w2.frozen? ⟨w.heap.size+1,0,none⟩=false/\w2.frozen? ⟨w.heap.size+1+1,0,none⟩=false/\w2.frozen? ⟨w.heap.size+1+1,1,none⟩=false:=by
 have T:=F.size;simp only[yk] at T;have D:Below (w.heap.size+1+1+1) _ w2:=F.trans (O.mono (by omega));obtain⟨l0,l1,l2,l3,z1,z2,z3⟩:=zbU D;have z0:w2.frozen? ⟨w.heap.size,0,none⟩=false:=(D.frozen (by simp;omega)).trans (by go_simp);have U:=A.1
 obtain⟨g,cap,rfl,h1,Z,J,M⟩:∃ g cap,v=.slice (some ⟨g,0,none⟩) n cap/\I.heap.size<=g/\g<w2.heap.size/\n<=cap/\cap<=9223372036854775807:=by
  have hl:=U.lt;rcases U.2 with ⟨_,h⟩ |⟨g,cap,V,h,h1,_,J,M,_⟩
  ·omega
  ·subst h;exact⟨g,cap,rfl,h1,(hl g rfl).2,J,by unfold maxLen at M;omega⟩
 refine⟨g,cap,rfl,by omega,Z,J,M,?_,?_,⟨l0,z0⟩,l1,l2,l3,z1,z2,z3⟩
 ·have ho:zca (w.heap.size+3) S n K (.slice (some ⟨g,0,none⟩) n cap) w2:=⟨zau A.1 (by omega),fun i hi=>zau (A.2 i hi) (by omega)⟩;exact ho.other (fun b hb _=>yo _ _ _ _ (by simp;omega))
 ·exact((zal _ _ _ _).trans (D.mono (by omega))).setCell (by simp) _
theorem zak{W:World}{g o1 b o:Nat}{u v:Value}(w:b≠g)(h:W.cell? ⟨b,o,none⟩=some v):(W.setCell ⟨g,o1,none⟩ u).cell? ⟨b,o,none⟩=some v :=
 (yw (yo _ _ _ _ w)).trans h
theorem zbh{W:World}{a b:Addr}{u:Value}(h:W.frozen? b=false):(W.setCell a u).frozen? b=false:=by
 rw[World.frozen?_setCell];exact h
theorem zjl(a:Option Addr)(c:Nat)(S:List Nd)(t:Int)(w:World)(hC:zeu a c S)(hS:zae w a S)(hN:S.length<=24)(hK:∀ i,i<S.length->(nd S i).ks.length<=1000)(hE:zaD S=0)(d7:0<=t)(d8:t<=99)(k:Nat)(hk:k<S.length)(O:zbO (nd S k)=true)(h0:∀ i,i<S.length->0<=(nd S i).n/\(nd S i).n<=1000000)(V:∀ i,i<k->zbO (nd S i)=false) :
  Calls Tryz.prog 38 #[.agg #[.slice a S.length c],.int .i64 t] w fun e w' => ∃ g cap K,e=.returned (.tuple #[.agg #[.slice (some ⟨g,0,none⟩) S.length cap],.agg #[.int .i64 k,.int .i64 ((nd S k).n+1)],.int .i64 0])/\Below w.heap.size w w' /\ zca (w.heap.size+3) (S.set k (zbq (nd S k) t)) S.length K (.slice (some ⟨g,0,none⟩) S.length cap) w' := by
 have dc:Hid _:=hC;unfold zeu at dc;rw[hE] at dc;have DO:Hid (∀ W,zae W a S->Calls _ _ _ _ _):=fun W hW=>zeL a c S W (by omega) (fun i hi=>by have:=hK i hi;omega) hW;have HS:Hid (zae w a S):=hS;clear hS hC;generalize hn:S.length=n at *;have HN:Hid (S.length=n):=hn;clear hn
 go_enter Tryz.func38,Tryz.ntmps38
 go_wp2_with (go_at_call 28;refine(dc.out _ (HS.out.below (zal _ _ _ _))).mono ?_;rintro e w1 ⟨rfl,M⟩;simp only[yk] at M;obtain⟨l0,l1,l2,l3,z1,z2,z3⟩:=zbU M;have b4:Below w.heap.size w w1:=(zal _ _ _ _).trans (M.mono (by omega)))
 have dt:decide (0<=t/\t<=99)=true:=decide_eq_true ⟨d7,d8⟩;have a4:=fun W=>zbR t 0 99 W;rw[dt] at a4;have b9:=M.size;simp only[yk] at b9
 go_wp2_with (first
  |(go_at_call 36;refine(a4 _).mono ?_;rintro e f7 ⟨rfl,rfl⟩)
  |(go_at_call 82;refine(DO.out _ (HS.out.below b4)).mono ?_;rintro e w2 ⟨v,K,rfl,b6,Z⟩;obtain⟨g,cap,rfl,hg,e7,d9,e6,hO,b5,⟨m0,y0⟩,m1,m2,m3,y1,y2,y3⟩:=zoD (by omega) M b6 Z;have I:Hid _:=hO;have a7:Hid _:=b5;clear Z b6 hO b5 l0 l1 l2 l3 z1 z2 z3))
 have a6:Hid _:=V;have HR:Hid _:=h0;clear V h0 a4 dt dc DO HS M b4 b9 hK
 go_loopg [27] (k+1) (fun gg s27 wr=>∃ q:Nat,q<=k/\k-q<gg/\s27=.int .i64 q/\wr.cell? ⟨w.heap.size,0,none⟩=some (.slice (some ⟨g,0,none⟩) n cap)/\wr.cell? ⟨w.heap.size+1,0,none⟩=some (.slice none 0 0)/\wr.cell? ⟨w.heap.size+1+1,0,none⟩=some (.int .i64 0)/\wr.cell? ⟨w.heap.size+1+1,1,none⟩=some (.int .i64 0)/\wr.frozen? ⟨w.heap.size+1,0,none⟩=false/\wr.frozen? ⟨w.heap.size+1+1,0,none⟩=false/\wr.frozen? ⟨w.heap.size+1+1,1,none⟩=false/\Hid (zca (w.heap.size+3) S n K (.slice (some ⟨g,0,none⟩) n cap) wr)/\Hid (Below w.heap.size w wr))
 case atStart =>
  refine⟨0,by omega,by omega,rfl,World.cell?_setCell_same _ _ _ m0,?_,?_,?_,?_,?_,?_,I,a7⟩
  all_goals first
   |(rw[World.cell?_setCell_other _ _ _ _ (by simp)];assumption)
   |(rw[World.frozen?_setCell];assumption)
 case round =>
  clear I a7 m0 y0 m1 m2 m3 y1 y2 y3;obtain⟨q,hq,e8,rfl,m0,m1,m2,m3,y1,y2,y3,I,HB⟩:=hrel;have A:q<n:=by omega
  have e0:(q:Int)<(n:Int):=by omega
  have r0:wr.cell? ⟨g,q*8,none⟩=some (.bool (nd S q).u):=I.out.cellAt (i:=q) (j:=0) A (by omega);have r1:wr.cell? ⟨g,q*8+1,none⟩=some (.int .i64 (nd S q).n):=I.out.cellAt (i:=q) (j:=1) A (by omega);by_cases c9:q<k
  ·have b7:=a6.out q c9;have d6:=HR.out q A;unfold zbO at b7;generalize (nd S q).u=xu at *;generalize (nd S q).n=xn at *
   cases xu with
   | true =>
    go_wp2
    go_roundg (k-q)
    case measure=>omega
    case rel=>exact⟨q+1,by omega,by omega,by go_num,m0,m1,m2,m3,y1,y2,y3,I,HB⟩
   | false =>
    have hx:xn=1000000:=by
     simp at b7;omega
    subst hx
    go_wp2
    go_roundg (k-q)
    case measure=>omega
    case rel=>exact⟨q+1,by omega,by omega,by go_num,m0,m1,m2,m3,y1,y2,y3,I,HB⟩
  ·have c8:q=k:=by omega
   subst c8;have r2:wr.cell? ⟨g,q*8+2,none⟩=some (.int .i64 (nd S q).t):=I.out.cellAt (i:=q) (j:=2) A (by omega);have f0:=I.out.frozenAt (q*8);have f1:=I.out.frozenAt (q*8+1);have f2:=I.out.frozenAt (q*8+2);have d6:=HR.out q A;have hu:(nd S q).u=false:=by unfold zbO at O;simp at O;exact O.1
   have e9:(nd S q).n<1000000:=by unfold zbO at O;simp at O;exact O.2
   rw[hu] at r0;have a5:w.heap.size≠g:=by omega
   have T:w.heap.size+1≠g:=by omega
   have F:w.heap.size+1+1≠g:=by omega
   have f6:((nd S q).n == 1000000)=false:=by simp;omega
   have a9:Hid (zca (w.heap.size+3) (S.set q (zbq (nd S q) t)) n K (.slice (some ⟨g,0,none⟩) n cap) (((wr.setCell ⟨g,q*8+1,none⟩ (.int .i64 ((nd S q).n+1))).setCell ⟨g,q*8,none⟩ (.bool true)).setCell ⟨g,q*8+2,none⟩ (.int .i64 t))):=by
    have p1:=I.out.put1 (k:=q) (j:=1) (u:=.int .i64 ((nd S q).n+1)) A HN.out (by omega) ⟨(nd S q).u,(nd S q).n+1,(nd S q).t,(nd S q).m,(nd S q).p,(nd S q).ks,(nd S q).h,(nd S q).c⟩ (fun v j' U=>by
     match j', U with
     | 0,_|1,_|2,_|3,_|4,_|5,_|6,_|7,_=>rfl) rfl
    have p2:=p1.put1 (k:=q) (j:=0) (u:=.bool true) A (by rw[List.length_set];exact HN.out) (by omega) ⟨true,(nd S q).n+1,(nd S q).t,(nd S q).m,(nd S q).p,(nd S q).ks,(nd S q).h,(nd S q).c⟩ (fun v j' U=>by
     rw[zay S q q _ (by rw[HN.out];exact A),yd rfl]
     match j', U with
     | 0,_|1,_|2,_|3,_|4,_|5,_|6,_|7,_=>rfl) (by rw[zay S q q _ (by rw[HN.out];exact A),yd rfl])
    have p3:=p2.put1 (k:=q) (j:=2) (u:=.int .i64 t) A (by rw[List.length_set,List.length_set];exact HN.out) (by omega) ⟨true,(nd S q).n+1,t,(nd S q).m,(nd S q).p,(nd S q).ks,(nd S q).h,(nd S q).c⟩ (fun v j' U=>by
     rw[zay _ q q _ (by rw[List.length_set,HN.out];exact A),yd rfl]
     match j', U with
     | 0,_|1,_|2,_|3,_|4,_|5,_|6,_|7,_=>rfl) (by rw[zay _ q q _ (by rw[List.length_set,HN.out];exact A),yd rfl])
    rw[List.set_set,List.set_set] at p3;exact p3
   generalize c6:(nd S q).n=xn at *;have c7:Hid _:=c6;clear c6;generalize (nd S q).t=xt at *
   go_wp2
   obtain⟨J,D⟩:∃ J,(((wr.setCell ⟨g,q*8+1,none⟩ (.int .i64 (xn+1))).setCell ⟨g,q*8,none⟩ (.bool true)).setCell ⟨g,q*8+2,none⟩ (.int .i64 t))=J:=⟨_,rfl⟩
   have a8:Hid (Below w.heap.size w J):=by
    rw[<- D];exact((HB.out.setCell (by simp;omega) _).setCell (by simp;omega) _).setCell (by simp;omega) _
   have s0:J.cell? ⟨w.heap.size,0,none⟩=some (.slice (some ⟨g,0,none⟩) n cap):=by rw[<- D];exact zak a5 (zak a5 (zak a5 m0))
   have s1:J.cell? ⟨w.heap.size+1,0,none⟩=some (.slice none 0 0):=by rw[<- D];exact zak T (zak T (zak T m1))
   have s2:J.cell? ⟨w.heap.size+1+1,0,none⟩=some (.int .i64 0):=by rw[<- D];exact zak F (zak F (zak F m2))
   have s3:J.cell? ⟨w.heap.size+1+1,1,none⟩=some (.int .i64 0):=by rw[<- D];exact zak F (zak F (zak F m3))
   have s4:J.cell? ⟨g,q*8+1,none⟩=some (.int .i64 (xn+1)):=by rw[<- D,World.cell?_setCell_other _ _ _ _ (by simp),World.cell?_setCell_other _ _ _ _ (by simp)];exact World.cell?_setCell_same _ _ _ r1
   have v1:J.frozen? ⟨w.heap.size+1,0,none⟩=false:=by rw[<- D];exact zbh (zbh (zbh y1))
   have v2:J.frozen? ⟨w.heap.size+1+1,0,none⟩=false:=by rw[<- D];exact zbh (zbh (zbh y2))
   have v3:J.frozen? ⟨w.heap.size+1+1,1,none⟩=false:=by rw[<- D];exact zbh (zbh (zbh y3))
   rw[D] at a9 |-;clear D HB m0 m1 m2 m3 y1 y2 y3 r0 r1 r2 f0 f1 f2 I
   go_region
   all_goals (try go_wp2)
   have b8:∀ b,w.heap.size+3<=b->((((J.setCell ⟨w.heap.size+1,0,none⟩ (.slice (some ⟨g,0,none⟩) n cap)).setCell ⟨w.heap.size+1+1,0,none⟩ (.int .i64 q)).setCell ⟨w.heap.size+1+1,1,none⟩ (.int .i64 (xn+1)))).heap[b]?=J.heap[b]?:=fun b hb =>
    (yo _ _ _ _ (by simp;omega)).trans ((yo _ _ _ _ (by simp;omega)).trans (yo _ _ _ _ (by simp;omega)))
   refine yq (v:=.tuple #[.agg #[.slice (some ⟨g,0,none⟩) n cap],.agg #[.int .i64 q,.int .i64 (xn+1)],.int .i64 0]) (by simp[results,Tryz.results38,go_sem,s1,s2,s3]) rfl ⟨g,cap,K,by rw[c7.out],?_,?_⟩
   ·first
     | exact(((a8.out.setCell (by simp) _).setCell (by simp;omega) _).setCell (by simp;omega) _).drew
     | exact((a8.out.setCell (by simp) _).setCell (by simp;omega) _).setCell (by simp;omega) _
   ·exact a9.out.other (fun b hb _=>b8 b hb)
theorem zmw{w M w2:World}{a:Option Addr}{c n:Nat}{S:List Nd}{K:Nat->Value}{v:Value}(J:Below (w.heap.size+1+1+1) (((w.alloc (.cells #[.slice a n c] 24)).alloc (.cells #[.slice none 0 0] 24)).alloc (.cells #[.int .i64 0,.int .i64 0] 39)) M)(O:Below M.heap.size M w2)(A:zca M.heap.size S n K v w2) :
  ∃ D F,v=.slice D n F/\zca (w.heap.size+3) S n K (.slice D n F) (w2.setCell ⟨w.heap.size,0,none⟩ (.slice D n F)) /\
  Below w.heap.size w (w2.setCell ⟨w.heap.size,0,none⟩ (.slice D n F))/\(w2.cell? ⟨w.heap.size,0,none⟩=some (.slice a n c)/\w2.frozen? ⟨w.heap.size,0,none⟩=false) /\
  w2.cell? ⟨w.heap.size+1,0,none⟩=some (.slice none 0 0)/\w2.cell? ⟨w.heap.size+1+1,0,none⟩=some (.int .i64 0)/\w2.cell? ⟨w.heap.size+1+1,1,none⟩=some (.int .i64 0) /\
  w2.frozen? ⟨w.heap.size+1,0,none⟩=false/\w2.frozen? ⟨w.heap.size+1+1,0,none⟩=false/\w2.frozen? ⟨w.heap.size+1+1,1,none⟩=false:=by
 have T:=J.size;simp only[yk] at T;have I:Below (w.heap.size+1+1+1) _ w2:=J.trans (O.mono (by omega));obtain⟨l0,l1,l2,l3,z1,z2,z3⟩:=zbU I;have z0:w2.frozen? ⟨w.heap.size,0,none⟩=false:=(I.frozen (by simp;omega)).trans (by go_simp);have Z:=A.1
 obtain⟨D,F,rfl⟩:∃ D F,v=.slice D n F:=by
  rcases Z.2 with ⟨h,h0⟩ |⟨g,cap,U,h,h1,_,h3,h4,_⟩
  ·exact⟨none,0,by rw[h,h0]⟩
  ·exact⟨_,cap,h⟩
 refine⟨D,F,rfl,?_,?_,⟨l0,z0⟩,l1,l2,l3,z1,z2,z3⟩
 ·have ho:zca (w.heap.size+3) S n K (.slice D n F) w2:=⟨zau A.1 (by omega),fun i V=>zau (A.2 i V) (by omega)⟩;exact ho.other (fun b hb _=>yo _ _ _ _ (by simp;omega))
 ·exact((zal _ _ _ _).trans (I.mono (by omega))).setCell (by simp) _
theorem zjk(a:Option Addr)(c:Nat)(S:List Nd)(t E:Int)(w:World)(hC:zeu a c S)(hS:zae w a S)(hB:zaD S=0->S.length<=24/\(∀ i,i<S.length->(nd S i).ks.length<=1000)/\∀ i,i<S.length->0<=(nd S i).n/\(nd S i).n<=1000000)(I:zcH S t=E)(J:E≠0) :
  Calls Tryz.prog 38 #[.agg #[.slice a S.length c],.int .i64 t] w fun e w' => e=.returned (.tuple #[.agg #[.slice none 0 0],.agg #[.int .i64 0,.int .i64 0],.int .i64 E])/\Below w.heap.size w w' := by
 have V:Hid _:=hC;unfold zeu at V;have HS:Hid (zae w a S):=hS;unfold zcH at I;by_cases Z:zaD S=0
 ·obtain⟨hN,hK,hR⟩:=hB Z;rw[yd Z] at I;rw[Z] at V;by_cases ht:0<=t/\t<=99
  ·rw[yd ht] at I;have dt:decide (0<=t/\t<=99)=true:=decide_eq_true ht
   cases hf:S.any zbO with
   | true=>rw[hf] at I;exact absurd I.symm J
   | false =>
    rw[hf,ya (by simp)] at I
    have T:∀ i,i<S.length->zbO (nd S i)=false:=fun i hi=>by
     have:=List.any_eq_false.1 hf (nd S i) (by rw[zaJ hi];exact List.getElem_mem hi);simpa using this
    subst I;have DO:Hid (∀ W,zae W a S->Calls _ _ _ _ _):=fun W hW=>zeL a c S W (by omega) (fun i hi=>by have:=hK i hi;omega) hW;have a4:Hid _:=T;have HR:Hid _:=hR;have F:=fun W=>zbR t 0 99 W;rw[dt] at F;clear hS hC hB Z hf J T hR hK dt ht;generalize hn:S.length=n at *;have HN:Hid (S.length=n):=hn;clear hn
    go_enter Tryz.func38,Tryz.ntmps38
    go_wp2_with (go_at_call 28;refine(V.out _ (HS.out.below (zal _ _ _ _))).mono ?_;rintro e w1 ⟨rfl,A⟩;simp only[yk] at A;obtain⟨l0,l1,l2,l3,z1,z2,z3⟩:=zbU A;have D:Below w.heap.size w w1:=(zal _ _ _ _).trans (A.mono (by omega)))
    go_wp2_with (first
     |(go_at_call 36;refine(F _).mono ?_;rintro e b5 ⟨rfl,rfl⟩)
     |(go_at_call 82;refine(DO.out _ (HS.out.below D)).mono ?_;rintro e w2 ⟨v,K,rfl,a7,U⟩;obtain⟨va,vc,rfl,hO,a6,⟨m0,y0⟩,m1,m2,m3,y1,y2,y3⟩:=zmw A a7 U;have O:Hid _:=hO;have a5:Hid _:=a6;clear U a7 hO a6 l0 l1 l2 l3 z1 z2 z3))
    clear F V DO HS A D
    go_loopg [27] n (fun gg s27 wr=>∃ q:Nat,q<=n/\n-q<=gg/\s27=.int .i64 q/\wr.cell? ⟨w.heap.size,0,none⟩=some (.slice va n vc)/\wr.cell? ⟨w.heap.size+1,0,none⟩=some (.slice none 0 0)/\wr.cell? ⟨w.heap.size+1+1,0,none⟩=some (.int .i64 0)/\wr.cell? ⟨w.heap.size+1+1,1,none⟩=some (.int .i64 0)/\wr.frozen? ⟨w.heap.size+1,0,none⟩=false/\wr.frozen? ⟨w.heap.size+1+1,0,none⟩=false/\wr.frozen? ⟨w.heap.size+1+1,1,none⟩=false/\Hid (zca (w.heap.size+3) S n K (.slice va n vc) wr)/\Hid (Below w.heap.size w wr))
    case atStart =>
     refine⟨0,by omega,by omega,rfl,World.cell?_setCell_same _ _ _ m0,?_,?_,?_,?_,?_,?_,O,a5⟩
     all_goals first
      |(rw[World.cell?_setCell_other _ _ _ _ (by simp)];assumption)
      |(rw[World.frozen?_setCell];assumption)
    case round =>
     clear O a5 m0 y0 m1 m2 m3 y1 y2 y3;obtain⟨q,hq,b8,rfl,m0,m1,m2,m3,y1,y2,y3,O,HB⟩:=hrel;by_cases M:q<n
     ·have b6:(q:Int)<(n:Int):=by omega
      have a9:=O.out
      obtain⟨g,rfl,b9⟩:∃ g,va=some ⟨g,0,none⟩/\True:=by
       rcases a9.1.2 with ⟨_,h⟩ |⟨g,cap,b7,h,_⟩
       ·omega
       ·cases h;exact⟨g,rfl,trivial⟩
      clear a9;have r0:wr.cell? ⟨g,q*8,none⟩=some (.bool (nd S q).u):=O.out.cellAt (i:=q) (j:=0) M (by omega);have r1:wr.cell? ⟨g,q*8+1,none⟩=some (.int .i64 (nd S q).n):=O.out.cellAt (i:=q) (j:=1) M (by omega);have a8:=a4.out q M;have c6:=HR.out q M;unfold zbO at a8;generalize (nd S q).u=xu at *;generalize (nd S q).n=xn at *
      cases xu with
      | true =>
       go_wp2
       go_roundg (n-(q+1))
       case measure=>omega
       case rel=>exact⟨q+1,by omega,by omega,by go_num,m0,m1,m2,m3,y1,y2,y3,O,HB⟩
      | false =>
       have hx:xn=1000000:=by
        simp at a8;omega
       subst hx
       go_wp2
       go_roundg (n-(q+1))
       case measure=>omega
       case rel=>exact⟨q+1,by omega,by omega,by go_num,m0,m1,m2,m3,y1,y2,y3,O,HB⟩
     ·have b4:q=n:=by omega
      subst b4
      go_wp2
      refine yq (v:=.tuple #[.agg #[.slice none 0 0],.agg #[.int .i64 0,.int .i64 0],.int .i64 1]) (by simp[results,Tryz.results38,go_sem,m1,m2,m3]) rfl ⟨rfl,?_⟩
      first|exact((HB.out.setCell (by simp) _).setCell (by simp;omega) _).setCell (by simp;omega) _|exact(((HB.out.setCell (by simp) _).setCell (by simp;omega) _).setCell (by simp;omega) _).drew
  ·rw[ya ht] at I;have dt:decide (0<=t/\t<=99)=false:=decide_eq_false ht;have F:=fun W=>zbR t 0 99 W;rw[dt] at F;subst I;clear hS hC hB Z J hR hK dt ht;generalize S.length=n at *
   go_enter Tryz.func38,Tryz.ntmps38
   go_wp2_with (go_at_call 28;refine(V.out _ (HS.out.below (zal _ _ _ _))).mono ?_;rintro e w1 ⟨rfl,A⟩;simp only[yk] at A;obtain⟨l0,l1,l2,l3,z1,z2,z3⟩:=zbU A;have D:Below w.heap.size w w1:=(zal _ _ _ _).trans (A.mono (by omega)))
   go_wp2_with (go_at_call 36;refine(F _).mono ?_;rintro e b5 ⟨rfl,rfl⟩)
   refine yq (v:=.tuple #[.agg #[.slice none 0 0],.agg #[.int .i64 0,.int .i64 0],.int .i64 2]) (by simp[results,Tryz.results38,go_sem,l1,l2,l3]) rfl ⟨rfl,?_⟩
   first|exact((D.setCell (by simp) _).setCell (by simp;omega) _).setCell (by simp;omega) _|exact(((D.setCell (by simp) _).setCell (by simp;omega) _).setCell (by simp;omega) _).drew
 ·rw[ya Z] at I;rw[I] at V;have hz:(E == 0)=false:=by simp[J]
  clear hS I hB Z hC;generalize S.length=n at *
  go_enter Tryz.func38,Tryz.ntmps38
  go_wp2_with (go_at_call 28;refine(V.out _ (HS.out.below (zal _ _ _ _))).mono ?_;rintro e w1 ⟨rfl,A⟩;simp only[yk] at A;obtain⟨l0,l1,l2,l3,z1,z2,z3⟩:=zbU A;have D:Below w.heap.size w w1:=(zal _ _ _ _).trans (A.mono (by omega)))
  refine yq (v:=.tuple #[.agg #[.slice none 0 0],.agg #[.int .i64 0,.int .i64 0],.int .i64 E]) (by simp[results,Tryz.results38,go_sem,l1,l2,l3]) rfl ⟨rfl,?_⟩
  first|exact((D.setCell (by simp) _).setCell (by simp;omega) _).setCell (by simp;omega) _|exact(((D.setCell (by simp) _).setCell (by simp;omega) _).setCell (by simp;omega) _).drew
end Go.Proofs.YtgjfmepbphfjoaaGreat
