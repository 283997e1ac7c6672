/-
  x
-/
import Derived.Test.YtcbcpomacdngmaaGreatQ9
import Derived.Deep.RegionLawGrows
namespace Go.Proofs.YtcbcpomacdngmaaGreat
set_option maxRecDepth 100000
set_option maxHeartbeats 4000000
set_option linter.unusedVariables false
open Go.RowKit
def leaveG(S:List Nd)(D:Nat):List Nd:=if (nd S D).p = -1 then S else zbD S (nd S D).p.toNat D
theorem zbb(S:List Nd)(D:Nat):(leaveG S D).length=S.length:=by
 unfold leaveG;split
 ·rfl
 ·exact zbH _ _ _
theorem Own.up{w:World}{B g:Nat}{S:List Nd}{kb kc:Nat->Nat}(h:Own w B g S kb kc S.length)(w3:World)(D:∀ b,g<=b->w3.heap[b]?=w.heap[b]?):zah w3 (some ⟨g,0,none⟩) S:=by
 obtain⟨hB,F,hF,hN,hg,hd⟩:=h;refine Own.nds (B:=B) (kb:=kb) (kc:=kc) ⟨hB,F,hF.of_block (D g (yj _)),fun i hi=>?_,hg,hd⟩;obtain⟨I,J,M,O,T,U,Z,e7,e8,E,G,hG,e9⟩:=hN i hi;exact⟨I,J,M,O,T,U,Z,e7,e8,E,G,hG.of_block (D (kb i) (Nat.le_of_lt (hg i hi))),e9⟩
def zAL(g n:Nat)(kb:Nat->Nat):Nat->Prop:=fun b=>b=g\/∃ i,i<n/\b=kb i
theorem ztG(B g c:Nat)(S:List Nd)(kb kc:Nat->Nat)(D:Nat)(w:World)(M:Own w B g S kb kc S.length)(hch:D<S.length)(E:(nd S D).p = -1\/∃ pa:Nat,pa<S.length/\pa≠D/\(nd S D).p=pa) :
  Calls Tryz.prog 186 #[.slice (some ⟨g,0,none⟩) S.length c,.int .i64 D] w fun e w' => e=.returned (.tuple #[])/\Off (zAL g S.length kb) w w' /\ Own w' B g (leaveG S D) kb kc (leaveG S D).length:=by
 rcases E with E |⟨pa,hpa,U,E⟩
 ·have hc:w.cell? ⟨g,D*8+4,none⟩=some (.int .i64 (-1)):=by
   obtain⟨_,F,hF,hN,_,_⟩:=M;obtain⟨_,_,_,_,e4,_⟩:=hN D hch;rw[hF.cell (by omega),e4,E]
  refine(zrj g c S.length D w hch hc).mono ?_;rintro e w' ⟨T,Z⟩;refine⟨T,Off.of_below Z,?_⟩;unfold leaveG;rw[yb E];exact M.below Z
 ·refine(znd B g c S kb kc pa D w M hpa hch U E).mono ?_;rintro e w' ⟨T,J,O⟩;refine⟨T,J.mono (fun k _ I=>?_),?_⟩
  ·rcases I with I|I
   ·exact Or.inl I
   ·exact Or.inr ⟨pa,hpa,I⟩
  ·unfold leaveG;rw[ya (by omega),E,yi];exact O
theorem zzY:(Tryz.prog.info? 61).map (fun i=>(i.zero,i.size,i.bytes))=some (some (.agg #[.int .i64 0,.int .i64 0]),2,16):=by kernel_rfl
theorem ziB(ha:Option Addr)(hc:Nat)(hs:List (Int × Int))(p u:Int)(w:World)(J:hs.length<=9223372036854775807)(D:zas w ha hs) :
  Calls Tryz.prog 206 #[.slice ha hs.length hc,.agg #[.int .i64 p,.int .i64 u]] w fun e w' => e=.returned (.bool (decide ((p,u) ∈ hs)))/\Below w.heap.size w w' := by
 have d1:=fun F=>zow ha hc hs p u (w.alloc F) J (D.below ((yk _ _).alloc (yj _) F))
 have R:Hid (∀ r:Int,((0<=r)↔(p,u) ∈ hs)->decide (0<=r)=decide ((p,u) ∈ hs)):=fun r h=>by
  by_cases e:(p,u) ∈ hs
  ·rw[decide_eq_true e,decide_eq_true (h.2 e)]
  ·rw[decide_eq_false e,decide_eq_false (fun x=>e (h.1 x))]
 clear D;generalize decide ((p,u) ∈ hs)=q at *;generalize ((p,u) ∈ hs)=Q at *;generalize hs.length=m at *
 go_enter Tryz.func206,Tryz.ntmps206
 go_wp2_with (go_at_call 216;refine(d1 _).mono ?_;rintro e O ⟨r,rfl,M,E⟩;have I:Hid _:=E;clear E)
 go_ret;refine⟨?_,((yk _ _).alloc (yj _) _).trans (M.mono (by simp))⟩;rw[<- R.out r I.out];rfl
theorem zcr{w D:World}{a:Option Addr}{n c:Nat}{p F x I:Int}(E:Below (w.heap.size+1+1+1+1) ((((w.alloc (.cells #[.slice a n c] 43)).alloc (.cells #[.int .i64 p,.int .i64 F] 61)).alloc (.cells #[.int .i64 x,.int .i64 I] 61)).alloc (.cells #[.slice none 0 0] 43)) D) :
  D.cell? ⟨w.heap.size,0,none⟩=some (.slice a n c)/\D.cell? ⟨w.heap.size+1,0,none⟩=some (.int .i64 p)/\D.cell? ⟨w.heap.size+1,1,none⟩=some (.int .i64 F)/\D.cell? ⟨w.heap.size+1+1,0,none⟩=some (.int .i64 x)/\D.cell? ⟨w.heap.size+1+1,1,none⟩=some (.int .i64 I)/\D.cell? ⟨w.heap.size+1+1+1,0,none⟩=some (.slice none 0 0)/\(∀ o,D.frozen? ⟨w.heap.size+1+1+1,o,none⟩=false):=by
 refine⟨?_,?_,?_,?_,?_,?_,fun o=>?_⟩
 ·exact(E.cell (by first|(simp;done)|(simp;omega))).trans (by go_simp)
 ·exact(E.cell (by first|(simp;done)|(simp;omega))).trans (by go_simp)
 ·exact(E.cell (by first|(simp;done)|(simp;omega))).trans (by go_simp)
 ·exact(E.cell (by first|(simp;done)|(simp;omega))).trans (by go_simp)
 ·exact(E.cell (by first|(simp;done)|(simp;omega))).trans (by go_simp)
 ·exact(E.cell (by first|(simp;done)|(simp;omega))).trans (by go_simp)
 ·exact(E.frozen (by first|(simp;done)|(simp;omega))).trans (by go_simp)
theorem zaI(w:World)(D E o3 F:Obj):Below w.heap.size w ((((w.alloc D).alloc E).alloc o3).alloc F):=(zar w D E o3).alloc (by simp;omega) _
theorem zcN{E:World}{p:Addr}{v:Value}(h:E.cell? p=some v)(D:Obj):(E.alloc D).cell? p=some v :=
 (((yk _ _).alloc (yj _) D).cell (yd _ _ h)).trans h
theorem zmU(W:World)(b:Nat)(p u x y:Int)(h1:W.cell? ⟨b,0,none⟩=some (.int .i64 p))(D:W.cell? ⟨b,1,none⟩=some (.int .i64 u))(E:W.cell? ⟨b,2,none⟩=some (.int .i64 x))(F:W.cell? ⟨b,3,none⟩=some (.int .i64 y)):zas W (some ⟨b,0,none⟩) [(p,u),(x,y)]:=fun i hi=>by
 match i,hi with
 | 0,_=>exact⟨b,0,rfl,by simpa using h1,by simpa using D⟩
 | 1,_=>exact⟨b,0,rfl,by simpa using E,by simpa using F⟩
theorem zfL{w D:World}{v:Value}{x y:Int}(E:Below (w.heap.size+1+1+1) (((w.alloc (.cells #[v] 43)).alloc (.cells #[.int .i64 x,.int .i64 y] 61)).alloc (.cells #[.bool false,.int .i64 0,.int .i64 0,.int .i64 0,.int .i64 0,.slice none 0 0,.int .i64 0,.bool false] 57)) D) :
  (D.cell? ⟨w.heap.size,0,none⟩=some v/\D.cell? ⟨w.heap.size+1,0,none⟩=some (.int .i64 x)/\D.cell? ⟨w.heap.size+1,1,none⟩=some (.int .i64 y)) /\
  (D.cell? ⟨w.heap.size+1+1,0,none⟩=some (.bool false)/\D.cell? ⟨w.heap.size+1+1,1,none⟩=some (.int .i64 0)/\D.cell? ⟨w.heap.size+1+1,2,none⟩=some (.int .i64 0)/\D.cell? ⟨w.heap.size+1+1,3,none⟩=some (.int .i64 0)/\D.cell? ⟨w.heap.size+1+1,4,none⟩=some (.int .i64 0)/\D.cell? ⟨w.heap.size+1+1,5,none⟩=some (.slice none 0 0)/\D.cell? ⟨w.heap.size+1+1,6,none⟩=some (.int .i64 0)/\D.cell? ⟨w.heap.size+1+1,7,none⟩=some (.bool false)) /\
  (∀ o,D.frozen? ⟨w.heap.size+1+1,o,none⟩=false)/\Below w.heap.size w D:=by
 refine⟨⟨?_,?_,?_⟩,⟨?_,?_,?_,?_,?_,?_,?_,?_⟩,fun o=>?_,(zar _ _ _ _).trans (E.mono (by omega))⟩
 all_goals first|exact(E.cell (by first|(simp;done)|(simp;omega))).trans (by go_simp)|exact(E.frozen (by first|(simp;done)|(simp;omega))).trans (by go_simp)
def zaH(S:List Nd)(p u:Int):Int:=if zbq S=0 then zcY S p u else zbq S
theorem zfM{S:List Nd}{p u:Int}(h:zaH S p u=0):zbq S=0/\zcY S p u=0:=by
 unfold zaH at h;by_cases hc:zbq S=0
 ·rw[yb hc] at h;exact⟨hc,h⟩
 ·rw[ya hc] at h;exact absurd h hc
theorem ziK(a:Option Addr)(c:Nat)(S:List Nd)(p u E:Int)(w:World)(hN:S.length<=9223372036854775807)(hB:Big S)(hS:zah w a S)(I:zaH S p u=E)(a5:E≠0) :
  Calls Tryz.prog 14 #[.agg #[.slice a S.length c],.agg #[.int .i64 p,.int .i64 u]] w fun e w' => e=.returned (.tuple #[.agg #[.bool false,.int .i64 0,.int .i64 0,.int .i64 0,.int .i64 0,.slice none 0 0,.int .i64 0,.bool false],.int .i64 E])/\Below w.heap.size w w' := by
 have d0:=fun W hW=>zdT a c S W hN hB hW;have d1:=fun W hW=>zjh a c S p u W hN hW;have HS:Hid (zah w a S):=hS;have hz:(E == 0)=false:=by simp[a5]
 unfold zaH at I;by_cases hc:zbq S=0
 ·rw[yb hc] at I;rw[I] at d1;rw[hc] at d0;have D0:Hid _:=d0;have D1:Hid _:=d1;clear hS d0 d1 I hB hc;generalize S.length=n at *
  go_enter Tryz.func14,Tryz.ntmps14
  go_wp2_with (go_at_call 42;refine(D0.out _ (HS.out.below (zar _ _ _ _))).mono ?_;rintro e w1 ⟨rfl,D⟩;simp only[yr] at D;obtain⟨⟨l0,l1,l2⟩,⟨U,Z,z2,z3,z4,z5,z6,z7⟩,J,F⟩:=zfL D)
  refine(D1.out _ (HS.out.below F)).mono ?_;rintro e w2 ⟨rfl,O⟩;have T:=D.size;simp only[yr] at T;have M:=D.trans (O.mono T);clear l0 l1 l2 U Z z2 z3 z4 z5 z6 z7 J F D O;obtain⟨⟨l0,l1,l2⟩,⟨U,Z,z2,z3,z4,z5,z6,z7⟩,J,F⟩:=zfL M
  go_wp2
  refine yv (v:=.tuple #[.agg #[.bool false,.int .i64 0,.int .i64 0,.int .i64 0,.int .i64 0,.slice none 0 0,.int .i64 0,.bool false],.int .i64 E]) (by simp[results,Tryz.results14,go_sem,U,Z,z2,z3,z4,z5,z6,z7]) rfl ⟨rfl,?_⟩;exact(((((((F.setCell (by simp;omega) _).setCell (by simp;omega) _).setCell (by simp;omega) _).setCell (by simp;omega) _).setCell (by simp;omega) _).setCell (by simp;omega) _).setCell (by simp;omega) _).setCell (by simp;omega) _
 ·rw[ya hc] at I;rw[I] at d0;have D0:Hid _:=d0;clear hS d0 d1 I hB hc;generalize S.length=n at *
  go_enter Tryz.func14,Tryz.ntmps14
  go_wp2_with (go_at_call 42;refine(D0.out _ (HS.out.below (zar _ _ _ _))).mono ?_;rintro e w1 ⟨rfl,D⟩;simp only[yr] at D;obtain⟨⟨l0,l1,l2⟩,⟨U,Z,z2,z3,z4,z5,z6,z7⟩,J,F⟩:=zfL D)
  refine yv (v:=.tuple #[.agg #[.bool false,.int .i64 0,.int .i64 0,.int .i64 0,.int .i64 0,.slice none 0 0,.int .i64 0,.bool false],.int .i64 E]) (by simp[results,Tryz.results14,go_sem,U,Z,z2,z3,z4,z5,z6,z7]) rfl ⟨rfl,?_⟩;exact(((((((F.setCell (by simp;omega) _).setCell (by simp;omega) _).setCell (by simp;omega) _).setCell (by simp;omega) _).setCell (by simp;omega) _).setCell (by simp;omega) _).setCell (by simp;omega) _).setCell (by simp;omega) _
theorem find_ok(a:Option Addr)(c:Nat)(S:List Nd)(k:Nat)(u:Int)(w:World)(hN:S.length<=9223372036854775807)(hB:Big S)(hS:zah w a S)(hk:k<S.length)(hE:zaH S k u=0)(hK:(nd S k).ks.length<=1000000) :
  Calls Tryz.prog 14 #[.agg #[.slice a S.length c],.agg #[.int .i64 k,.int .i64 u]] w fun e w' => ∃ g,e=.returned (.tuple #[.agg #[.bool (nd S k).u,.int .i64 (nd S k).n,.int .i64 (nd S k).t,.int .i64 (nd S k).m,.int .i64 (nd S k).p,.slice (some ⟨g,0,none⟩) (nd S k).ks.length (nd S k).ks.length,.int .i64 (nd S k).h,.bool (nd S k).c],.int .i64 0])/\Below w.heap.size w w' /\ zaj w' (some ⟨g,0,none⟩) (nd S k).ks:=by
 have d1:=fun W Z=>zjh a c S k u W hN Z;rw[(zfM hE).2] at d1;have D1:Hid _:=d1;have d0:=fun W Z=>zdT a c S W hN hB Z;rw[(zfM hE).1] at d0;have D0:Hid _:=d0;have HS:Hid (zah w a S):=hS;have d2:=fun ka kc W Z=>zie (nd S k) ka kc W hK Z;have D2:Hid _:=d2;have NX:Hid (∀ w1,Below w.heap.size w w1->∃ b o,a=some ⟨b,o,none⟩/\zvg w1 b (o+k*8) (nd S k)):=fun w1 h1=>(hS.below h1) k hk;have b2:(k:Int)<(S.length:Int):=by omega
 have IR:Hid (∀ (W:World) g,W.rowIs g 3 (nd S k).ks.length (fun j=>.int .i64 ((nd S k).ks.getD j 0))->zaj W (some ⟨g,0,none⟩) (nd S k).ks):=fun W g h=>zbO h (yj _) (fun _ _=>rfl);clear hS d0 d1 d2 hE hK hB;generalize nd S k=x at *;obtain⟨xu,xn,xt,xm,xp,a9,xh,xc⟩:=x;unfold zvg at NX;dsimp only at *;generalize hL:a9.length=L at *;have HL:Hid _:=hL;clear hL;generalize S.length=n at *
 go_enter Tryz.func14,Tryz.ntmps14
 go_wp2_with (go_at_call 42;refine(D0.out _ (HS.out.below (zar _ _ _ _))).mono ?_;rintro e w0 ⟨rfl,D⟩;simp only[yr] at D;obtain⟨⟨l0,l1,l2⟩,⟨z0,z1,z2,z3,z4,z5,z6,z7⟩,F,M⟩:=zfL D)
 refine(D1.out _ (HS.out.below M)).mono ?_;rintro e w1 ⟨rfl,I⟩;have a7:=D.size;simp only[yr] at a7;have T:=D.trans (I.mono a7);clear l0 l1 l2 z0 z1 z2 z3 z4 z5 z6 z7 F M D I;obtain⟨⟨l0,l1,l2⟩,⟨z0,z1,z2,z3,z4,z5,z6,z7⟩,F,E⟩:=zfL T;obtain⟨b,o,rfl,c0,c1,c2,c3,c4,⟨ka,kc,c5,a6⟩,c6,c7⟩:=NX.out _ E;have b1:Hid _:=a6;have U:Hid _:=T;clear a6 T E
 go_wp2_with fail
 refine(D2.out ka kc _ b1.out).mono ?_;rintro e w2 ⟨g,rfl,a5,hg,O⟩;have a8:=U.out.size;simp only[yr] at a8;have J:=U.out.trans (a5.mono a8);clear l0 l1 l2 z0 z1 z2 z3 z4 z5 z6 z7 F c0 c1 c2 c3 c4 c5 c6 c7;obtain⟨⟨l0,l1,l2⟩,⟨z0,z1,z2,z3,z4,z5,z6,z7⟩,F,E⟩:=zfL J;have b0:Hid _:=E;have HR:Hid (w2.rowIs g 3 L (fun j=>.int .i64 (a9.getD j 0))):=O;clear a5 J E O
 go_wp2
 refine yv (v:=.tuple #[.agg #[.bool xu,.int .i64 xn,.int .i64 xt,.int .i64 xm,.int .i64 xp,.slice (some ⟨g,0,none⟩) L L,.int .i64 xh,.bool xc],.int .i64 0]) (by simp[results,Tryz.results14,go_sem,z0,z1,z2,z3,z4,z5,z6,z7]) rfl ⟨g,rfl,?_,?_⟩
 ·exact(((((((b0.out.setCell (by simp;omega) _).setCell (by simp;omega) _).setCell (by simp;omega) _).setCell (by simp;omega) _).setCell (by simp;omega) _).setCell (by simp;omega) _).setCell (by simp;omega) _).setCell (by simp;omega) _
 ·refine IR.out _ g ?_;exact(((((((HR.out.setOther (by simp;omega) _).setOther (by simp;omega) _).setOther (by simp;omega) _).setOther (by simp;omega) _).setOther (by simp;omega) _).setOther (by simp;omega) _).setOther (by simp;omega) _).setOther (by simp;omega) _
structure zqt (S:List Nd) (k:Nat) (l:List Int):Prop where
 pos:0<l.length
 small:l.length<=24
 head:l.getD 0 0=k
 each:∀ i,i<l.length->∃ q:Nat,l.getD i 0=q/\q<S.length/\(nd S q).u=true/\(q:Int) ∉ l.take i/\(0<i->(nd S q).p ∈ l.take i)
 closed:∀ q:Nat,q<S.length->0<=(nd S q).p->q≠k->decide ((nd S q).p ∈ l)=decide ((q:Int) ∈ l)
theorem zmT(S:List Nd)(p u:Int):zfm S [(p,u)]=zcY S p u:=by
 simp only[zfm];by_cases h:zcY S p u=0
 ·rw[yb h,h]
 ·rw[ya h]
theorem holds_zero{S:List Nd}{p u:Int}(h:zcY S p u=0):∃ k:Nat,p=k/\k<S.length/\(nd S k).u=true/\(nd S k).n=u:=by
 unfold zcY at h;by_cases D:zik S.length p=true
 ·rw[yb D] at h;have E:0<=p/\p<=(S.length:Int)-1:=of_decide_eq_true D;obtain⟨k,rfl⟩:∃ k:Nat,p=(k:Int):=⟨p.toNat,by omega⟩;rw[yi] at h;refine⟨k,rfl,by omega,?_⟩;unfold ztv at h
  split at h
  ·split at h
   ·split at h
    ·exact⟨by assumption,by assumption⟩
    ·omega
   ·omega
  ·omega
 ·rw[ya D] at h;omega
theorem zrx{S:List Nd}(h:WF S){k:Nat}(F:k<S.length)(hu:(nd S k).u=true):zqt S k (zaN S k):=by
 have O:=h.deep_all F;have hn:=zeJ h F (yj _) O;have hl:=zfT h F;obtain⟨r,T,hP⟩:=zwH h F O
 have J:∀ x ∈ zaN S k,∃ q:Nat,x=q/\q<S.length/\(nd S q).u=true:=fun x hx=>by
  obtain⟨q,e,M,D,_⟩:=zcs h F O x hx;refine⟨q,e,M,?_⟩;rcases D with rfl|D
  ·exact hu
  ·exact D
 have E:∀ i,i<(zaN S k).length->0<i->(nd S ((zaN S k).getD i 0).toNat).p ∈ (zaN S k).take i:=fun i hi h0=>by
  unfold zaN at hi |-;rw[T] at hi |-;obtain⟨i,rfl⟩:∃ j,i=j+1:=⟨i-1,by omega⟩;have:=hP.get (i:=i) (by simpa using hi);simpa using this
 refine⟨by unfold zaN;rw[T];simp,by unfold zaN;have:=h.small;omega,by unfold zaN;rw[T];simp,fun i hi=>?_,fun q M hp a5=>?_⟩
 ·obtain⟨q,e,M,D⟩:=J ((zaN S k).getD i 0) (by rw[zae _ 0 hi];exact List.getElem_mem hi);refine⟨q,e,M,D,fun I=>?_,fun h0=>?_⟩
  ·obtain⟨j,hj,ej⟩:=List.getElem_of_mem I;rw[List.length_take] at hj;rw[List.getElem_take] at ej;rw[zae _ 0 hi] at e;have U:j<(zaN S k).length:=by omega
   have:=(List.getElem?_inj (i:=j) (j:=i) U hn).1 (by show (zaN S k)[j]?=(zaN S k)[i]?;rw[List.getElem?_eq_getElem (by omega),List.getElem?_eq_getElem hi];exact congrArg some (ej.trans e.symm));omega
  ·have:=E i hi h0
   rwa [e,yi] at this
 ·obtain⟨y,hy⟩:∃ y:Nat,(nd S q).p=(y:Int):=⟨(nd S q).p.toNat,by omega⟩;rw[hy];by_cases I:(y:Int) ∈ zaN S k
  ·have:=zxy h F O (y:Int) I (q:Int) (by rw[yi];exact(h.in_kids M hy).2);rw[decide_eq_true I,decide_eq_true (show (q:Int) ∈ zaN S k from this)]
  ·have:(q:Int) ∉ zaN S k:=fun Z=>by
    obtain⟨i,hi,ei⟩:=List.getElem_of_mem Z
    have h0:0<i:=by
     rcases Nat.eq_zero_or_pos i with rfl|h0
     ·exfalso;have:(zaN S k).getD 0 0=(k:Int):=by unfold zaN;rw[T];simp
      rw[zae _ 0 hi,ei] at this;omega
     ·exact h0
    have:=E i hi h0;rw[zae _ 0 hi,ei,yi,hy] at this;exact I (List.mem_of_mem_take this)
   rw[decide_eq_false I,decide_eq_false this]
theorem WF.ringless{S:List Nd}(h:WF S){x j:Nat}(E:x<S.length)(h1:1<=j):¬ Up S j x x:=fun D =>
 h.no_ring E h1 (by have:=h.up_short E D;omega) D
theorem WF.leaveG{S:List Nd}(h:WF S){D:Nat}(hch:D<S.length):WF (leaveG S D):=by
 unfold Go.Proofs.YtcbcpomacdngmaaGreat.leaveG;split
 ·exact h
 ·rename_i E;obtain⟨pa,e,_⟩:=h.parent_place hch E;rw[e,yi];exact h.leave hch e
theorem zfS(S:List Nd)(D j:Nat):(nd (leaveG S D) j).u=(nd S j).u/\(nd (leaveG S D) j).n=(nd S j).n/\(nd (leaveG S D) j).h=(nd S j).h/\(nd (leaveG S D) j).t=(nd S j).t/\(nd (leaveG S D) j).m=(nd S j).m/\(nd (leaveG S D) j).c=(nd S j).c:=by
 unfold leaveG;split
 ·exact⟨rfl,rfl,rfl,rfl,rfl,rfl⟩
 ·exact zgz S _ D j
theorem ziQ(S:List Nd){D j:Nat}(E:j<S.length):(nd (leaveG S D) j).p=if j=D then -1 else (nd S j).p:=by
 unfold leaveG;split
 ·rename_i h;split
  ·rename_i e;rw[e];exact h
  ·rfl
 ·exact zhL S E
theorem ztF{S:List Nd}(h:WF S){D j:Nat}(hch:D<S.length)(F:j<S.length)(I:(nd S D).p≠j):(nd (leaveG S D) j).ks=(nd S j).ks:=by
 unfold leaveG;split
 ·rfl
 ·rename_i J;obtain⟨pa,e,_,E,_⟩:=h.parent_place hch J;rw[e,yi,ziR S E F,ya (by omega)]
theorem znc{S:List Nd}{pa D:Nat}(hpa:pa<S.length)(I:zbt S pa D=false):zbt (leaveG S D) pa D=false:=by
 cases hb:zbt (leaveG S D) pa D with
 | false=>rfl
 | true =>
  have hl:=zbb S D;obtain⟨j,O,J,T⟩:=zga (by rw[hl];exact hpa) hb;rw[hl] at J
  have:Up S j pa D:=zml hl (fun y M z E=>by
   unfold zal at *;rw[(zfS S D y).2.2.1,ziQ S M] at E;by_cases F:y=D
   ·subst F;rw[yb rfl] at E;by_cases hh:(nd S y).h = -1
    ·rw[yb hh] at E;omega
    ·rw[ya hh] at E |-;exact E
   ·rw[ya F] at E;exact E) hpa T
  rw[zmm hpa O J this] at I;cases I
theorem zfN{S:List Nd}{D pa:Nat}(h:zjf S D pa=true):(nd S D).h = -1/\pa≠D/\zbt S pa D=false:=by
 unfold zjf at h;simp only[Bool.and_eq_true,Bool.not_eq_true', decide_eq_true_eq,decide_eq_false_iff_not] at h;exact⟨h.1,fun e=>h.2.1 (by rw[e]),h.2.2⟩
structure zvh (S:List Nd) (pa ch:Nat):Prop where
 wf:WF S
 hpa:pa<S.length
 hch:ch<S.length
 hpu:(nd S pa).u=true
 hcu:(nd S ch).u=true
 fits:zjf S ch pa=true
theorem zvh.insert{S:List Nd}{pa D:Nat}(h:zvh S pa D)(at' : Nat):WF (zbj (leaveG S D) pa D at'):=by
 obtain⟨f1,f2,f3⟩:=zfN h.fits;have hl:=zbb S D;refine(h.wf.leaveG h.hch).enter (by rw[hl];exact h.hpa) (by rw[hl];exact h.hch) ?_ ?_ ?_ ?_ f2 (znc h.hpa f3)
 ·rw[(zfS S D pa).1];exact h.hpu
 ·rw[(zfS S D D).1];exact h.hcu
 ·rw[ziQ S h.hch,yb rfl]
 ·rw[(zfS S D D).2.2.1];exact f1
theorem zim{S A:List Nd}:∀ {f p:Nat},(∀ y ∈ zaW S f p,(nd A y.toNat).ks=(nd S y.toNat).ks)->zaW A f p=zaW S f p
 | 0,_,_=>rfl
 | f+1,p,h=>by
  have E:(nd A p).ks=(nd S p).ks:=by
   have:=h (p:Int) (by simp[zaW]);simpa using this
  simp only[zaW,E]
  congr 1
  have:∀ l:List Int,(∀ k ∈ l,k ∈ (nd S p).ks)->l.flatMap (fun k=>zaW A f k.toNat)=l.flatMap (fun k=>zaW S f k.toNat):=by
   intro l
   induction l with
   | nil=>intro _;rfl
   | cons k l J =>
    intro D
    rw[List.flatMap_cons,List.flatMap_cons,J (fun x F=>D x (by simp[F])),zim (fun y I=>h y (by
     simp only[zaW,List.mem_cons,List.mem_flatMap];exact Or.inr ⟨k,D k (by simp),I⟩))]
  exact this _ (fun _ D=>D)
theorem zvh.order{S:List Nd}{pa E:Nat}(h:zvh S pa E)(at' : Nat):zaN (zbj (leaveG S E) pa E at') E=zaN S E:=by
 obtain⟨f1,f2,f3⟩:=zfN h.fits;have hl:=zbb S E;unfold zaN;rw[zbk,hl];refine zim (fun y O=>?_);obtain⟨q,rfl,I,_,j,_,D⟩:=zcs h.wf h.hch (h.wf.deep_all h.hch) y O;rw[yi,zeB _ f2 (by rw[hl];exact I),ya,ztF h.wf h.hch I]
 ·intro e;obtain⟨T,U,F,_,J,_⟩:=h.wf.parent_place h.hch (by omega);have:T=q:=by omega
  subst this;obtain⟨k,Z,_,_,_,M⟩:=h.wf.kid F J;have:k=E:=by omega
  subst this;exact h.wf.ringless h.hch (j:=1+j) (by omega) ((WF.up_one F M).trans D)
 ·rintro rfl
  cases j with
  | zero=>exact f2 D
  | succ j =>
   rw[zmm I (by omega) (by have:=h.wf.up_short I D;omega) D] at f3;cases f3
theorem zzU{ks:List Int}{v:Int}(h:v ∈ ks):∃ k:Nat,idx ks v=k/\k<ks.length/\ks.getD k 0=v:=by
 refine⟨ks.idxOf v,by unfold idx;rw[yb h],List.idxOf_lt_length_of_mem h,?_⟩;rw[zae ks 0 (List.idxOf_lt_length_of_mem h)];exact List.getElem_idxOf (List.idxOf_lt_length_of_mem h)
theorem zvh.kids{S:List Nd}{pa D:Nat}(h:zvh S pa D)(at' : Nat):(nd (zbj (leaveG S D) pa D at') pa).ks=ins (nd (leaveG S D) pa).ks at' D/\(D:Int) ∉ (nd (leaveG S D) pa).ks:=by
 obtain⟨f1,f2,f3⟩:=zfN h.fits;have hl:=zbb S D;refine⟨by rw[zeB _ f2 (by rw[hl];exact h.hpa),yb rfl],(h.wf.leaveG h.hch).not_kid (by rw[ziQ S h.hch,yb rfl]) (by rw[hl];exact h.hpa)⟩
theorem zvh.ahead{S:List Nd}{pa D q:Nat}(h:zvh S pa D)(I:q<S.length)(F:(nd S q).p=pa)(E:q≠D):∃ at' : Nat,idx (nd (leaveG S D) pa).ks q=at' /\ at' < (nd (leaveG S D) pa).ks.length/\(nd (leaveG S D) pa).ks.getD at' 0=q:=by
 have hl:=zbb S D;have:=(h.wf.leaveG h.hch).in_kids (k:=q) (y:=pa) (by rw[hl];exact I) (by rw[ziQ S I,ya E];exact F);exact zzU this.2
theorem WF.kids_small{S:List Nd}(h:WF S){i:Nat}(hi:i<S.length):(nd S i).ks.length<=24:=by
 have h1:=h.kids_nodup hi
 have:=h1.length_le_of_subset (l₂:=(List.range S.length).map (fun k:Nat=>(k:Int))) (fun x E=>by
  obtain⟨k,rfl,D,_⟩:=h.kid hi E;exact List.mem_map.2 ⟨k,List.mem_range.2 D,rfl⟩)
 rw[List.length_map,List.length_range] at this;exact yE this h.small
theorem WF.big{S:List Nd}(h:WF S):Big S:=fun _ hi=>yE (h.kids_small hi) (by omega)
theorem zqU{S:List Nd}{k:Nat}{u:Int}(E:k<S.length)(F:(nd S k).u=true)(hn:(nd S k).n=u)(h:WF S):zcY S k u=0:=by
 have h1:=(zbg (h.node k E)).1;have D:=(zbg (h.node k E)).2.2;unfold zdZ at D;rw[yb F] at D;unfold zcS at h1;simp only[Bool.and_eq_true,decide_eq_true_eq] at h1;have I:(nd S k).n≠0:=fun e=>by rw[yb e] at D;cases D
 unfold zcY;rw[yb (show zik S.length (k:Int)=true from decide_eq_true ⟨by omega,by omega⟩),yi];unfold ztv;rw[yb (decide_eq_true ⟨by omega,by omega⟩),yb F,yb hn]
theorem zuU{S:List Nd}{k:Nat}{u:Int}(D:k<S.length)(E:(nd S k).u=true)(hn:(nd S k).n=u)(h:WF S):zba S [((k:Int),u)]=0:=by
 unfold zba;rw[yb ((zfE S).2 h),zmT];exact zqU D E hn h
structure Tst where
 t:Int
 m:Int
 near:Bool
def zxg(T M:Int)(x:Nd):Bool:=(decide (T = -1000001) || decide (T=x.t)) && (decide (M = -1000001) || decide (M=x.m))
def zbn(near:Bool):(Nat->Bool) × List Int->Int->((Nat->Bool) × List Int) × Bool:=fun st x =>
 if st.1 x.toNat then (st,false) else ((fun j=>if j=x.toNat then true else st.1 j,st.2++[x]),!near)
theorem zdJ{near:Bool}{st:(Nat->Bool) × List Int}{y:Nat}(h:st.1 y=true):zbn near st (y:Int)=(st,false):=by
 unfold zbn;rw[yi,yb h]
theorem zev{near:Bool}{st:(Nat->Bool) × List Int}{y:Nat}(h:st.1 y=false):zbn near st (y:Int)=((fun j=>if j=y then true else st.1 j,st.2++[(y:Int)]),!near):=by
 unfold zbn;rw[yi,ya (by rw[h];exact Bool.false_ne_true)]
def zgR(S:List Nd)(near:Bool)(st:(Nat->Bool) × List Int)(place:Int):(Nat->Bool) × List Int :=
 if zik S.length place then zbC S Nd.p (zbn near) S.length (nd S place.toNat).p st else st
def zdI(S:List Nd)(near:Bool)(places:List Int):(Nat->Bool) × List Int:=places.foldl (zgR S near) (fun _=>false,[])
def zcP(S:List Nd)(near:Bool)(places:List Int):List Int:=(zdI S near places).2
theorem zmw(S:List Nd)(near:Bool)(places:List Int)(k:Nat)(h:k<places.length):zdI S near (places.take (k+1))=zgR S near (zdI S near (places.take k)) (places.getD k 0):=by
 unfold zdI;rw[List.take_add_one,List.foldl_append,List.getElem?_eq_getElem h,zae places 0 h];rfl
def zgH(S:List Nd)(te:Tst)(ps:List Int):List Int:=flt (fun x=>!zxg te.t te.m (nd S x.toNat)) ps
def zrY(S:List Nd):List Tst->List Int->List Int
 | [],ps=>ps
 | [te],ps=>zgH S te ps
 | te :: D :: r,ps=>zrY S (D :: r) (zcP S te.near (zgH S te ps))
def zeF(S:List Nd)(place:Int)(q:List Tst):Bool:=decide (0<(zrY S q.reverse [place]).length)
def PUp(S:List Nd):Nat->Nat->Nat->Prop
 | 0,x,p=>x=p
 | j+1,x,p=>∃ y:Nat,y<S.length/\(nd S x).p=y/\PUp S j y p
theorem PUp.lt{S:List Nd}:∀ {j x y:Nat},x<S.length->PUp S j x y->y<S.length
 | 0,_,_,E,h=>by cases h;exact E
 | _+1,_,_,_,⟨_,h1,_,D⟩=>PUp.lt h1 D
theorem PUp.up{S:List Nd}(h:WF S):∀ {j x y:Nat},x<S.length->PUp S j x y->Up S j x y
 | 0,_,_,_,F=>F
 | j+1,x,y,I,⟨z,h1,D,E⟩=>by
  refine⟨z,h1,?_,PUp.up h h1 E⟩;unfold zal;rw[yb (h.host_of_parent I (by omega)).1];exact D
structure Con (S:List Nd) (st:(Nat->Bool) × List Int):Prop where
 mem:∀ x ∈ st.2,∃ k:Nat,x=k/\k<S.length/\st.1 k=true
 all:∀ k,st.1 k=true->k<S.length/\(k:Int) ∈ st.2
theorem Con.iff{S:List Nd}{st:(Nat->Bool) × List Int}(h:Con S st)(k:Nat):(k:Int) ∈ st.2↔st.1 k=true:=by
 constructor
 ·intro D;obtain⟨k', e,_,hs⟩:=h.mem _ D;have:k' = k:=by omega
  rw[<- this];exact hs
 ·intro hs;exact(h.all k hs).2
theorem Con.add{S:List Nd}{st:(Nat->Bool) × List Int}(h:Con S st){k:Nat}(I:k<S.length):Con S (fun j=>if j=k then true else st.1 j,st.2++[(k:Int)]):=by
 refine⟨fun x D=>?_,fun j F=>?_⟩
 ·rcases List.mem_append.1 D with D|D
  ·obtain⟨i,e,h1,E⟩:=h.mem x D;refine⟨i,e,h1,?_⟩;dsimp only;split
   ·rfl
   ·exact E
  ·exact⟨k,by simpa using D,I,yb rfl⟩
 ·dsimp only at F
  split at F
  ·rename_i e;subst e;exact⟨I,by simp⟩
  ·obtain⟨h1,E⟩:=h.all j F;exact⟨h1,List.mem_append.2 (Or.inl E)⟩
def ClU(S:List Nd)(st:(Nat->Bool) × List Int)(y:Int):Prop:=∀ a,st.1 a=true->∀ b:Nat,(nd S a).p=b->b<S.length->st.1 b=true\/(b:Int)=y
theorem ClU.up{S:List Nd}{st:(Nat->Bool) × List Int}(h:∀ a,st.1 a=true->∀ b:Nat,(nd S a).p=b->b<S.length->st.1 b=true):∀ {j x z:Nat},st.1 x=true->PUp S j x z->st.1 z=true
 | 0,_,_,D,I=>by cases I;exact D
 | _+1,_,_,D,⟨y,h1,E,F⟩=>ClU.up h (h _ D y E h1) F
theorem zmD{S:List Nd}:∀ (f:Nat) (y:Int) (st:(Nat->Bool) × List Int),Con S st->ClU S st y->(∀ D:Nat,y=D->D<S.length->∀ j z,PUp S j D z->j<f) ->
  Con S (zbC S Nd.p (zbn false) f y st)/\(∀ a,(zbC S Nd.p (zbn false) f y st).1 a=true->∀ b:Nat,(nd S a).p=b->b<S.length->(zbC S Nd.p (zbn false) f y st).1 b=true) /\
  ∀ z,(zbC S Nd.p (zbn false) f y st).1 z=true↔st.1 z=true\/∃ (D j:Nat),y=D/\D<S.length/\PUp S j D z
 | 0,y,st,hc,F,hf=>by
  have hn:∀ D:Nat,y=D->¬ D<S.length:=fun D e Z=>by have:=hf D e Z 0 D rfl;omega
  refine⟨hc,fun a ha b J E=>?_,fun z=>⟨Or.inl,fun h=>?_⟩⟩
  ·rcases F a ha b J E with h|h
   ·exact h
   ·exact absurd E (hn b h.symm)
  ·rcases h with h |⟨D,j,e,Z,_⟩
   ·exact h
   ·exact absurd Z (hn D e)
 | f+1,y,st,hc,F,hf=>by
  simp only[zbC];by_cases hp:zik S.length y=true
  ·have hq:0<=y/\y<=(S.length:Int)-1:=of_decide_eq_true hp;obtain⟨D,rfl⟩:∃ k:Nat,y=(k:Int):=⟨y.toNat,by omega⟩;have I:D<S.length:=by omega
   rw[yb hp]
   cases hs:st.1 D with
   | true =>
    rw[zdJ hs];simp only[Bool.false_eq_true,if_false]
    have M:∀ a,st.1 a=true->∀ b:Nat,(nd S a).p=b->b<S.length->st.1 b=true:=fun a ha b J E=>by
     rcases F a ha b J E with h|h
     ·exact h
     ·have:b=D:=by omega
      rw[this];exact hs
    refine⟨hc,M,fun z=>⟨Or.inl,fun h=>?_⟩⟩;rcases h with h |⟨U,j,e,_,O⟩
    ·exact h
    ·have:U=D:=by omega
     subst this;exact ClU.up M hs O
   | false =>
    rw[zev hs];simp only[Bool.not_false,if_true,yi]
    obtain⟨g1,g2,g3⟩:=zmD f (nd S D).p (fun j=>if j=D then true else st.1 j,st.2++[(D:Int)]) (hc.add I) (fun a ha b J E=>by
     dsimp only at ha |-;by_cases e:a=D
     ·subst e;exact Or.inr J.symm
     ·rw[ya e] at ha;rcases F a ha b J E with h|h
      ·left;split
       ·rfl
       ·exact h
      ·left;rw[yb (by omega)]) (fun U e T j z O=>by
     have:=hf D rfl I (j+1) z ⟨U,T,e,O⟩
     omega)
    refine⟨g1,g2,fun z=>?_⟩;rw[g3 z];dsimp only;constructor
    ·rintro(h |⟨U,j,e,T,O⟩)
     ·by_cases ez:z=D
      ·exact Or.inr ⟨D,0,rfl,I,ez.symm⟩
      ·rw[ya ez] at h;exact Or.inl h
     ·exact Or.inr ⟨D,j+1,rfl,I,⟨U,T,e,O⟩⟩
    ·rintro(h |⟨U,j,e,_,O⟩)
     ·left;split
      ·rfl
      ·exact h
     ·have:U=D:=by omega
      subst this
      cases j with
      | zero=>left;rw[yb O.symm]
      | succ j =>
       obtain⟨y2,h1,h2,h3⟩:=O;exact Or.inr ⟨y2,j,h2,h1,h3⟩
  ·rw[ya hp];have hn:∀ D:Nat,y=D->¬ D<S.length:=fun D e Z=>hp (decide_eq_true ⟨by omega,by omega⟩);refine⟨hc,fun a ha b J E=>?_,fun z=>⟨Or.inl,fun h=>?_⟩⟩
   ·rcases F a ha b J E with h|h
    ·exact h
    ·exact absurd E (hn b h.symm)
   ·rcases h with h |⟨D,j,e,Z,_⟩
    ·exact h
    ·exact absurd Z (hn D e)
theorem zqz{S:List Nd}{f:Nat}(J:0<f)(y:Int)(st:(Nat->Bool) × List Int)(hc:Con S st) :
  Con S (zbC S Nd.p (zbn true) f y st)/\∀ z,(zbC S Nd.p (zbn true) f y st).1 z=true↔st.1 z=true\/(y=z/\z<S.length):=by
 obtain⟨f,rfl⟩:∃ g,f=g+1:=⟨f-1,by omega⟩;simp only[zbC];by_cases D:zik S.length y=true
 ·have M:0<=y/\y<=(S.length:Int)-1:=of_decide_eq_true D;obtain⟨E,rfl⟩:∃ k:Nat,y=(k:Int):=⟨y.toNat,by omega⟩;have F:E<S.length:=by omega
  rw[yb D]
  cases hs:st.1 E with
  | true =>
   rw[zdJ hs];simp only[Bool.false_eq_true,if_false];refine⟨hc,fun z=>⟨Or.inl,fun h=>?_⟩⟩;rcases h with h |⟨e,_⟩
   ·exact h
   ·have:z=E:=by omega
    rw[this];exact hs
  | false =>
   rw[zev hs];simp only[Bool.not_true,Bool.false_eq_true,if_false];refine⟨hc.add F,fun z=>?_⟩;constructor
   ·intro h;by_cases I:z=E
    ·exact Or.inr ⟨by rw[I],by omega⟩
    ·rw[ya I] at h;exact Or.inl h
   ·rintro(h |⟨e,_⟩)
    ·split
     ·rfl
     ·exact h
    ·rw[yb (by omega)]
 ·rw[ya D];refine⟨hc,fun z=>⟨Or.inl,fun h=>?_⟩⟩;rcases h with h |⟨e,O⟩
  ·exact h
  ·exact absurd (decide_eq_true ⟨by omega,by omega⟩) D
def Abv(S:List Nd)(near:Bool)(k x:Nat):Prop:=if near then (nd S k).p=x/\x<S.length else ∃ (D j:Nat),(nd S k).p=D/\D<S.length/\PUp S j D x
theorem Abv.far{S:List Nd}{near:Bool}{k x:Nat}(h:Abv S near k x):Abv S false k x:=by
 cases near with
 | false=>exact h
 | true =>
  obtain⟨h1,D⟩:(nd S k).p=x/\x<S.length:=h;exact(show ∃ (E j:Nat),_ from ⟨x,0,h1,D,rfl⟩)
theorem zgm{S:List Nd}(h:WF S)(near:Bool):∀ (ps:List Int) (st:(Nat->Bool) × List Int),(∀ x ∈ ps,∃ k:Nat,x=k/\k<S.length)->Con S st->(near=false->∀ a,st.1 a=true->∀ b:Nat,(nd S a).p=b->b<S.length->st.1 b=true) ->
  Con S (ps.foldl (zgR S near) st)/\∀ z,(ps.foldl (zgR S near) st).1 z=true↔st.1 z=true\/∃ k:Nat,(k:Int) ∈ ps/\Abv S near k z
 | [],st,_,hc,_=>⟨hc,fun z=>⟨Or.inl,fun h=>by
   rcases h with h |⟨k,hk,_⟩
   ·exact h
   ·cases hk⟩⟩
 | x :: ps,st,F,hc,O=>by
  obtain⟨k,rfl,hk⟩:=F x (by simp);have T:zik S.length (k:Int)=true:=decide_eq_true ⟨by omega,by omega⟩;simp only[List.foldl_cons]
  have e:zgR S near st (k:Int)=zbC S Nd.p (zbn near) S.length (nd S k).p st:=by
   unfold zgR;rw[yb T,yi]
  rw[e]
  cases near with
  | true =>
   obtain⟨g1,g2⟩:=zqz (f:=S.length) (by omega) (nd S k).p st hc;obtain⟨i1,i2⟩:=zgm h true ps _ (fun x U=>F x (by simp[U])) g1 (fun e=>by cases e);refine⟨i1,fun z=>?_⟩;rw[i2 z,g2 z];constructor
   ·rintro((h|h) |⟨k', D,h⟩)
    ·exact Or.inl h
    ·exact Or.inr ⟨k,by simp,h⟩
    ·exact Or.inr ⟨k', by simp[D],h⟩
   ·rintro(h |⟨k', D,h⟩)
    ·exact Or.inl (Or.inl h)
    ·rcases List.mem_cons.1 D with e|D
     ·have:k' = k:=by omega
      subst this;exact Or.inl (Or.inr h)
     ·exact Or.inr ⟨k', D,h⟩
  | false =>
   obtain⟨g1,g2,g3⟩:=zmD S.length (nd S k).p st hc (fun a ha b hb M=>Or.inl (O rfl a ha b hb M)) (fun E e J j z I=>by
    have:=h.up_short J (I.up h J)
    omega)
   obtain⟨i1,i2⟩:=zgm h false ps _ (fun x U=>F x (by simp[U])) g1 (fun _=>g2);refine⟨i1,fun z=>?_⟩;rw[i2 z,g3 z];constructor
   ·rintro((h |⟨E,j,e,Z,I⟩) |⟨k', D,h⟩)
    ·exact Or.inl h
    ·exact Or.inr ⟨k,by simp,(show ∃ (E j:Nat),_ from ⟨E,j,e,Z,I⟩)⟩
    ·exact Or.inr ⟨k', by simp[D],h⟩
   ·rintro(h |⟨k', D,h⟩)
    ·exact Or.inl (Or.inl h)
    ·rcases List.mem_cons.1 D with e|D
     ·have:k' = k:=by omega
      subst this;obtain⟨E,j,e,Z,I⟩:∃ (E j:Nat),(nd S k').p=E/\E<S.length/\PUp S j E z:=h;exact Or.inl (Or.inr ⟨E,j,e,Z,I⟩)
     ·exact Or.inr ⟨k', D,h⟩
def zcg(S:List Nd)(ps:List Int):Prop:=∀ x ∈ ps,∃ k:Nat,x=k/\k<S.length
theorem ztS{S:List Nd}(h:WF S)(near:Bool){ps:List Int}(E:zcg S ps):zcg S (zcP S near ps)/\∀ z:Nat,(z:Int) ∈ zcP S near ps↔∃ k:Nat,(k:Int) ∈ ps/\Abv S near k z:=by
 obtain⟨h1,I⟩:=zgm h near ps (fun _=>false,[]) E ⟨fun x F=>(by cases F),fun k D=>(by cases D)⟩ (fun _ a ha=>by cases ha);refine⟨fun x F=>?_,fun z=>?_⟩
 ·obtain⟨k,e,D,_⟩:=h1.mem x F;exact⟨k,e,D⟩
 ·rw[show zcP S near ps=(ps.foldl (zgR S near) (fun _=>false,[])).2 from rfl,h1.iff z,I z];constructor
  ·rintro(h|h)
   ·cases h
   ·exact h
  ·exact Or.inr
theorem zwB{S:List Nd}{te:Tst}{ps:List Int}{x:Int}:x ∈ zgH S te ps↔x ∈ ps/\zxg te.t te.m (nd S x.toNat)=true:=by
 unfold zgH;rw[zlP];simp
theorem zcg.sift{S:List Nd}{te:Tst}{ps:List Int}(h:zcg S ps):zcg S (zgH S te ps):=fun x D=>h x (zwB.1 D).1
theorem znG(T M:Int)(near:Bool)(x:Nd)(k:Value)(w:World) :
  Calls Tryz.prog 212 #[.agg #[.int .i64 T,.int .i64 M,.bool near],.agg #[.bool x.u,.int .i64 x.n,.int .i64 x.t,.int .i64 x.m,.int .i64 x.p,k,.int .i64 x.h,.bool x.c]] w fun e w' => e=.returned (.bool (zxg T M x))/\Below w.heap.size w w' := by
 obtain⟨xu,xn,O,F,xp,Z,xh,xc⟩:=x;unfold zxg;dsimp only;by_cases h1:T = -1000001
 ·subst h1;simp only[decide_true,Bool.true_or,Bool.true_and];by_cases D:M = -1000001
  ·subst D;simp only[decide_true,Bool.true_or]
   go_enter Tryz.func212,Tryz.ntmps212
   go_wp2
   go_ret;exact⟨rfl,((yk _ _).alloc (yj _) _).alloc (by simp) _⟩
  ·have U:(M == -1000001)=false:=beq_eq_false_iff_ne.2 D;rw[decide_eq_false D,Bool.false_or];by_cases E:M=F
   ·subst E;simp only[decide_true]
    go_enter Tryz.func212,Tryz.ntmps212
    go_wp2
    go_ret;exact⟨by simp,((yk _ _).alloc (yj _) _).alloc (by simp) _⟩
   ·have I:(M == F)=false:=beq_eq_false_iff_ne.2 E;rw[decide_eq_false E]
    go_enter Tryz.func212,Tryz.ntmps212
    go_wp2
    go_ret;refine⟨?_,((yk _ _).alloc (yj _) _).alloc (by simp) _⟩
    first
     | rfl
     | simp[I]
 ·have e1:(T == -1000001)=false:=beq_eq_false_iff_ne.2 h1;rw[decide_eq_false h1,Bool.false_or];by_cases J:T=O
  ·subst J;simp only[decide_true,Bool.true_and];by_cases D:M = -1000001
   ·subst D;simp only[decide_true,Bool.true_or]
    go_enter Tryz.func212,Tryz.ntmps212
    go_wp2
    go_ret;exact⟨rfl,((yk _ _).alloc (yj _) _).alloc (by simp) _⟩
   ·have U:(M == -1000001)=false:=beq_eq_false_iff_ne.2 D;rw[decide_eq_false D,Bool.false_or];by_cases E:M=F
    ·subst E;simp only[decide_true]
     go_enter Tryz.func212,Tryz.ntmps212
     go_wp2
     go_ret;exact⟨by simp,((yk _ _).alloc (yj _) _).alloc (by simp) _⟩
    ·have I:(M == F)=false:=beq_eq_false_iff_ne.2 E;rw[decide_eq_false E]
     go_enter Tryz.func212,Tryz.ntmps212
     go_wp2
     go_ret;refine⟨?_,((yk _ _).alloc (yj _) _).alloc (by simp) _⟩
     first
      | rfl
      | simp[I]
  ·have e2:(T == O)=false:=beq_eq_false_iff_ne.2 J;rw[decide_eq_false J,Bool.false_and]
   go_enter Tryz.func212,Tryz.ntmps212
   go_wp2
   go_ret;exact⟨rfl,((yk _ _).alloc (yj _) _).alloc (by simp) _⟩
theorem zwZ(a:Option Addr)(c:Nat)(S:List Nd)(T M:Int)(near:Bool)(F Z:Nat)(k:Nat)(w:World)(hk:k<S.length)(hS:zah w a S)(J:w.cell? ⟨F,0,none⟩=some (.int .i64 T))(O:w.cell? ⟨F,1,none⟩=some (.int .i64 M))(U:w.cell? ⟨F,2,none⟩=some (.bool near))(hs:w.cell? ⟨Z,0,none⟩=some (.slice a S.length c)) :
  Calls Tryz.prog 211 #[.int .i64 (k:Int),.pointer (some ⟨F,0,none⟩),.pointer (some ⟨Z,0,none⟩)] w fun e w' => e=.returned (.bool (!zxg T M (nd S k)))/\Below w.heap.size w w' := by
 have a5:(k:Int)<(S.length:Int):=by omega
 obtain⟨b,o,rfl,c0,c1,c2,c3,c4,⟨ka,kc,c5,_⟩,c6,c7⟩:=hS k hk;have d1:=fun v W=>znG T M near (nd S k) v W;clear hS;generalize zxg T M (nd S k)=r at *;generalize nd S k=x at *;generalize S.length=n at *
 go_enter Tryz.func211,Tryz.ntmps211
 go_wp2_with fail
 go_region_held3 (fun E=>E.cell? ⟨F,0,none⟩=some (.int .i64 T)/\E.cell? ⟨F,1,none⟩=some (.int .i64 M)/\E.cell? ⟨F,2,none⟩=some (.bool near)/\E.cell? ⟨Z,0,none⟩=some (.slice (some ⟨b,o,none⟩) n c)/\E.cell? ⟨b,o+k*8,none⟩=some (.bool x.u)/\E.cell? ⟨b,o+k*8+1,none⟩=some (.int .i64 x.n)/\E.cell? ⟨b,o+k*8+2,none⟩=some (.int .i64 x.t)/\E.cell? ⟨b,o+k*8+3,none⟩=some (.int .i64 x.m)/\E.cell? ⟨b,o+k*8+4,none⟩=some (.int .i64 x.p)/\E.cell? ⟨b,o+k*8+5,none⟩=some (.slice ka x.ks.length kc)/\E.cell? ⟨b,o+k*8+6,none⟩=some (.int .i64 x.h)/\E.cell? ⟨b,o+k*8+7,none⟩=some (.bool x.c)) (go_keep) (first|(go_at_call 212;refine(d1 _ _).mono ?_;rintro e w2 ⟨rfl,I⟩;have D:Below w.heap.size w w2:=((yk _ _).drew).trans I;have m0:=(D.cell (yd _ _ J)).trans J;have m1:=(D.cell (yd _ _ O)).trans O;have m2:=(D.cell (yd _ _ U)).trans U;have m3:=(D.cell (yd _ _ hs)).trans hs;have n0:=(D.cell (yd _ _ c0)).trans c0;have n1:=(D.cell (yd _ _ c1)).trans c1;have n2:=(D.cell (yd _ _ c2)).trans c2;have n3:=(D.cell (yd _ _ c3)).trans c3;have n4:=(D.cell (yd _ _ c4)).trans c4;have n5:=(D.cell (yd _ _ c5)).trans c5;have n6:=(D.cell (yd _ _ c6)).trans c6;have n7:=(D.cell (yd _ _ c7)).trans c7;clear I))
 all_goals go_wp2
 all_goals go_ret
 all_goals exact⟨rfl,D⟩
end Go.Proofs.YtcbcpomacdngmaaGreat
