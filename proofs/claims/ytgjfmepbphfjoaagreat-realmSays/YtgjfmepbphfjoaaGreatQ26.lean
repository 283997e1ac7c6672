/-
  x
-/
import Derived.Test.YtgjfmepbphfjoaaGreatQ21
namespace Go.Proofs.YtgjfmepbphfjoaaGreat
set_option maxRecDepth 100000
set_option maxHeartbeats 4000000
set_option linter.unusedVariables false
open Go.RowKit
theorem zcs{w A:World}{a:Option Addr}{n c:Nat}{p u:Int}(D:Below (w.heap.size+1+1+1+1) ((((w.alloc (.cells #[.slice a n c] 24)).alloc (.cells #[.int .i64 p,.int .i64 u] 39)).alloc (.cells #[.slice none 0 0] 24)).alloc (.cells #[.int .i64 0,.int .i64 0] 39)) A) :
  (A.cell? ⟨w.heap.size,0,none⟩=some (.slice a n c)/\A.cell? ⟨w.heap.size+1,0,none⟩=some (.int .i64 p)/\A.cell? ⟨w.heap.size+1,1,none⟩=some (.int .i64 u)/\A.cell? ⟨w.heap.size+1+1,0,none⟩=some (.slice none 0 0)/\A.cell? ⟨w.heap.size+1+1+1,0,none⟩=some (.int .i64 0)/\A.cell? ⟨w.heap.size+1+1+1,1,none⟩=some (.int .i64 0))/\((∀ o,A.frozen? ⟨w.heap.size,o,none⟩=false)/\(∀ o,A.frozen? ⟨w.heap.size+1+1,o,none⟩=false)/\(∀ o,A.frozen? ⟨w.heap.size+1+1+1,o,none⟩=false))/\w.heap.size+4<=A.heap.size/\Below w.heap.size w A:=by
 have hs:=D.size;simp only[yk] at hs;refine⟨⟨?_,?_,?_,?_,?_,?_⟩,⟨fun o=>?_,fun o=>?_,fun o=>?_⟩,by omega,(zaq _ _ _ _ _).trans (D.mono (by omega))⟩
 all_goals first|exact(D.cell (by first|(simp;done)|(simp;omega))).trans (by go_simp)|exact(D.frozen (by first|(simp;done)|(simp;omega))).trans (by go_simp)
theorem zev(E:Int)(w:World):Calls Tryz.prog 94 #[.int .i64 E] w fun e w' => e=.returned (.tuple #[.agg #[.slice none 0 0],.agg #[.int .i64 0,.int .i64 0],.int .i64 E])/\Below w.heap.size w w' := by
 go_enter Tryz.func94,Tryz.ntmps94
 go_wp2
 refine yq (v:=.tuple #[.agg #[.slice none 0 0],.agg #[.int .i64 0,.int .i64 0],.int .i64 E]) (by simp[results,Tryz.results94,go_sem]) rfl ⟨rfl,?_⟩
 first
  | exact zav _ _ _
  | exact(((zav _ _ _).setCell (by simp) _).setCell (by simp;omega) _).setCell (by simp;omega) _
  | exact((((zav _ _ _).setCell (by simp) _).setCell (by simp;omega) _).setCell (by simp;omega) _).drew
theorem zoL(a:Option Addr)(c:Nat)(S:List Nd)(P u E:Int)(cl:Bool)(w:World)(hN:S.length<=9223372036854775807)(hC:zeu a c S)(hS:zae w a S)(hE:zar S [(P,u)]=E)(I:E≠0) :
  Calls Tryz.prog 45 #[.agg #[.slice a S.length c],.agg #[.int .i64 P,.int .i64 u],.bool cl] w fun e w' => e=.returned (.tuple #[.agg #[.slice none 0 0],.agg #[.int .i64 0,.int .i64 0],.int .i64 E])/\Below w.heap.size w w' := by
 have U:=fun(W:World) (ha:Option Addr) (hW:zae W a S) (hH:zam W ha [(P,u)])=>zbd a c S ha 1 [(P,u)] W (by omega) hC hW (by simp) hH;rw[hE] at U;have DF:Hid _:=U;have HS:Hid (zae w a S):=hS;have DB:Hid _:=zev;clear hS hC U hE;have hz:(E == 0)=false:=by simp[I]
 have a6:decide (E=0)=false:=decide_eq_false I;generalize S.length=n at *
 go_enter Tryz.func45,Tryz.ntmps45
 go_wp2_with fail
 refine yf (DF.out _ _ (HS.out.below ((zaq _ _ _ _ _).alloc (by simp;omega) _)) (zaV _ _ _ _ (by go_simp) (by go_simp))) ?_;rintro e w1 ⟨rfl,J⟩;have A:Below (w.heap.size+1+1+1+1) ((((w.alloc (.cells #[.slice a n c] 24)).alloc (.cells #[.int .i64 P,.int .i64 u] 39)).alloc (.cells #[.slice none 0 0] 24)).alloc (.cells #[.int .i64 0,.int .i64 0] 39)) w1:=(by have h:=((yj (w.heap.size+1+1+1+1) ((((w.alloc (.cells #[.slice a n c] 24)).alloc (.cells #[.int .i64 P,.int .i64 u] 39)).alloc (.cells #[.slice none 0 0] 24)).alloc (.cells #[.int .i64 0,.int .i64 0] 39))).alloc (by simp) _).trans (J.mono (by simp));exact h);obtain⟨⟨l0,l1,l2,l3,l4,l5⟩,⟨z0,z2,z3⟩,a5,V⟩:=zcs A;have O:Hid _:=A;clear J A V
 go_wp2_with fail
 refine yf (DB.out _ _) ?_;rintro e Z ⟨rfl,M⟩;have T:Hid (Below (w.heap.size+1+1+1+1) ((((w.alloc (.cells #[.slice a n c] 24)).alloc (.cells #[.int .i64 P,.int .i64 u] 39)).alloc (.cells #[.slice none 0 0] 24)).alloc (.cells #[.int .i64 0,.int .i64 0] 39)) Z):=O.out.trans (M.mono (by omega));clear M;obtain⟨⟨m0,m1,m2,m3,m4,m5⟩,⟨y0,y2,y3⟩,a4,F⟩:=zcs T.out;have q2:w.heap.size+1+1<Z.heap.size:=by omega
 have q3:w.heap.size+1+1+1<Z.heap.size:=by omega
 have D:Hid _:=F;clear F
 go_wp2_with fail
 refine yq (v:=.tuple #[.agg #[.slice none 0 0],.agg #[.int .i64 0,.int .i64 0],.int .i64 E]) (by simp only[results,Tryz.results45];go_simp) rfl ⟨rfl,?_⟩
 first
  | exact((D.out.setCell (by simp;omega) _).setCell (by simp;omega) _).setCell (by simp;omega) _
  | exact(((D.out.setCell (by simp;omega) _).setCell (by simp;omega) _).setCell (by simp;omega) _).drew
theorem zoM(a:Option Addr)(c:Nat)(S:List Nd)(P u E:Int)(cl:Bool)(w:World)(hN:S.length<=24)(hC:zeu a c S)(hS:zae w a S)(hE:zar S [(P,u)]=0)(k1:Nat)(a9:k1<S.length)(T:(nd S k1).h=P)(a8:E=6) :
  Calls Tryz.prog 45 #[.agg #[.slice a S.length c],.agg #[.int .i64 P,.int .i64 u],.bool cl] w fun e w' => e=.returned (.tuple #[.agg #[.slice none 0 0],.agg #[.int .i64 0,.int .i64 0],.int .i64 E])/\Below w.heap.size w w' := by
 subst a8;have df:=fun(W:World) (ha:Option Addr) (hW:zae W a S) (hH:zam W ha [(P,u)])=>zbd a c S ha 1 [(P,u)] W (by omega) hC hW (by simp) hH;rw[hE] at df;have DF:Hid _:=df;have HS:Hid (zae w a S):=hS;have DB:Hid _:=zev;clear hS hC df hE;obtain⟨n,hn⟩:∃ n,S.length=n:=⟨_,rfl⟩;have HN:Hid (S.length=n):=hn;have a6:Hid ((nd S k1).h=P):=T;rw[hn] at hN a9 DF |-;clear hn T
 go_enter Tryz.func45,Tryz.ntmps45
 go_wp2_with fail
 refine yf (DF.out _ _ (HS.out.below ((zaq _ _ _ _ _).alloc (by simp;omega) _)) (zaV _ _ _ _ (by go_simp) (by go_simp))) ?_;rintro e w1 ⟨rfl,M⟩;have A:Below (w.heap.size+1+1+1+1) ((((w.alloc (.cells #[.slice a n c] 24)).alloc (.cells #[.int .i64 P,.int .i64 u] 39)).alloc (.cells #[.slice none 0 0] 24)).alloc (.cells #[.int .i64 0,.int .i64 0] 39)) w1:=(by have h:=((yj (w.heap.size+1+1+1+1) ((((w.alloc (.cells #[.slice a n c] 24)).alloc (.cells #[.int .i64 P,.int .i64 u] 39)).alloc (.cells #[.slice none 0 0] 24)).alloc (.cells #[.int .i64 0,.int .i64 0] 39))).alloc (by simp) _).trans (M.mono (by simp));exact h);obtain⟨⟨l0,l1,l2,l3,l4,l5⟩,⟨z0,z2,z3⟩,U,a7⟩:=zcs A;have D:Hid _:=A;clear M A a7
 go_wp2_with fail
 go_loopg [30] n (fun gg s30 wr=>∃ q:Nat,q<=n/\n-q<=gg/\s30=.int .i64 q/\Hid (Below (w.heap.size+1+1+1+1) ((((w.alloc (.cells #[.slice a n c] 24)).alloc (.cells #[.int .i64 P,.int .i64 u] 39)).alloc (.cells #[.slice none 0 0] 24)).alloc (.cells #[.int .i64 0,.int .i64 0] 39)) wr)/\Hid (∀ i,i<q->(nd S i).h≠P))
 case atStart=>exact⟨0,by omega,by omega,rfl,D,(show Hid _ from fun i hi=>absurd hi (yr _))⟩
 case round =>
  clear l0 l1 l2 l3 l4 l5 z0 z2 z3 D U DF;obtain⟨q,hq,b8,rfl,HB,V⟩:=hrel;obtain⟨⟨l0,l1,l2,l3,l4,l5⟩,⟨z0,z2,z3⟩,U,J⟩:=zcs HB.out;have a5:Hid _:=J;clear J;have d6:w.heap.size<wr.heap.size:=by omega
  have d7:w.heap.size+1<wr.heap.size:=by omega
  have d8:w.heap.size+1+1<wr.heap.size:=by omega
  have d9:w.heap.size+1+1+1<wr.heap.size:=by omega
  by_cases b4:q<n
  ·have b6:(q:Int)<(n:Int):=by omega
   obtain⟨nb,no,rfl,c0,c1,c2,c3,c4,⟨ka,kc,c5,_⟩,Z,c7⟩:=(HS.out.below a5.out) q (by rw[HN.out];exact b4);have c9:=ye _ _ c0;by_cases hh:(nd S q).h=P
   ·clear V;generalize (nd S q).ks.length=L at *;obtain⟨x,hx⟩:∃ x,nd S q=x:=⟨_,rfl⟩;rw[hx] at c0 c1 c2 c3 c4 Z c7 hh;clear hx;obtain⟨xu,xn,xt,xm,xp,b5,xh,xc⟩:=x;dsimp only at c0 c1 c2 c3 c4 Z c7 hh;subst hh
    go_wp2_with fail
    refine yf (DB.out _ _) ?_;rintro e wb ⟨rfl,O⟩;have a4:Hid (Below (w.heap.size+1+1+1+1) ((((w.alloc (.cells #[.slice (some ⟨nb,no,none⟩) n c] 24)).alloc (.cells #[.int .i64 xh,.int .i64 u] 39)).alloc (.cells #[.slice none 0 0] 24)).alloc (.cells #[.int .i64 0,.int .i64 0] 39)) wb):=(HB.out.alloc (by omega) _).trans (O.mono (by simp;omega));clear O;obtain⟨⟨m0,m1,m2,m3,m4,m5⟩,⟨y0,y2,y3⟩,b7,I⟩:=zcs a4.out;have q2:w.heap.size+1+1<wb.heap.size:=by omega
    have q3:w.heap.size+1+1+1<wb.heap.size:=by omega
    have F:Hid _:=I;clear I
    go_wp2_with fail
    refine yq (v:=.tuple #[.agg #[.slice none 0 0],.agg #[.int .i64 0,.int .i64 0],.int .i64 6]) (by simp only[results,Tryz.results45];go_simp) rfl ⟨rfl,?_⟩
    first
     | exact((F.out.setCell (by simp;omega) _).setCell (by simp;omega) _).setCell (by simp;omega) _
     | exact(((F.out.setCell (by simp;omega) _).setCell (by simp;omega) _).setCell (by simp;omega) _).drew
   ·have A2:Hid (∀ i,i<q+1->(nd S i).h≠P):=fun i hi=>by
     by_cases e:i=q
     ·rw[e];exact hh
     ·exact V.out i (by omega)
    clear V;generalize (nd S q).ks.length=L at *;obtain⟨x,hx⟩:∃ x,nd S q=x:=⟨_,rfl⟩;rw[hx] at c0 c1 c2 c3 c4 Z c7 hh;clear hx;obtain⟨xu,xn,xt,xm,xp,b5,xh,xc⟩:=x;dsimp only at c0 c1 c2 c3 c4 Z c7 hh;have b9:(xh == P)=false:=beq_eq_false_iff_ne.2 hh;have c8:decide (xh=P)=false:=decide_eq_false hh
    go_wp2_with fail
    go_roundg (n-(q+1))
    case measure=>omega
    case rel =>
     exact⟨q+1,by omega,by omega,by go_num,HB.out.alloc (by omega) _,A2⟩
  ·exact absurd a6.out (V.out k1 (by omega))
theorem zoN(a:Option Addr)(c:Nat)(S:List Nd)(P u E:Int)(cl:Bool)(w:World)(hN:S.length<=24)(hC:zeu a c S)(hS:zae w a S)(hE:zar S [(P,u)]=0)(a8:∀ i,i<S.length->(nd S i).h≠P)(hM:∀ W,zae W a S->Calls Tryz.prog 38 #[.agg #[.slice a S.length c],.int .i64 0] W fun e w' => e=.returned (.tuple #[.agg #[.slice none 0 0],.agg #[.int .i64 0,.int .i64 0],.int .i64 E])/\Below W.heap.size W w')(a4:E≠0) :
  Calls Tryz.prog 45 #[.agg #[.slice a S.length c],.agg #[.int .i64 P,.int .i64 u],.bool cl] w fun e w' => e=.returned (.tuple #[.agg #[.slice none 0 0],.agg #[.int .i64 0,.int .i64 0],.int .i64 E])/\Below w.heap.size w w' := by
 have df:=fun(W:World) (ha:Option Addr) (hW:zae W a S) (hH:zam W ha [(P,u)])=>zbd a c S ha 1 [(P,u)] W (by omega) hC hW (by simp) hH;rw[hE] at df;have DF:Hid _:=df;have HS:Hid (zae w a S):=hS;have DB:Hid _:=zev;have DM:Hid _:=hM;clear hS hC df hE;obtain⟨n,hn⟩:∃ n,S.length=n:=⟨_,rfl⟩;have HN:Hid (S.length=n):=hn;have I:Hid _:=a8;have ez:(E == 0)=false:=by simp[a4]
 have d8:decide (E=0)=false:=decide_eq_false a4;clear hM a8;rw[hn] at hN DF DM I |-;clear hn
 go_enter Tryz.func45,Tryz.ntmps45
 go_wp2_with fail
 refine yf (DF.out _ _ (HS.out.below ((zaq _ _ _ _ _).alloc (by simp;omega) _)) (zaV _ _ _ _ (by go_simp) (by go_simp))) ?_;rintro e w1 ⟨rfl,a5⟩;have J:Below (w.heap.size+1+1+1+1) ((((w.alloc (.cells #[.slice a n c] 24)).alloc (.cells #[.int .i64 P,.int .i64 u] 39)).alloc (.cells #[.slice none 0 0] 24)).alloc (.cells #[.int .i64 0,.int .i64 0] 39)) w1:=(by have h:=((yj (w.heap.size+1+1+1+1) ((((w.alloc (.cells #[.slice a n c] 24)).alloc (.cells #[.int .i64 P,.int .i64 u] 39)).alloc (.cells #[.slice none 0 0] 24)).alloc (.cells #[.int .i64 0,.int .i64 0] 39))).alloc (by simp) _).trans (a5.mono (by simp));exact h);obtain⟨⟨l0,l1,l2,l3,l4,l5⟩,⟨z0,z2,z3⟩,b4,b9⟩:=zcs J;have O:Hid _:=J;clear a5 J b9
 go_wp2_with fail
 go_loopg [30] n (fun gg s30 wr=>∃ q:Nat,q<=n/\n-q<=gg/\s30=.int .i64 q/\Hid (Below (w.heap.size+1+1+1+1) ((((w.alloc (.cells #[.slice a n c] 24)).alloc (.cells #[.int .i64 P,.int .i64 u] 39)).alloc (.cells #[.slice none 0 0] 24)).alloc (.cells #[.int .i64 0,.int .i64 0] 39)) wr)/\Hid (∀ i,i<q->(nd S i).h≠P))
 case atStart=>exact⟨0,by omega,by omega,rfl,O,(show Hid _ from fun i hi=>absurd hi (yr _))⟩
 case round =>
  clear l0 l1 l2 l3 l4 l5 z0 z2 z3 O b4 DF;obtain⟨q,hq,d9,rfl,HB,AA⟩:=hrel;obtain⟨⟨l0,l1,l2,l3,l4,l5⟩,⟨z0,z2,z3⟩,b4,Z⟩:=zcs HB.out;have U:Hid _:=Z;clear Z;have b5:w.heap.size<wr.heap.size:=by omega
  have c9:w.heap.size+1<wr.heap.size:=by omega
  have b6:w.heap.size+1+1<wr.heap.size:=by omega
  have b7:w.heap.size+1+1+1<wr.heap.size:=by omega
  by_cases a9:q<n
  ·have d6:(q:Int)<(n:Int):=by omega
   obtain⟨nb,no,rfl,c0,c1,c2,c3,c4,⟨ka,kc,c5,_⟩,c6,c7⟩:=(HS.out.below U.out) q (by rw[HN.out];exact a9);have e7:=ye _ _ c0;have hh:=I.out q a9;have A2:Hid (∀ i,i<q+1->(nd S i).h≠P):=fun i hi=>I.out i (by omega);clear AA;generalize (nd S q).ks.length=L at *;obtain⟨x,hx⟩:∃ x,nd S q=x:=⟨_,rfl⟩;rw[hx] at c0 c1 c2 c3 c4 c6 c7 hh;clear hx;obtain⟨xu,xn,xt,xm,xp,e8,xh,xc⟩:=x;dsimp only at c0 c1 c2 c3 c4 c6 c7 hh;have e0:(xh == P)=false:=beq_eq_false_iff_ne.2 hh;have e6:decide (xh=P)=false:=decide_eq_false hh
   go_wp2_with fail
   go_roundg (n-(q+1))
   case measure=>omega
   case rel =>
    exact⟨q+1,by omega,by omega,by go_num,HB.out.alloc (by omega) _,A2⟩
  ·clear AA
   go_wp2_with fail
   refine yf (DM.out _ (HS.out.below U.out)) ?_;rintro e M ⟨rfl,a6⟩;have b8:Hid (Below (w.heap.size+1+1+1+1) ((((w.alloc (.cells #[.slice a n c] 24)).alloc (.cells #[.int .i64 P,.int .i64 u] 39)).alloc (.cells #[.slice none 0 0] 24)).alloc (.cells #[.int .i64 0,.int .i64 0] 39)) M):=HB.out.trans (a6.mono (by omega));clear a6 l0 l1 l2 l3 l4 l5 z0 z2 z3 b5 c9 b6 b7;obtain⟨⟨l0,l1,l2,l3,l4,l5⟩,⟨z0,z2,z3⟩,d7,F⟩:=zcs b8.out;have V:Hid _:=F;clear F;have b5:w.heap.size<M.heap.size:=by omega
   have b6:w.heap.size+1+1<M.heap.size:=by omega
   have b7:w.heap.size+1+1+1<M.heap.size:=by omega
   go_wp2_with fail
   refine yf (DB.out _ _) ?_;rintro e D ⟨rfl,a7⟩;have A:Below M.heap.size ((M.setCell ⟨w.heap.size,0,none⟩ (.slice none 0 0)).alloc (.cells #[.int .i64 0,.int .i64 0] 39)) D:=a7.mono (by simp);have c8:=A.size;simp only[yk,World.size_setCell] at c8;have m3:D.cell? ⟨w.heap.size+1+1,0,none⟩=some (.slice none 0 0):=(A.cell (by show w.heap.size+1+1 < _;omega)).trans (by go_simp);have m4:D.cell? ⟨w.heap.size+1+1+1,0,none⟩=some (.int .i64 0):=(A.cell (by show w.heap.size+1+1+1 < _;omega)).trans (by go_simp);have m5:D.cell? ⟨w.heap.size+1+1+1,1,none⟩=some (.int .i64 0):=(A.cell (by show w.heap.size+1+1+1 < _;omega)).trans (by go_simp);have y2:∀ o,D.frozen? ⟨w.heap.size+1+1,o,none⟩=false:=fun o=>(A.frozen (by show w.heap.size+1+1 < _;omega)).trans (by go_simp);have y3:∀ o,D.frozen? ⟨w.heap.size+1+1+1,o,none⟩=false:=fun o=>(A.frozen (by show w.heap.size+1+1+1 < _;omega)).trans (by go_simp);have T:Hid (Below w.heap.size w D):=((V.out.setCell (by simp) _).alloc (by simp;omega) _).trans (A.mono (by omega));have q2:w.heap.size+1+1<D.heap.size:=by omega
   have q3:w.heap.size+1+1+1<D.heap.size:=by omega
   clear a7 A l0 l1 l2 l3 l4 l5 z0 z2 z3
   go_wp2_with fail
   refine yq (v:=.tuple #[.agg #[.slice none 0 0],.agg #[.int .i64 0,.int .i64 0],.int .i64 E]) (by simp only[results,Tryz.results45];go_simp) rfl ⟨rfl,?_⟩
   first
    | exact((T.out.setCell (by simp;omega) _).setCell (by simp;omega) _).setCell (by simp;omega) _
    | exact(((T.out.setCell (by simp;omega) _).setCell (by simp;omega) _).setCell (by simp;omega) _).drew
theorem zrR(a:Option Addr)(c:Nat)(S:List Nd)(k:Nat)(P u:Int)(cl:Bool)(w:World)(hP:P=(k:Int))(hN:S.length<=24)(hC:zeu a c S)(hS:zae w a S)(hE:zar S [(P,u)]=0)(b9:∀ i,i<S.length->(nd S i).h≠P)(f:Nat)(M:f<S.length)(hM:∀ W,zae W a S->Calls Tryz.prog 38 #[.agg #[.slice a S.length c],.int .i64 0] W fun e w' => ∃ g cap K,e=.returned (.tuple #[.agg #[.slice (some ⟨g,0,none⟩) S.length cap],.agg #[.int .i64 (f:Int),.int .i64 ((nd S f).n+1)],.int .i64 0])/\Below W.heap.size W w' /\ zca (W.heap.size+3) (S.set f (zbq (nd S f) 0)) S.length K (.slice (some ⟨g,0,none⟩) S.length cap) w') :
  Calls Tryz.prog 45 #[.agg #[.slice a S.length c],.agg #[.int .i64 P,.int .i64 u],.bool cl] w fun e w' => ∃ a' c', e=.returned (.tuple #[.agg #[.slice a' S.length c'],.agg #[.int .i64 (f:Int),.int .i64 ((nd S f).n+1)],.int .i64 0])/\Below w.heap.size w w' /\ ∀ w3:World,(∀ b,w.heap.size<=b->w3.heap[b]?=w'.heap[b]?)->zae w3 a' (S.set f (zbI (nd S f) k cl)):=by
 have df:=fun(W:World) (ha:Option Addr) (hW:zae W a S) (hH:zam W ha [(P,u)])=>zbd a c S ha 1 [(P,u)] W (by omega) hC hW (by simp) hH;rw[hE] at df;have DF:Hid _:=df;have HS:Hid (zae w a S):=hS;have DB:Hid _:=zev;have DM:Hid _:=hM;clear hS hC df hE;obtain⟨n,hn⟩:∃ n,S.length=n:=⟨_,rfl⟩;have HN:Hid (S.length=n):=hn;have U:Hid _:=b9
 have J:Hid (∀ B K g cap W,zca B (S.set f (zbq (nd S f) 0)) S.length K (.slice (some ⟨g,0,none⟩) S.length cap) W->zca B (S.set f (zbI (nd S f) k cl)) S.length K (.slice (some ⟨g,0,none⟩) S.length cap) ((W.setCell ⟨g,f*8+6,none⟩ (.int .i64 P)).setCell ⟨g,f*8+7,none⟩ (.bool cl))):=fun B K g cap W h=>by
  have p1:=h.put1 (k:=f) (j:=6) (u:=.int .i64 P) M (by rw[List.length_set]) (by omega) { zbq (nd S f) 0 with h:=P } (fun v j' a4=>by
   rw[zay S f f _ M,yd rfl]
   match j', a4 with
   | 0,_|1,_|2,_|3,_|4,_|5,_|6,_|7,_=>rfl) (by rw[zay S f f _ M,yd rfl])
  have p2:=p1.put1 (k:=f) (j:=7) (u:=.bool cl) M (by rw[List.length_set,List.length_set]) (by omega) { zbq (nd S f) 0 with h:=P,c:=cl } (fun v j' a4=>by
   rw[zay _ f f _ (by rw[List.length_set];exact M),yd rfl]
   match j', a4 with
   | 0,_|1,_|2,_|3,_|4,_|5,_|6,_|7,_=>rfl) (by rw[zay _ f f _ (by rw[List.length_set];exact M),yd rfl])
  rw[List.set_set,List.set_set] at p2;rw[hP] at p2 |-;exact p2
 clear hM b9 hP;obtain⟨S1,b5⟩:∃ S1,S.set f (zbq (nd S f) 0)=S1:=⟨_,rfl⟩;obtain⟨S2,V⟩:∃ S2,S.set f (zbI (nd S f) k cl)=S2:=⟨_,rfl⟩;have f0:Hid (S2.length=n):=(by rw[<- V,List.length_set,hn]:S2.length=n);rw[b5] at DM J;rw[V] at J |-;clear b5 V;generalize (nd S f).n=nf at *;rw[hn] at hN M DF DM U J |-;clear hn
 go_enter Tryz.func45,Tryz.ntmps45
 go_wp2_with fail
 refine yf (DF.out _ _ (HS.out.below ((zaq _ _ _ _ _).alloc (by simp;omega) _)) (zaV _ _ _ _ (by go_simp) (by go_simp))) ?_;rintro e w1 ⟨rfl,b6⟩;have Z:Below (w.heap.size+1+1+1+1) ((((w.alloc (.cells #[.slice a n c] 24)).alloc (.cells #[.int .i64 P,.int .i64 u] 39)).alloc (.cells #[.slice none 0 0] 24)).alloc (.cells #[.int .i64 0,.int .i64 0] 39)) w1:=(by have h:=((yj (w.heap.size+1+1+1+1) ((((w.alloc (.cells #[.slice a n c] 24)).alloc (.cells #[.int .i64 P,.int .i64 u] 39)).alloc (.cells #[.slice none 0 0] 24)).alloc (.cells #[.int .i64 0,.int .i64 0] 39))).alloc (by simp) _).trans (b6.mono (by simp));exact h);obtain⟨⟨l0,l1,l2,l3,l4,l5⟩,⟨z0,z2,z3⟩,d8,f7⟩:=zcs Z;have a5:Hid _:=Z;clear b6 Z f7
 go_wp2_with fail
 go_loopg [30] n (fun gg s30 wr=>∃ q:Nat,q<=n/\n-q<=gg/\s30=.int .i64 q/\Hid (Below (w.heap.size+1+1+1+1) ((((w.alloc (.cells #[.slice a n c] 24)).alloc (.cells #[.int .i64 P,.int .i64 u] 39)).alloc (.cells #[.slice none 0 0] 24)).alloc (.cells #[.int .i64 0,.int .i64 0] 39)) wr)/\Hid (∀ i,i<q->(nd S i).h≠P))
 case atStart=>exact⟨0,by omega,by omega,rfl,a5,(show Hid _ from fun i hi=>absurd hi (yr _))⟩
 case round =>
  clear l0 l1 l2 l3 l4 l5 z0 z2 z3 a5 d8 DF;obtain⟨q,hq,g6,rfl,HB,AA⟩:=hrel;obtain⟨⟨l0,l1,l2,l3,l4,l5⟩,⟨z0,z2,z3⟩,d8,b4⟩:=zcs HB.out;have a8:Hid _:=b4;clear b4;have d9:w.heap.size<wr.heap.size:=by omega
  have e0:w.heap.size+1<wr.heap.size:=by omega
  have e8:w.heap.size+1+1<wr.heap.size:=by omega
  have e9:w.heap.size+1+1+1<wr.heap.size:=by omega
  by_cases c9:q<n
  ·have g1:(q:Int)<(n:Int):=by omega
   obtain⟨nb,no,rfl,c0,c1,c2,c3,c4,⟨ka,kc,c5,_⟩,c6,c7⟩:=(HS.out.below a8.out) q (by rw[HN.out];exact c9);have h5:=ye _ _ c0;have hh:=U.out q c9;have A2:Hid (∀ i,i<q+1->(nd S i).h≠P):=fun i hi=>U.out i (by omega);clear AA;generalize (nd S q).ks.length=L at *;obtain⟨x,hx⟩:∃ x,nd S q=x:=⟨_,rfl⟩;rw[hx] at c0 c1 c2 c3 c4 c6 c7 hh;clear hx;obtain⟨xu,xn,xt,xm,xp,i1,xh,xc⟩:=x;dsimp only at c0 c1 c2 c3 c4 c6 c7 hh;have g9:(xh == P)=false:=beq_eq_false_iff_ne.2 hh;have h2:decide (xh=P)=false:=decide_eq_false hh
   go_wp2_with fail
   go_roundg (n-(q+1))
   case measure=>omega
   case rel =>
    exact⟨q+1,by omega,by omega,by go_num,HB.out.alloc (by omega) _,A2⟩
  ·clear AA
   go_wp2_with fail
   refine yf (DM.out _ (HS.out.below a8.out)) ?_;rintro e F ⟨g,cap,K,rfl,b7,I⟩;have a6:Hid (Below (w.heap.size+1+1+1+1) ((((w.alloc (.cells #[.slice a n c] 24)).alloc (.cells #[.int .i64 P,.int .i64 u] 39)).alloc (.cells #[.slice none 0 0] 24)).alloc (.cells #[.int .i64 0,.int .i64 0] 39)) F):=HB.out.trans (b7.mono (by omega));have b8:=I.1.lt g rfl
   have g0:n<=cap/\cap<=9223372036854775807:=by
    rcases I.1.2 with ⟨h,_⟩ |⟨g', f9,g3,h,_,_,h3,h4,_⟩
    ·cases h
    ·cases h;exact⟨h3,by unfold maxLen at h4;omega⟩
   have d6:=I.cellAt (i:=f) (j:=6) M (by omega);have d7:=I.cellAt (i:=f) (j:=7) M (by omega);have e6:∃ v6,F.cell? ⟨g,f*8+6,none⟩=some v6:=⟨_,d6⟩;have e7:∃ v7,F.cell? ⟨g,f*8+7,none⟩=some v7:=⟨_,d7⟩;obtain⟨v6,e6⟩:=e6;obtain⟨v7,e7⟩:=e7;have fz:∀ o,F.frozen? ⟨g,o,none⟩=false:=fun o=>I.frozenAt o;have a9:Hid (zca (wr.heap.size+3) S1 n K (.slice (some ⟨g,0,none⟩) n cap) F):=I;have g8:w.heap.size+4<=g:=by omega
   clear b7 l0 l1 l2 l3 l4 l5 z0 z2 z3 d9 e0 e8 e9 d6 d7 I;obtain⟨⟨l0,l1,l2,l3,l4,l5⟩,⟨z0,z2,z3⟩,g2,T⟩:=zcs a6.out;have O:Hid _:=T;clear T;have d9:w.heap.size<F.heap.size:=by omega
   have e0:w.heap.size+1<F.heap.size:=by omega
   have e8:w.heap.size+1+1<F.heap.size:=by omega
   have e9:w.heap.size+1+1+1<F.heap.size:=by omega
   have g7:g<F.heap.size:=b8.2;have n0:¬ g=w.heap.size:=by omega
   have h7:¬ w.heap.size=g:=by omega
   have n1:¬ g=w.heap.size+1:=by omega
   have h8:¬ w.heap.size+1=g:=by omega
   have n2:¬ g=w.heap.size+1+1:=by omega
   have h9:¬ w.heap.size+1+1=g:=by omega
   have n3:¬ g=w.heap.size+1+1+1:=by omega
   have i0:¬ w.heap.size+1+1+1=g:=by omega
   have g4:(f:Int)<(n:Int):=by omega
   have g5:decide ((f:Int)<0)=false:=decide_eq_false (by omega);clear b8
   go_wp2_with fail
   obtain⟨D,A⟩:∃ D,D=(((F.setCell ⟨w.heap.size,0,none⟩ (.slice (some ⟨g,0,none⟩) n cap)).setCell ⟨g,f*8+6,none⟩ (.int .i64 P)).setCell ⟨g,f*8+7,none⟩ (.bool cl)).alloc (.cells #[.int .i64 (f:Int),.int .i64 (nf+1)] 39):=⟨_,rfl⟩;rw[<- A]
   have f6:Hid (zca (wr.heap.size+3) S2 n K (.slice (some ⟨g,0,none⟩) n cap) D):=by
    rw[A];exact(J.out _ _ _ _ _ (a9.out.other (fun b hb _=>yo _ _ _ _ (by show b≠w.heap.size;omega)))).other (fun b _ c8=>((yj _ _).alloc (yi _) _).block b c8)
   have h6:D.heap.size=F.heap.size+1:=by rw[A];simp
   have a7:Hid (Below w.heap.size w D):=by
    rw[A];exact(((O.out.setCell (by simp) _).setCell (by simp;omega) _).setCell (by simp;omega) _).alloc (by simp;omega) _
   have x0:D.cell? ⟨w.heap.size,0,none⟩=some (.slice (some ⟨g,0,none⟩) n cap):=by rw[A];go_simp
   have x1:D.cell? ⟨F.heap.size,0,none⟩=some (.int .i64 (f:Int)):=by rw[A];go_simp
   have x2:D.cell? ⟨F.heap.size,1,none⟩=some (.int .i64 (nf+1)):=by rw[A];go_simp
   have x3:D.cell? ⟨w.heap.size+1+1,0,none⟩=some (.slice none 0 0):=by rw[A];go_simp
   have x4:D.cell? ⟨w.heap.size+1+1+1,0,none⟩=some (.int .i64 0):=by rw[A];go_simp
   have x5:D.cell? ⟨w.heap.size+1+1+1,1,none⟩=some (.int .i64 0):=by rw[A];go_simp
   have x6:∀ o,D.frozen? ⟨w.heap.size+1+1,o,none⟩=false:=fun o=>by rw[A];go_simp
   have x7:∀ o,D.frozen? ⟨w.heap.size+1+1+1,o,none⟩=false:=fun o=>by rw[A];go_simp
   have t0:w.heap.size<D.heap.size:=by omega
   have t1:F.heap.size<D.heap.size:=by omega
   have t2:w.heap.size+1+1<D.heap.size:=by omega
   have t3:w.heap.size+1+1+1<D.heap.size:=by omega
   have t5:¬ F.heap.size=w.heap.size+1+1:=by omega
   have t6:¬ F.heap.size=w.heap.size+1+1+1:=by omega
   clear A l0 l1 l2 l3 l4 l5 z0 z2 z3 e6 e7 fz a9 a6 O J
   go_region
   all_goals (try go_wp2)
   all_goals
    refine yq (v:=.tuple #[.agg #[.slice (some ⟨g,0,none⟩) n cap],.agg #[.int .i64 (f:Int),.int .i64 (nf+1)],.int .i64 0]) (by simp[results,Tryz.results45,go_sem,x3,x4,x5]) rfl ⟨some ⟨g,0,none⟩,cap,rfl,?_,?_⟩
    ·first
      | exact(((a7.out.setCell (by simp;omega) _).setCell (by simp;omega) _).setCell (by simp;omega) _).drew
      | exact((a7.out.setCell (by simp;omega) _).setCell (by simp;omega) _).setCell (by simp;omega) _
    ·intro w3 f8;refine(f6.out.other (fun b hb c8=>(f8 b (by omega)).trans ?_)).ndsAt f0.out
     first
      | rw[heap_drew,yo _ _ _ _ (by show b≠w.heap.size+1+1+1;omega),yo _ _ _ _ (by show b≠w.heap.size+1+1+1;omega),yo _ _ _ _ (by show b≠w.heap.size+1+1;omega)]
      | rw[yo _ _ _ _ (by show b≠w.heap.size+1+1+1;omega),yo _ _ _ _ (by show b≠w.heap.size+1+1+1;omega),yo _ _ _ _ (by show b≠w.heap.size+1+1;omega)]
end Go.Proofs.YtgjfmepbphfjoaaGreat
