/-
  x
-/
import Derived.Test.YtgjfmepbphfjoaaGreatQ21
namespace Go.Proofs.YtgjfmepbphfjoaaGreat
set_option maxRecDepth 100000
set_option maxHeartbeats 4000000
set_option linter.unusedVariables false
open Go.RowKit
def zgp(S:List Nd)(k:Nat)(i:Nat):Bool:=(decide (i=k) && decide (zah (nd S i)≠-1)) || decide (zah (nd S i)=(k:Int))
theorem zeb{W w:World}{b:Nat}{a0 a1 a2 a3 D F I J:Value}(A:Below W.heap.size W w)
  (h0:W.cell? ⟨b,0,none⟩=some a0) (h1:W.cell? ⟨b,1,none⟩=some a1) (M:W.cell? ⟨b,2,none⟩=some a2) (O:W.cell? ⟨b,3,none⟩=some a3) (T:W.cell? ⟨b,4,none⟩=some D) (U:W.cell? ⟨b,5,none⟩=some F) (V:W.cell? ⟨b,6,none⟩=some I) (Z:W.cell? ⟨b,7,none⟩=some J) :
  w.cell? ⟨b,0,none⟩=some a0/\w.cell? ⟨b,1,none⟩=some a1/\w.cell? ⟨b,2,none⟩=some a2/\w.cell? ⟨b,3,none⟩=some a3/\w.cell? ⟨b,4,none⟩=some D/\w.cell? ⟨b,5,none⟩=some F/\w.cell? ⟨b,6,none⟩=some I/\w.cell? ⟨b,7,none⟩=some J:=by
 have hl:=ye _ _ h0;exact⟨(A.cell (by exact hl)).trans h0,(A.cell (by exact hl)).trans h1,(A.cell (by exact hl)).trans M,(A.cell (by exact hl)).trans O,(A.cell (by exact hl)).trans T,(A.cell (by exact hl)).trans U,(A.cell (by exact hl)).trans V,(A.cell (by exact hl)).trans Z⟩
theorem zei{w A:World}{a:Option Addr}{n c:Nat}{p u:Int}{F:Obj}(D:Below (w.heap.size+1+1+1+1) ((((w.alloc (.cells #[.slice a n c] 24)).alloc (.cells #[.int .i64 p,.int .i64 u] 39)).alloc (.cells #[.slice none 0 0] 24)).alloc F) A) :
  A.cell? ⟨w.heap.size,0,none⟩=some (.slice a n c)/\A.cell? ⟨w.heap.size+1,0,none⟩=some (.int .i64 p)/\A.cell? ⟨w.heap.size+1,1,none⟩=some (.int .i64 u)/\A.cell? ⟨w.heap.size+1+1,0,none⟩=some (.slice none 0 0)/\A.frozen? ⟨w.heap.size,0,none⟩=false/\A.frozen? ⟨w.heap.size+1+1,0,none⟩=false/\w.heap.size+4<=A.heap.size/\Below w.heap.size w A:=by
 have hs:=D.size;simp only[yk] at hs;exact⟨(D.cell (by simp;omega)).trans (by go_simp),(D.cell (by simp;try omega)).trans (by go_simp),(D.cell (by simp;try omega)).trans (by go_simp),(D.cell (by simp;try omega)).trans (by go_simp),(D.frozen (by simp;try omega)).trans (by go_simp),(D.frozen (by simp;try omega)).trans (by go_simp),by omega,((zal _ _ _ _).alloc (by simp;omega) _).trans (D.mono (by omega))⟩
theorem zht{w wr w2:World}{a:Option Addr}{c n:Nat}{S:List Nd}{K:Nat->Value}{v:Value}{p u:Int}(h0:0<n)(Z:w.heap.size+4<=wr.heap.size)(J:Below w.heap.size w wr)
  (l0:wr.cell? ⟨w.heap.size,0,none⟩=some (.slice a n c)) (l1:wr.cell? ⟨w.heap.size+1,0,none⟩=some (.int .i64 p)) (l2:wr.cell? ⟨w.heap.size+1,1,none⟩=some (.int .i64 u)) (l3:wr.cell? ⟨w.heap.size+1+1,0,none⟩=some (.slice none 0 0))
  (z0:wr.frozen? ⟨w.heap.size,0,none⟩=false) (z1:wr.frozen? ⟨w.heap.size+1+1,0,none⟩=false) (A:Below wr.heap.size wr w2) (D:zca wr.heap.size S n K v w2) :
  ∃ g cap,v=.slice (some ⟨g,0,none⟩) n cap/\w.heap.size+4<=g/\g<w2.heap.size/\n<=cap/\cap<=9223372036854775807/\zca (w.heap.size+4) S n K (.slice (some ⟨g,0,none⟩) n cap) (w2.setCell ⟨w.heap.size,0,none⟩ (.slice (some ⟨g,0,none⟩) n cap)) /\
  Below w.heap.size w (w2.setCell ⟨w.heap.size,0,none⟩ (.slice (some ⟨g,0,none⟩) n cap))/\(w2.cell? ⟨w.heap.size,0,none⟩=some (.slice a n c)/\w2.frozen? ⟨w.heap.size,0,none⟩=false) /\
  w2.cell? ⟨w.heap.size+1,0,none⟩=some (.int .i64 p)/\w2.cell? ⟨w.heap.size+1,1,none⟩=some (.int .i64 u)/\w2.cell? ⟨w.heap.size+1+1,0,none⟩=some (.slice none 0 0)/\w2.frozen? ⟨w.heap.size+1+1,0,none⟩=false:=by
 have M:=D.1
 obtain⟨g,cap,rfl,h1,T,F,I⟩:∃ g cap,v=.slice (some ⟨g,0,none⟩) n cap/\wr.heap.size<=g/\g<w2.heap.size/\n<=cap/\cap<=9223372036854775807:=by
  have hl:=M.lt;rcases M.2 with ⟨_,h⟩ |⟨g,cap,O,h,h1,_,F,I,_⟩
  ·omega
  ·subst h;exact⟨g,cap,rfl,h1,(hl g rfl).2,F,by unfold maxLen at I;omega⟩
 refine⟨g,cap,rfl,by omega,T,F,I,?_,?_,⟨(A.cell (by show w.heap.size < _;omega)).trans l0,(A.frozen (by show w.heap.size < _;omega)).trans z0⟩,(A.cell (by show w.heap.size+1 < _;omega)).trans l1,(A.cell (by show w.heap.size+1 < _;omega)).trans l2,(A.cell (by show w.heap.size+1+1 < _;omega)).trans l3,(A.frozen (by show w.heap.size+1+1 < _;omega)).trans z1⟩
 ·have V:zca (w.heap.size+4) S n K (.slice (some ⟨g,0,none⟩) n cap) w2:=⟨zau D.1 (by omega),fun i U=>zau (D.2 i U) (by omega)⟩;exact V.other (fun b hb _=>yo _ _ _ _ (by simp;omega))
 ·exact(J.trans (A.mono J.size)).setCell (by simp) _
theorem zca.putN{B:Nat}{S:List Nd}{q:Nat}{K:Nat->Value}{g cap:Nat}{w:World}(h:zca B S q K (.slice (some ⟨g,0,none⟩) q cap) w){k:Nat}(F:k<q)(hq:S.length=q)(y:Nd)(hy:y.ks=[]) :
  zca B (S.set k y) q (fun i=>if i=k then .slice none 0 0 else K i) (.slice (some ⟨g,0,none⟩) q cap) ((((((((w.setCell ⟨g,k*8,none⟩ (.bool y.u)).setCell ⟨g,k*8+1,none⟩ (.int .i64 y.n)).setCell ⟨g,k*8+2,none⟩ (.int .i64 y.t)).setCell ⟨g,k*8+3,none⟩ (.int .i64 y.m)).setCell ⟨g,k*8+4,none⟩ (.int .i64 y.p)).setCell ⟨g,k*8+5,none⟩ (.slice none 0 0)).setCell ⟨g,k*8+6,none⟩ (.int .i64 y.h)).setCell ⟨g,k*8+7,none⟩ (.bool y.c)):=by
 have O:=h.put1 (k:=k) (j:=0) (u:=.bool y.u) F hq (by omega) ⟨y.u,(nd S k).n,(nd S k).t,(nd S k).m,(nd S k).p,(nd S k).ks,(nd S k).h,(nd S k).c⟩ (fun v D A=>by
  skip
  match D,A with
  | 0,_|1,_|2,_|3,_|4,_|5,_|6,_|7,_=>rfl) (by rfl)
 have T:=O.put1 (k:=k) (j:=1) (u:=.int .i64 y.n) F (by simp only[List.length_set];exact hq) (by omega) ⟨y.u,y.n,(nd S k).t,(nd S k).m,(nd S k).p,(nd S k).ks,(nd S k).h,(nd S k).c⟩ (fun v D A=>by
  rw[zay _ k k _ (by first|omega|(simp only[List.length_set];omega)),yd rfl];
  match D,A with
  | 0,_|1,_|2,_|3,_|4,_|5,_|6,_|7,_=>rfl) (by rw[zay _ k k _ (by first|omega|(simp only[List.length_set];omega)),yd rfl])
 have U:=T.put1 (k:=k) (j:=2) (u:=.int .i64 y.t) F (by simp only[List.length_set];exact hq) (by omega) ⟨y.u,y.n,y.t,(nd S k).m,(nd S k).p,(nd S k).ks,(nd S k).h,(nd S k).c⟩ (fun v D A=>by
  rw[zay _ k k _ (by first|omega|(simp only[List.length_set];omega)),yd rfl];
  match D,A with
  | 0,_|1,_|2,_|3,_|4,_|5,_|6,_|7,_=>rfl) (by rw[zay _ k k _ (by first|omega|(simp only[List.length_set];omega)),yd rfl])
 have V:=U.put1 (k:=k) (j:=3) (u:=.int .i64 y.m) F (by simp only[List.length_set];exact hq) (by omega) ⟨y.u,y.n,y.t,y.m,(nd S k).p,(nd S k).ks,(nd S k).h,(nd S k).c⟩ (fun v D A=>by
  rw[zay _ k k _ (by first|omega|(simp only[List.length_set];omega)),yd rfl];
  match D,A with
  | 0,_|1,_|2,_|3,_|4,_|5,_|6,_|7,_=>rfl) (by rw[zay _ k k _ (by first|omega|(simp only[List.length_set];omega)),yd rfl])
 have J:=V.put1 (k:=k) (j:=4) (u:=.int .i64 y.p) F (by simp only[List.length_set];exact hq) (by omega) ⟨y.u,y.n,y.t,y.m,y.p,(nd S k).ks,(nd S k).h,(nd S k).c⟩ (fun v D A=>by
  rw[zay _ k k _ (by first|omega|(simp only[List.length_set];omega)),yd rfl];
  match D,A with
  | 0,_|1,_|2,_|3,_|4,_|5,_|6,_|7,_=>rfl) (by rw[zay _ k k _ (by first|omega|(simp only[List.length_set];omega)),yd rfl])
 rw[List.set_set,List.set_set,List.set_set,List.set_set] at J;have e4:∀ i,i<q->nd (S.set k ⟨y.u,y.n,y.t,y.m,y.p,(nd S k).ks,(nd S k).h,(nd S k).c⟩) i=if i=k then ⟨y.u,y.n,y.t,y.m,y.p,(nd S k).ks,(nd S k).h,(nd S k).c⟩ else nd S i:=fun i I=>zay S k i _ (by omega)
 have Z:=J.put (S' := S.set k ⟨y.u,y.n,y.t,y.m,y.p,y.ks,(nd S k).h,(nd S k).c⟩) (K' := fun i=>if i=k then .slice none 0 0 else K i) (k:=k) (j:=5) (u:=.slice none 0 0) (by omega) (fun i I D A=>by
  rw[e4 i I,zay S k i _ (by omega)];by_cases e:i=k
  ·simp only[e,if_true,true_and]
   match D,A with
   | 0,_|1,_|2,_|3,_|4,_|5,_|6,_|7,_=>rfl
  ·simp only[ya e,ya (fun hh:i=k/\D=5=>e hh.1)]) (fun i I=>by
  rw[zay S k i _ (by omega)];by_cases e:i=k
  ·simp only[e,if_true,hy];exact World.ownsRow_nil _ _ _ _
  ·simp only[ya e];have:=J.2 i I;rw[e4 i I,ya e] at this;exact this)
 have p6:=Z.put1 (k:=k) (j:=6) (u:=.int .i64 y.h) F (by simp only[List.length_set];exact hq) (by omega) ⟨y.u,y.n,y.t,y.m,y.p,y.ks,y.h,(nd S k).c⟩ (fun v D A=>by
  rw[zay _ k k _ (by first|omega|(simp only[List.length_set];omega)),yd rfl]
  match D,A with
  | 0,_|1,_|2,_|3,_|4,_|5,_|6,_|7,_=>rfl) (by rw[zay _ k k _ (by first|omega|(simp only[List.length_set];omega)),yd rfl])
 have M:=p6.put1 (k:=k) (j:=7) (u:=.bool y.c) F (by simp only[List.length_set];exact hq) (by omega) ⟨y.u,y.n,y.t,y.m,y.p,y.ks,y.h,y.c⟩ (fun v D A=>by
  rw[zay _ k k _ (by first|omega|(simp only[List.length_set];omega)),yd rfl]
  match D,A with
  | 0,_|1,_|2,_|3,_|4,_|5,_|6,_|7,_=>rfl) (by rw[zay _ k k _ (by first|omega|(simp only[List.length_set];omega)),yd rfl])
 rw[List.set_set,List.set_set] at M;exact M
theorem zoE{B b o:Nat}{S:List Nd}{q:Nat}{K:Nat->Value}{g cap:Nat}{w2:World}{v:Value}(h:zca B S q K (.slice (some ⟨g,0,none⟩) q cap) (w2.setCell ⟨b,o,none⟩ v))(D:b≠g){k:Nat}(A:k<q) :
  (w2.cell? ⟨g,k*8,none⟩=some (.bool (nd S k).u)/\w2.cell? ⟨g,k*8+1,none⟩=some (.int .i64 (nd S k).n)/\w2.cell? ⟨g,k*8+2,none⟩=some (.int .i64 (nd S k).t)/\w2.cell? ⟨g,k*8+3,none⟩=some (.int .i64 (nd S k).m)/\w2.cell? ⟨g,k*8+4,none⟩=some (.int .i64 (nd S k).p)/\w2.cell? ⟨g,k*8+5,none⟩=some (K k)/\w2.cell? ⟨g,k*8+6,none⟩=some (.int .i64 (nd S k).h)/\w2.cell? ⟨g,k*8+7,none⟩=some (.bool (nd S k).c))/\∀ j,w2.frozen? ⟨g,j,none⟩=false:=by
 have w:∀ j,w2.cell? ⟨g,j,none⟩=(w2.setCell ⟨b,o,none⟩ v).cell? ⟨g,j,none⟩:=fun j=>(yw (yo _ _ _ _ (fun e=>D e.symm))).symm;refine⟨⟨(w _).trans (h.cellAt (i:=k) (j:=0) A (by omega)),(w _).trans (h.cellAt (i:=k) (j:=1) A (by omega)),(w _).trans (h.cellAt (i:=k) (j:=2) A (by omega)),(w _).trans (h.cellAt (i:=k) (j:=3) A (by omega)),(w _).trans (h.cellAt (i:=k) (j:=4) A (by omega)),(w _).trans (h.cellAt (i:=k) (j:=5) A (by omega)),(w _).trans (h.cellAt (i:=k) (j:=6) A (by omega)),(w _).trans (h.cellAt (i:=k) (j:=7) A (by omega))⟩,fun j=>?_⟩;have:=h.frozenAt j;rw[World.frozen?_setCell] at this;exact this
theorem zhw(a:Option Addr)(c:Nat)(S T:List Nd)(k:Nat)(P u E:Int)(w:World)(hP:P=(k:Int))(hC:zeu a c S)(hS:zae w a S)(hN:S.length<=24)(hK:∀ i,i<S.length->(nd S i).ks.length<=1000)(hk:k<S.length)(hF:zar S [(P,u)]=0)
  (e0:(∀ i,i<S.length->zgp S k i=false)->T=S.set k ⟨false,u,0,0,-1,[],-1,false⟩/\E=0) (e6:∀ i,i<S.length->zgp S k i=true->T=[]/\E=6) :
  Calls Tryz.prog 39 #[.agg #[.slice a S.length c],.agg #[.int .i64 P,.int .i64 u]] w fun e w' => ∃ a' c', e=.returned (.tuple #[.agg #[.slice a' T.length c'],.int .i64 E])/\Below w.heap.size w w' /\ zae w' a' T:=by
 have df:=fun(W:World) (ha:Option Addr) (hW:zae W a S) (hH:zam W ha [(P,u)])=>zbd a c S ha 1 [(P,u)] W (by omega) hC hW (by simp) hH;rw[hF] at df;have DF:Hid _:=df;have DO:Hid (∀ W,zae W a S->Calls _ _ _ _ _):=fun W hW=>zeL a c S W (by omega) (fun i hi=>by have:=hK i hi;omega) hW;have HS:Hid (zae w a S):=hS;have HP:Hid (P=(k:Int)):=hP;have Q1:Hid _:=e0;have Q2:Hid _:=e6;clear hS hC df hF e0 e6 hK hP;generalize hn:S.length=n at *;have HN:Hid (S.length=n):=hn;clear hn
 go_enter Tryz.func39,Tryz.ntmps39
 go_wp2_with (go_at_call 83;refine(DF.out _ _ (HS.out.below ((zal _ _ _ _).alloc (by simp;omega) _)) (zaV _ _ _ _ (by go_simp) (by go_simp))).mono ?_;rintro e w1 ⟨rfl,b7⟩;simp only[yk] at b7;obtain⟨l0,l1,l2,l3,z0,z1,a5,d6⟩:=zei b7)
 have b9:Hid _:=d6;clear b7 d6 DF
 go_loopg [20] n (fun gg s20 wr=>∃ q:Nat,q<=n/\n-q<=gg/\s20=.int .i64 q/\w.heap.size+4<=wr.heap.size/\wr.cell? ⟨w.heap.size,0,none⟩=some (.slice a n c)/\wr.cell? ⟨w.heap.size+1,0,none⟩=some (.int .i64 P)/\wr.cell? ⟨w.heap.size+1,1,none⟩=some (.int .i64 u)/\wr.cell? ⟨w.heap.size+1+1,0,none⟩=some (.slice none 0 0)/\wr.frozen? ⟨w.heap.size,0,none⟩=false/\wr.frozen? ⟨w.heap.size+1+1,0,none⟩=false/\Hid (Below w.heap.size w wr)/\Hid (∀ i,i<q->zgp S k i=false))
 case atStart=>exact⟨0,by omega,by omega,rfl,a5,l0,l1,l2,l3,z0,z1,b9,(show Hid _ from fun i hi=>absurd hi (yr _))⟩
 case round =>
  clear b9 a5 l0 l1 l2 l3 z0 z1;obtain⟨q,hq,h3,rfl,a5,l0,l1,l2,l3,z0,z1,HB,A⟩:=hrel;by_cases e7:q<n
  ·have g7:(q:Int)<(n:Int):=by omega
   obtain⟨nb,no,rfl,c0,c1,c2,c3,c4,⟨ka,kc,c5,_⟩,c6,c7⟩:=(HS.out.below HB.out) q (by rw[HN.out];exact e7);have DR:Hid (∀ (v:Value) W,Calls _ _ _ W _):=fun v W=>zeo (nd S q) v W;have e8:(if (nd S q).h = -1 then (nd S q).p else (nd S q).h)=zah (nd S q):=rfl;rw[e8] at DR
   have NX:Hid (zgp S k q=false->∀ i,i<q+1->zgp S k i=false):=fun h i hi=>by
    by_cases e:i=q
    ·rw[e];exact h
    ·exact A.out i (by omega)
   have HG:Hid (zgp S k q=((decide (q=k) && decide (zah (nd S q)≠-1)) || decide (zah (nd S q)=(k:Int)))):=(rfl:zgp S k q=_);have QB:Hid _:=Q2.out q e7;clear e8 A Q2;generalize zah (nd S q)=r at *;generalize (nd S q).ks.length=L at *;generalize nd S q=x at *;obtain⟨xu,xn,xt,xm,xp,h5,xh,xc⟩:=x;dsimp only at c0 c1 c2 c3 c4 c5 c6 c7 DR;by_cases b8:q=k
   ·have a8:Hid (q=k):=b8;clear b8;by_cases hr:r = -1
    ·have b4:Hid _:=NX.out (by rw[HG.out,hr];first|(simp;done)|(simp;omega));subst hr;clear NX HG QB
     go_wp2_with fail
     obtain⟨Q,O⟩:∃ Q:Int,(q:Int)=Q:=⟨_,rfl⟩;have HQ:Hid ((q:Int)=Q):=O;have b5:(0:Int)<=Q:=by omega
     have b6:Q<=1000:=by omega
     rw[O];have e1:Q=P:=by rw[<- O,HP.out,a8.out]
     clear O;subst e1;have e3:((-1:Int) == Q)=false:=by rw[<- HQ.out];first|(simp;done)|(simp;omega)
     have g8:decide ((-1:Int)=Q)=false:=decide_eq_false (by omega);obtain⟨V,F⟩:∃ V,wr.alloc (.cells #[.bool xu,.int .i64 xn,.int .i64 xt,.int .i64 xm,.int .i64 xp,.slice ka L kc,.int .i64 xh,.bool xc] 47)=V:=⟨_,rfl⟩;have HV:Hid (Below wr.heap.size wr V):=by rw[<- F];exact(yj _ _).alloc (yi _) _
     have n0:V.cell? ⟨wr.heap.size,0,none⟩=some (.bool xu):=by rw[<- F];exact zad _ _ _ 0 rfl
     have n1:V.cell? ⟨wr.heap.size,1,none⟩=some (.int .i64 xn):=by rw[<- F];exact zad _ _ _ 1 rfl
     have n2:V.cell? ⟨wr.heap.size,2,none⟩=some (.int .i64 xt):=by rw[<- F];exact zad _ _ _ 2 rfl
     have n3:V.cell? ⟨wr.heap.size,3,none⟩=some (.int .i64 xm):=by rw[<- F];exact zad _ _ _ 3 rfl
     have n4:V.cell? ⟨wr.heap.size,4,none⟩=some (.int .i64 xp):=by rw[<- F];exact zad _ _ _ 4 rfl
     have n5:V.cell? ⟨wr.heap.size,5,none⟩=some (.slice ka L kc):=by rw[<- F];exact zad _ _ _ 5 rfl
     have n6:V.cell? ⟨wr.heap.size,6,none⟩=some (.int .i64 xh):=by rw[<- F];exact zad _ _ _ 6 rfl
     have n7:V.cell? ⟨wr.heap.size,7,none⟩=some (.bool xc):=by rw[<- F];exact zad _ _ _ 7 rfl
     have nh:V.cell? ⟨w.heap.size+1,0,none⟩=some (.int .i64 Q):=(HV.out.cell (by show w.heap.size+1 < _;omega)).trans l1;have Z:w.heap.size+1<V.heap.size:=ye _ _ nh;rw[F];have a9:Hid (wr.heap.size+1=V.heap.size):=(by rw[<- F];simp:wr.heap.size+1=V.heap.size);clear F c0 c1 c2 c3 c4 c5 c6 c7
     go_region_with (first|(go_at_call 84;refine yf (DR.out (.slice ka L kc) _) ?_;rintro e U ⟨rfl,J⟩;have I:Hid (Below V.heap.size V U):=(yj V.heap.size V).drew.trans J;obtain⟨m0,m1,m2,m3,m4,m5,m6,m7⟩:=zeb I.out n0 n1 n2 n3 n4 n5 n6 n7;have mh:U.cell? ⟨w.heap.size+1,0,none⟩=some (.int .i64 Q):=(I.out.cell (by exact Z)).trans nh;clear J)|(go_at_call 84;refine yf (DR.out (.slice ka L kc) _) ?_;rintro e w5 ⟨rfl,J⟩;have a7:Hid (Below V.heap.size V w5):=I.out.trans (J.mono I.out.size);obtain⟨o0,o1,o2,o3,o4,o5,o6,o7⟩:=zeb a7.out n0 n1 n2 n3 n4 n5 n6 n7;have oh:w5.cell? ⟨w.heap.size+1,0,none⟩=some (.int .i64 Q):=(a7.out.cell (by exact Z)).trans nh;clear J))
     all_goals (
      go_wp2_with fail
      go_roundg (n-(q+1))
      case measure=>omega
      case rel =>
       have D:Below wr.heap.size wr w5:=HV.out.trans (a7.out.mono HV.out.size);have g3:=D.size;exact⟨q+1,by omega,by omega,by rw[<- HQ.out];go_num,by omega,(D.cell (by show w.heap.size < _;omega)).trans l0,(D.cell (by show w.heap.size+1 < _;omega)).trans l1,(D.cell (by show w.heap.size+1 < _;omega)).trans l2,(D.cell (by show w.heap.size+1+1 < _;omega)).trans l3,(D.frozen (by show w.heap.size < _;omega)).trans z0,(D.frozen (by show w.heap.size+1+1 < _;omega)).trans z1,HB.out.trans (D.mono HB.out.size),b4⟩
     )
    ·obtain⟨rfl,rfl⟩:=QB.out (by rw[HG.out];simp[a8.out,hr]);have e2:(r != -1)=true:=by simpa using hr
     have f9:decide (r = -1)=false:=decide_eq_false hr;have g4:(r == -1)=false:=by simpa using hr
     clear NX HG QB
     go_wp2_with fail
     obtain⟨Q,O⟩:∃ Q:Int,(q:Int)=Q:=⟨_,rfl⟩;have HQ:Hid ((q:Int)=Q):=O;have b5:(0:Int)<=Q:=by omega
     have b6:Q<=1000:=by omega
     rw[O];have e1:Q=P:=by rw[<- O,HP.out,a8.out]
     clear O;subst e1;obtain⟨V,F⟩:∃ V,wr.alloc (.cells #[.bool xu,.int .i64 xn,.int .i64 xt,.int .i64 xm,.int .i64 xp,.slice ka L kc,.int .i64 xh,.bool xc] 47)=V:=⟨_,rfl⟩;have HV:Hid (Below wr.heap.size wr V):=by rw[<- F];exact(yj _ _).alloc (yi _) _
     have n0:V.cell? ⟨wr.heap.size,0,none⟩=some (.bool xu):=by rw[<- F];exact zad _ _ _ 0 rfl
     have n1:V.cell? ⟨wr.heap.size,1,none⟩=some (.int .i64 xn):=by rw[<- F];exact zad _ _ _ 1 rfl
     have n2:V.cell? ⟨wr.heap.size,2,none⟩=some (.int .i64 xt):=by rw[<- F];exact zad _ _ _ 2 rfl
     have n3:V.cell? ⟨wr.heap.size,3,none⟩=some (.int .i64 xm):=by rw[<- F];exact zad _ _ _ 3 rfl
     have n4:V.cell? ⟨wr.heap.size,4,none⟩=some (.int .i64 xp):=by rw[<- F];exact zad _ _ _ 4 rfl
     have n5:V.cell? ⟨wr.heap.size,5,none⟩=some (.slice ka L kc):=by rw[<- F];exact zad _ _ _ 5 rfl
     have n6:V.cell? ⟨wr.heap.size,6,none⟩=some (.int .i64 xh):=by rw[<- F];exact zad _ _ _ 6 rfl
     have n7:V.cell? ⟨wr.heap.size,7,none⟩=some (.bool xc):=by rw[<- F];exact zad _ _ _ 7 rfl
     have nh:V.cell? ⟨w.heap.size+1,0,none⟩=some (.int .i64 Q):=(HV.out.cell (by show w.heap.size+1 < _;omega)).trans l1;have Z:w.heap.size+1<V.heap.size:=ye _ _ nh;rw[F];have a9:Hid (wr.heap.size+1=V.heap.size):=(by rw[<- F];simp:wr.heap.size+1=V.heap.size);clear F c0 c1 c2 c3 c4 c5 c6 c7
     first|(go_region_with (first|(go_at_call 84;refine yf (DR.out (.slice ka L kc) _) ?_;rintro e U ⟨rfl,J⟩;have I:Hid (Below V.heap.size V U):=(yj V.heap.size V).drew.trans J;obtain⟨m0,m1,m2,m3,m4,m5,m6,m7⟩:=zeb I.out n0 n1 n2 n3 n4 n5 n6 n7;have mh:U.cell? ⟨w.heap.size+1,0,none⟩=some (.int .i64 Q):=(I.out.cell (by exact Z)).trans nh;clear J)))|fail
     all_goals (
      have D:Below wr.heap.size wr U:=HV.out.trans (I.out.mono HV.out.size);have x3:U.cell? ⟨w.heap.size+1+1,0,none⟩=some (.slice none 0 0):=(D.cell (by show w.heap.size+1+1 < _;omega)).trans l3;have xz:U.frozen? ⟨w.heap.size+1+1,0,none⟩=false:=(D.frozen (by show w.heap.size+1+1 < _;omega)).trans z1;have a4:Hid (Below w.heap.size w U):=HB.out.trans (D.mono HB.out.size);clear D
      go_wp2_with fail
      refine yq (v:=.tuple #[.agg #[.slice none 0 0],.int .i64 6]) (by simp[results,Tryz.results39,go_sem,x3]) rfl ⟨none,0,rfl,?_,fun i hi=>absurd hi (yr _)⟩
      first|exact a4.out.setCell (by simp;omega) _|exact(a4.out.setCell (by simp;omega) _).drew
     )
   ·by_cases hr:r=P
    ·obtain⟨rfl,rfl⟩:=QB.out (by rw[HG.out,hr,HP.out];simp);subst hr;clear NX HG QB
     go_wp2_with fail
     obtain⟨Q,O⟩:∃ Q:Int,(q:Int)=Q:=⟨_,rfl⟩;have e1:(Q == r)=false:=by rw[<- O,HP.out];simp;omega
     have f8:decide (Q=r)=false:=by rw[<- O,HP.out];simp;omega
     have HQ:Hid ((q:Int)=Q):=O;have b5:(0:Int)<=Q:=by omega
     have b6:Q<=1000:=by omega
     rw[O];clear O;obtain⟨V,F⟩:∃ V,wr.alloc (.cells #[.bool xu,.int .i64 xn,.int .i64 xt,.int .i64 xm,.int .i64 xp,.slice ka L kc,.int .i64 xh,.bool xc] 47)=V:=⟨_,rfl⟩;have HV:Hid (Below wr.heap.size wr V):=by rw[<- F];exact(yj _ _).alloc (yi _) _
     have n0:V.cell? ⟨wr.heap.size,0,none⟩=some (.bool xu):=by rw[<- F];exact zad _ _ _ 0 rfl
     have n1:V.cell? ⟨wr.heap.size,1,none⟩=some (.int .i64 xn):=by rw[<- F];exact zad _ _ _ 1 rfl
     have n2:V.cell? ⟨wr.heap.size,2,none⟩=some (.int .i64 xt):=by rw[<- F];exact zad _ _ _ 2 rfl
     have n3:V.cell? ⟨wr.heap.size,3,none⟩=some (.int .i64 xm):=by rw[<- F];exact zad _ _ _ 3 rfl
     have n4:V.cell? ⟨wr.heap.size,4,none⟩=some (.int .i64 xp):=by rw[<- F];exact zad _ _ _ 4 rfl
     have n5:V.cell? ⟨wr.heap.size,5,none⟩=some (.slice ka L kc):=by rw[<- F];exact zad _ _ _ 5 rfl
     have n6:V.cell? ⟨wr.heap.size,6,none⟩=some (.int .i64 xh):=by rw[<- F];exact zad _ _ _ 6 rfl
     have n7:V.cell? ⟨wr.heap.size,7,none⟩=some (.bool xc):=by rw[<- F];exact zad _ _ _ 7 rfl
     have nh:V.cell? ⟨w.heap.size+1,0,none⟩=some (.int .i64 r):=(HV.out.cell (by show w.heap.size+1 < _;omega)).trans l1;have Z:w.heap.size+1<V.heap.size:=ye _ _ nh;rw[F];have a9:Hid (wr.heap.size+1=V.heap.size):=(by rw[<- F];simp:wr.heap.size+1=V.heap.size);clear F c0 c1 c2 c3 c4 c5 c6 c7
     go_region_with (first|(go_at_call 84;refine yf (DR.out (.slice ka L kc) _) ?_;rintro e U ⟨rfl,J⟩;have I:Hid (Below V.heap.size V U):=(yj V.heap.size V).drew.trans J;obtain⟨m0,m1,m2,m3,m4,m5,m6,m7⟩:=zeb I.out n0 n1 n2 n3 n4 n5 n6 n7;have mh:U.cell? ⟨w.heap.size+1,0,none⟩=some (.int .i64 r):=(I.out.cell (by exact Z)).trans nh;clear J))
     all_goals (
      have D:Below wr.heap.size wr U:=HV.out.trans (I.out.mono HV.out.size);have x3:U.cell? ⟨w.heap.size+1+1,0,none⟩=some (.slice none 0 0):=(D.cell (by show w.heap.size+1+1 < _;omega)).trans l3;have xz:U.frozen? ⟨w.heap.size+1+1,0,none⟩=false:=(D.frozen (by show w.heap.size+1+1 < _;omega)).trans z1;have a4:Hid (Below w.heap.size w U):=HB.out.trans (D.mono HB.out.size);clear D
      go_wp2_with fail
      refine yq (v:=.tuple #[.agg #[.slice none 0 0],.int .i64 6]) (by simp[results,Tryz.results39,go_sem,x3]) rfl ⟨none,0,rfl,?_,fun i hi=>absurd hi (yr _)⟩
      first|exact a4.out.setCell (by simp;omega) _|exact(a4.out.setCell (by simp;omega) _).drew
     )
    ·have e2:(r == P)=false:=by simpa using hr
     have f9:decide (r=P)=false:=decide_eq_false hr;have b4:Hid _:=NX.out (by rw[HG.out,<- HP.out];simp[b8,hr]);clear NX HG QB
     go_wp2_with fail
     obtain⟨Q,O⟩:∃ Q:Int,(q:Int)=Q:=⟨_,rfl⟩;have e1:(Q == P)=false:=by rw[<- O,HP.out];simp;omega
     have f8:decide (Q=P)=false:=by rw[<- O,HP.out];simp;omega
     have HQ:Hid ((q:Int)=Q):=O;have b5:(0:Int)<=Q:=by omega
     have b6:Q<=1000:=by omega
     rw[O];clear O;obtain⟨V,F⟩:∃ V,wr.alloc (.cells #[.bool xu,.int .i64 xn,.int .i64 xt,.int .i64 xm,.int .i64 xp,.slice ka L kc,.int .i64 xh,.bool xc] 47)=V:=⟨_,rfl⟩;have HV:Hid (Below wr.heap.size wr V):=by rw[<- F];exact(yj _ _).alloc (yi _) _
     have n0:V.cell? ⟨wr.heap.size,0,none⟩=some (.bool xu):=by rw[<- F];exact zad _ _ _ 0 rfl
     have n1:V.cell? ⟨wr.heap.size,1,none⟩=some (.int .i64 xn):=by rw[<- F];exact zad _ _ _ 1 rfl
     have n2:V.cell? ⟨wr.heap.size,2,none⟩=some (.int .i64 xt):=by rw[<- F];exact zad _ _ _ 2 rfl
     have n3:V.cell? ⟨wr.heap.size,3,none⟩=some (.int .i64 xm):=by rw[<- F];exact zad _ _ _ 3 rfl
     have n4:V.cell? ⟨wr.heap.size,4,none⟩=some (.int .i64 xp):=by rw[<- F];exact zad _ _ _ 4 rfl
     have n5:V.cell? ⟨wr.heap.size,5,none⟩=some (.slice ka L kc):=by rw[<- F];exact zad _ _ _ 5 rfl
     have n6:V.cell? ⟨wr.heap.size,6,none⟩=some (.int .i64 xh):=by rw[<- F];exact zad _ _ _ 6 rfl
     have n7:V.cell? ⟨wr.heap.size,7,none⟩=some (.bool xc):=by rw[<- F];exact zad _ _ _ 7 rfl
     have nh:V.cell? ⟨w.heap.size+1,0,none⟩=some (.int .i64 P):=(HV.out.cell (by show w.heap.size+1 < _;omega)).trans l1;have Z:w.heap.size+1<V.heap.size:=ye _ _ nh;rw[F];have a9:Hid (wr.heap.size+1=V.heap.size):=(by rw[<- F];simp:wr.heap.size+1=V.heap.size);clear F c0 c1 c2 c3 c4 c5 c6 c7
     go_region_with (first|(go_at_call 84;refine yf (DR.out (.slice ka L kc) _) ?_;rintro e U ⟨rfl,J⟩;have I:Hid (Below V.heap.size V U):=(yj V.heap.size V).drew.trans J;obtain⟨m0,m1,m2,m3,m4,m5,m6,m7⟩:=zeb I.out n0 n1 n2 n3 n4 n5 n6 n7;have mh:U.cell? ⟨w.heap.size+1,0,none⟩=some (.int .i64 P):=(I.out.cell (by exact Z)).trans nh;clear J))
     all_goals (
      go_wp2_with fail
      go_roundg (n-(q+1))
      case measure=>omega
      case rel =>
       have D:Below wr.heap.size wr U:=HV.out.trans (I.out.mono HV.out.size);have g3:=D.size;exact⟨q+1,by omega,by omega,by rw[<- HQ.out];go_num,by omega,(D.cell (by show w.heap.size < _;omega)).trans l0,(D.cell (by show w.heap.size+1 < _;omega)).trans l1,(D.cell (by show w.heap.size+1 < _;omega)).trans l2,(D.cell (by show w.heap.size+1+1 < _;omega)).trans l3,(D.frozen (by show w.heap.size < _;omega)).trans z0,(D.frozen (by show w.heap.size+1+1 < _;omega)).trans z1,HB.out.trans (D.mono HB.out.size),b4⟩
     )
  ·have g2:q=n:=by omega
   subst g2;obtain⟨hT,hE⟩:=Q1.out A.out;have HT:Hid _:=hT;subst hE;clear Q1 Q2 A hT;have g0:=HP.out;subst g0;have h4:(k:Int)<(q:Int):=by omega
   go_wp2_with (go_at_call 82;refine(DO.out _ (HS.out.below HB.out)).mono ?_;rintro e w2 ⟨v,K,rfl,d9,a6⟩;obtain⟨g,cap,rfl,hg,h2,g6,g9,hO,d7,⟨m0,y0⟩,m1,m2,m3,y3⟩:=zht (by omega) a5 HB.out l0 l1 l2 l3 z0 z1 d9 a6;have HO:Hid _:=hO;have c8:Hid _:=d7;have g1:w.heap.size≠g:=(by omega);have g5:w.heap.size+1≠g:=(by omega);have M:w.heap.size+1+1≠g:=(by omega);obtain⟨⟨r0,r1,r2,r3,r4,r5,r6,r7⟩,rf⟩:=zoE hO g1 hk;have f0:=rf (k*8);have f1:=rf (k*8+1);have f2:=rf (k*8+2);have f3:=rf (k*8+3);have f4:=rf (k*8+4);have f5:=rf (k*8+5);have f6:=rf (k*8+6);have f7:=rf (k*8+7);clear a6 d9 hO d7 rf l0 l1 l2 l3 z0 z1)
   have P8:Hid (zca (w.heap.size+4) (S.set k ⟨false,u,0,0,-1,[],-1,false⟩) q (fun i=>if i=k then .slice none 0 0 else K i) (.slice (some ⟨g,0,none⟩) q cap) (((((((((w2.setCell ⟨w.heap.size,0,none⟩ (.slice (some ⟨g,0,none⟩) q cap)).setCell ⟨g,k*8,none⟩ (.bool false)).setCell ⟨g,k*8+1,none⟩ (.int .i64 u)).setCell ⟨g,k*8+2,none⟩ (.int .i64 0)).setCell ⟨g,k*8+3,none⟩ (.int .i64 0)).setCell ⟨g,k*8+4,none⟩ (.int .i64 (-1))).setCell ⟨g,k*8+5,none⟩ (.slice none 0 0)).setCell ⟨g,k*8+6,none⟩ (.int .i64 (-1))).setCell ⟨g,k*8+7,none⟩ (.bool false))):=zca.putN HO.out hk HN.out ⟨false,u,0,0,-1,[],-1,false⟩ rfl;have e9:(((((((((w2.setCell ⟨w.heap.size,0,none⟩ (.slice (some ⟨g,0,none⟩) q cap)).setCell ⟨g,k*8,none⟩ (.bool false)).setCell ⟨g,k*8+1,none⟩ (.int .i64 u)).setCell ⟨g,k*8+2,none⟩ (.int .i64 0)).setCell ⟨g,k*8+3,none⟩ (.int .i64 0)).setCell ⟨g,k*8+4,none⟩ (.int .i64 (-1))).setCell ⟨g,k*8+5,none⟩ (.slice none 0 0)).setCell ⟨g,k*8+6,none⟩ (.int .i64 (-1))).setCell ⟨g,k*8+7,none⟩ (.bool false)).cell? ⟨w.heap.size+1+1,0,none⟩=some (.slice none 0 0):=zak M (zak M (zak M (zak M (zak M (zak M (zak M (zak M ((yw (yo _ _ _ _ (by simp;omega))).trans m3))))))))
   have c9:Hid (Below w.heap.size w (((((((((w2.setCell ⟨w.heap.size,0,none⟩ (.slice (some ⟨g,0,none⟩) q cap)).setCell ⟨g,k*8,none⟩ (.bool false)).setCell ⟨g,k*8+1,none⟩ (.int .i64 u)).setCell ⟨g,k*8+2,none⟩ (.int .i64 0)).setCell ⟨g,k*8+3,none⟩ (.int .i64 0)).setCell ⟨g,k*8+4,none⟩ (.int .i64 (-1))).setCell ⟨g,k*8+5,none⟩ (.slice none 0 0)).setCell ⟨g,k*8+6,none⟩ (.int .i64 (-1))).setCell ⟨g,k*8+7,none⟩ (.bool false))):=((((((((c8.out.setCell (by simp;omega) _).setCell (by simp;omega) _).setCell (by simp;omega) _).setCell (by simp;omega) _).setCell (by simp;omega) _).setCell (by simp;omega) _).setCell (by simp;omega) _).setCell (by simp;omega) _);obtain⟨W4,d8⟩:∃ W4,(((((((((w2.setCell ⟨w.heap.size,0,none⟩ (.slice (some ⟨g,0,none⟩) q cap)).setCell ⟨g,k*8,none⟩ (.bool false)).setCell ⟨g,k*8+1,none⟩ (.int .i64 u)).setCell ⟨g,k*8+2,none⟩ (.int .i64 0)).setCell ⟨g,k*8+3,none⟩ (.int .i64 0)).setCell ⟨g,k*8+4,none⟩ (.int .i64 (-1))).setCell ⟨g,k*8+5,none⟩ (.slice none 0 0)).setCell ⟨g,k*8+6,none⟩ (.int .i64 (-1))).setCell ⟨g,k*8+7,none⟩ (.bool false))=W4:=⟨_,rfl⟩;rw[d8] at P8 e9 c9 |-;clear d8 HO c8 r0 r1 r2 r3 r4 r5 r6 r7 f0 f1 f2 f3 f4 f5 f6 f7 m0 m1 m2 m3 y0 y3;have rc:(W4.setCell ⟨w.heap.size+1+1,0,none⟩ (.slice (some ⟨g,0,none⟩) q cap)).cell? ⟨w.heap.size+1+1,0,none⟩=some (.slice (some ⟨g,0,none⟩) q cap):=World.cell?_setCell_same _ _ _ e9
   refine yq (v:=.tuple #[.agg #[.slice (some ⟨g,0,none⟩) q cap],.int .i64 0]) (by simp[results,Tryz.results39,go_sem,rc]) rfl ⟨some ⟨g,0,none⟩,cap,by rw[HT.out,List.length_set,HN.out],c9.out.setCell (by simp;omega) _,?_⟩;rw[HT.out];exact(P8.out.other (fun b hb _=>yo _ _ _ _ (by simp;omega))).ndsAt (by rw[List.length_set];exact HN.out)
end Go.Proofs.YtgjfmepbphfjoaaGreat
