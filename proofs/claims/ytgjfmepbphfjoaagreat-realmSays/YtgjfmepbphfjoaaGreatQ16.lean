/-
  x
-/
import Derived.Test.YtgjfmepbphfjoaaGreatQ14
import Derived.Test.YtgjfmepbphfjoaaGreatQ15
namespace Go.Proofs.YtgjfmepbphfjoaaGreat
set_option maxRecDepth 100000
set_option maxHeartbeats 4000000
set_option linter.unusedVariables false
open Go.RowKit
def zqL(te:Tst):Bool:=(decide (te.t = -1000001) || decide (0<=te.t/\te.t<=99)) && (decide (te.m = -1000001) || decide (-1000000<=te.m/\te.m<=1000000))
theorem zjy(te:Tst)(w:World) :
  Calls Tryz.prog 138 #[.agg #[.int .i64 te.t,.int .i64 te.m,.bool te.near]] w fun e w' => e=.returned (.bool (zqL te))/\Below w.heap.size w w' := by
 obtain⟨T,M,near⟩:=te;unfold zqL;dsimp only;have d1:=zbf T 0 99;have d2:=zbf M (-1000000) 1000000;generalize decide (0<=T/\T<=99)=b1 at *;generalize decide (-1000000<=M/\M<=1000000)=b2 at *;by_cases h1:T = -1000001
 ·subst h1;simp only[decide_true,Bool.true_or,Bool.true_and];by_cases A:M = -1000001
  ·subst A;simp only[decide_true,Bool.true_or]
   go_enter Tryz.func138,Tryz.ntmps138
   go_wp2
   go_ret;exact⟨rfl,(yj _ _).alloc (yi _) _⟩
  ·have e2:(M == -1000001)=false:=beq_eq_false_iff_ne.2 A;simp only[decide_eq_false A,Bool.false_or]
   cases b2 <;>
   ·go_enter Tryz.func138,Tryz.ntmps138
    go_wp2_with (go_at_call 54;refine(d2 _).mono ?_;rintro e w' ⟨rfl,rfl⟩)
    go_ret;exact⟨rfl,(yj _ _).alloc (yi _) _⟩
 ·have e1:(T == -1000001)=false:=beq_eq_false_iff_ne.2 h1;simp only[decide_eq_false h1,Bool.false_or]
  cases b1 with
  | false =>
   simp only[Bool.false_and]
   go_enter Tryz.func138,Tryz.ntmps138
   go_wp2_with (go_at_call 54;refine(d1 _).mono ?_;rintro e w' ⟨rfl,rfl⟩)
   go_ret;exact⟨rfl,(yj _ _).alloc (yi _) _⟩
  | true =>
   simp only[Bool.true_and];by_cases A:M = -1000001
   ·subst A;simp only[decide_true,Bool.true_or]
    go_enter Tryz.func138,Tryz.ntmps138
    go_wp2_with (go_at_call 54;refine(d1 _).mono ?_;rintro e w' ⟨rfl,rfl⟩)
    go_ret;exact⟨rfl,(yj _ _).alloc (yi _) _⟩
   ·have e2:(M == -1000001)=false:=beq_eq_false_iff_ne.2 A;simp only[decide_eq_false A,Bool.false_or]
    cases b2 <;>
    ·go_enter Tryz.func138,Tryz.ntmps138
     go_wp2_with (first|(go_at_call_of 54 (Value.int .i64 99);refine(d1 _).mono ?_;rintro e w' ⟨rfl,rfl⟩)|(go_at_call_of 54 (Value.int .i64 1000000);refine(d2 _).mono ?_;rintro e w' ⟨rfl,rfl⟩))
     go_ret;exact⟨rfl,(yj _ _).alloc (yi _) _⟩
def zcm:Nat->List Tst->Int
 | _,[]=>0
 | k,te :: r=>if zqL te then (if decide (k=0) && te.near then 3 else zcm (k+1) r) else 2
def zcA(q:List Tst):Int:=if decide (1<=(q.length:Int)/\(q.length:Int)<=6) then zcm 0 q else 1
theorem zkW{q:List Tst}{k:Nat}(h:k<q.length):q.drop k=tst q k :: q.drop (k+1):=zfg h
theorem zhu(Z:Option Addr)(qc:Nat)(q:List Tst)(w:World)(hq:q.length<=9223372036854775807)(hQ:zaP w Z q) :
  Calls Tryz.prog 128 #[.slice Z q.length qc] w fun e w' => e=.returned (.int .i64 (zcA q))/\Below w.heap.size w w' := by
 have HQ:Hid (zaP w Z q):=hQ;have d1:=zbf (q.length:Int) 1 6;have DR:Hid (∀ k,k<q.length->zcm k (q.drop k)=if zqL (tst q k) then (if decide (k=0) && (tst q k).near then 3 else zcm (k+1) (q.drop (k+1))) else 2):=fun k hk=>by rw[zkW hk];rfl
 have DE:Hid (zcm q.length (q.drop q.length)=0):=by show _=_;rw[List.drop_length];rfl
 unfold zcA;clear hQ;have H0:Hid (zcm 0 q=zcm 0 (q.drop 0)):=rfl;generalize zcm 0 q=E at *;generalize hl:q.length=L at *;have U:Hid _:=hl;clear hl
 cases D:decide (1<=(L:Int)/\(L:Int)<=6) with
 | false =>
  rw[D] at d1;simp only[Bool.false_eq_true,if_false];clear D
  go_enter Tryz.func128,Tryz.ntmps128
  go_wp2_with (go_at_call 54;refine(d1 _).mono ?_;rintro e w' ⟨rfl,F⟩;have M:=F.symm;clear F;subst M)
  go_ret;exact⟨rfl,yj _ _⟩
 | true =>
  rw[D] at d1;simp only[if_true];clear D
  go_enter Tryz.func128,Tryz.ntmps128
  go_wp2_with (go_at_call 54;refine(d1 _).mono ?_;rintro e w' ⟨rfl,F⟩;have M:=F.symm;clear F;subst M)
  go_loopg [11] L (fun g1 s11 wr=>∃ k:Nat,k<=L/\L-k<=g1/\s11=.int .i64 k/\Below w.heap.size w wr/\Hid (E=zcm k (q.drop k)))
  case atStart=>exact⟨0,by omega,by omega,rfl,yj _ _,H0⟩
  case round =>
   obtain⟨k,hk,a5,rfl,D,O⟩:=hrel;by_cases V:k<L
   ·have a4:(k:Int)<(L:Int):=by omega
    obtain⟨qb,qo,rfl,q0,q1,q2⟩:=(HQ.out.below D) k (by rw[U.out];exact V);have a7:=ye _ _ q0;have DK:=DR.out k (by omega);have d2:=fun W=>zjy (tst q k) W;generalize tst q k=te at *;generalize zqL te=ok at *;obtain⟨tt,tm,tn⟩:=te;dsimp only at *;have J:Hid _:=DK;clear DK
    cases ok with
    | false =>
     have I:Hid (E=2):=by show _=_;rw[O.out,J.out];rfl
     go_wp2_with (go_at_call 138;refine(d2 _).mono ?_;rintro e w2 ⟨rfl,A⟩)
     go_ret;exact⟨by rw[I.out];rfl,D.trans (((yj _ _).alloc (yi _) _ |>.trans (A.mono (by simp))).mono D.size)⟩
    | true =>
     by_cases T:k=0
     ·subst T;simp only[Nat.zero_mul,Nat.add_zero] at q0 q1 q2
      cases tn with
      | true =>
       have I:Hid (E=3):=by show _=_;rw[O.out,J.out];rfl
       go_wp2_with (go_at_call 138;refine(d2 _).mono ?_;rintro e w2 ⟨rfl,A⟩;simp only[yk] at A;have c2:w2.cell? ⟨wr.heap.size,2,none⟩=some (.bool true):=(A.cell (by simp)).trans (by go_simp))
       go_ret;exact⟨by rw[I.out];rfl,D.trans (((yj _ _).alloc (yi _) _ |>.trans (A.mono (by omega))).mono D.size)⟩
      | false =>
       have I:Hid (E=zcm (0+1) (q.drop (0+1))):=by show _=_;rw[O.out,J.out];rfl
       go_wp2_with (go_at_call 138;refine(d2 _).mono ?_;rintro e w2 ⟨rfl,A⟩;simp only[yk] at A;have c2:w2.cell? ⟨wr.heap.size,2,none⟩=some (.bool false):=(A.cell (by simp)).trans (by go_simp))
       go_roundg (L-1)
       case measure=>omega
       case rel=>exact⟨0+1,by omega,by omega,by go_num,D.trans (((yj _ _).alloc (yi _) _ |>.trans (A.mono (by omega))).mono D.size),I⟩
     ·have a6:((k:Int) == 0)=false:=beq_eq_false_iff_ne.2 (by omega)
      have I:Hid (E=zcm (k+1) (q.drop (k+1))):=by
       show _=_;rw[O.out,J.out,decide_eq_false T];rfl
      go_wp2_with (go_at_call 138;refine(d2 _).mono ?_;rintro e w2 ⟨rfl,A⟩)
      go_roundg (L-(k+1))
      case measure=>omega
      case rel=>exact⟨k+1,by omega,by omega,by go_num,D.trans (((yj _ _).alloc (yi _) _ |>.trans (A.mono (by simp))).mono D.size),I⟩
   ·have:k=L:=by omega
    subst this;have I:Hid (E=0):=by show _=_;rw[O.out,<- U.out];rw[<- U.out] at DE;exact DE.out
    go_wp2
    go_ret;exact⟨by rw[I.out];rfl,D⟩
theorem zog:(Tryz.prog.info? 143).map (fun i=>(i.zero,i.size,i.bytes))=some (some (.agg #[.int .i64 0,.int .i64 0,.slice none 0 0]),3,40):=by kernel_rfl
def zep(s:Slt)(v:Value):List Value:=[.int .i64 s.pl,.int .i64 s.num,v]
def zeq(L:List Slt)(K:Nat->Value):List Value:=(List.range L.length).flatMap fun i=>zep (slt L i) (K i)
theorem zim{L:List Slt}{s:Slt}{i:Nat}(h:i<L.length):slt (L++[s]) i=slt L i:=by
 rw[zbN (by simp;omega),zbN h,List.getElem_append_left h]
theorem zil(L:List Slt)(s:Slt):slt (L++[s]) L.length=s:=by
 rw[zbN (by simp)];simp
theorem zgH(L:List Slt)(K:Nat->Value)(s:Slt)(v:Value):zeq L K++zep s v=zeq (L++[s]) (fun i=>if i=L.length then v else K i):=by
 unfold zeq;rw[List.length_append,List.length_singleton,List.range_succ,List.flatMap_append]
 congr 1
 ·refine zcB (fun x hx=>?_);have w:=List.mem_range.1 hx;have:x≠L.length:=by omega
  simp only[ya this];rw[zim w]
 ·simp[zil]
def zdX(B:Nat)(L:List Slt)(K:Nat->Value)(v:Value)(w:World):Prop :=
 w.ownsRow B 143 3 v L.length (zeq L K)/\∀ i,i<L.length->w.ownsRow B 3 1 (K i) (slt L i).gv.length ((slt L i).gv.map (Value.int .i64))
theorem zdX.other{B:Nat}{L:List Slt}{K:Nat->Value}{v:Value}{w w' : World}(h:zdX B L K v w)(F:∀ b,B<=b->b<w.heap.size->w'.heap[b]?=w.heap[b]?):zdX B L K v w' :=
 ⟨zao h.1 (fun k A=>F k (h.1.lt k A).1 (h.1.lt k A).2),fun i D=>zao (h.2 i D) (fun k A=>F k ((h.2 i D).lt k A).1 ((h.2 i D).lt k A).2)⟩
theorem zdX.below{B:Nat}{L:List Slt}{K:Nat->Value}{v:Value}{w w' : World}(h:zdX B L K v w)(D:Below w.heap.size w w'):zdX B L K v w' := h.other (fun b _ A=>D.block b A)
theorem zdX.base{B B' : Nat}{L:List Slt}{K:Nat->Value}{v:Value}{w:World}(h:zdX B L K v w)(A:B' <= B):zdX B' L K v w:=⟨zau h.1 A,fun i D=>zau (h.2 i D) A⟩
theorem zeN(L:List Slt)(K:Nat->Value):∀ q,((List.range q).flatMap fun i=>zep (slt L i) (K i)).length=q*3
 | 0=>rfl
 | q+1=>by rw[List.range_succ,List.flatMap_append,List.length_append,zeN L K q];simp[zep];omega
theorem zgG(L:List Slt)(K:Nat->Value){i j:Nat}(A:j<3):∀ {q:Nat},i<q->((List.range q).flatMap fun i=>zep (slt L i) (K i))[i*3+j]?=(zep (slt L i) (K i))[j]?
 | 0,w=>by omega
 | q+1,w=>by
  rw[List.range_succ,List.flatMap_append];by_cases e:i<q
  ·rw[List.getElem?_append_left (by rw[zeN];omega)];exact zgG L K A e
  ·have:i=q:=by omega
   subst this;rw[List.getElem?_append_right (by rw[zeN];omega),zeN,show i*3+j-i*3=j by omega];simp
theorem zdX.slts{B:Nat}{L:List Slt}{K:Nat->Value}{v:Value}{w:World}(h:zdX B L K v w):∃ a c,v=.slice a L.length c/\zdZ w a L:=by
 obtain⟨I,O⟩:=h;have F:=I;obtain⟨hl,h⟩:=I;rcases h with ⟨rfl,h0⟩ |⟨g,cap,J,rfl,hb,hg,h1,V,Z,h4⟩
 ·exact⟨none,0,by rw[h0],fun i D=>by omega⟩
 ·refine⟨some ⟨g,0,none⟩,cap,rfl,fun i D=>⟨g,0,rfl,?_⟩⟩
  have A:∀ j,j<3->w.cell? ⟨g,i*3+j,none⟩=(zep (slt L i) (K i))[j]?:=fun j M=>by
   rw[<- zgG L K M D];exact F.cellAt (i*3+j) (by omega)
  obtain⟨T,U,e1,e2⟩:=zcp (O i D);rw[yv];refine⟨A 0 (by omega),A 1 (by omega),T,U,?_,e2⟩;rw[A 2 (by omega),e1];rfl
theorem zdX.step{wr wp w3:World}{B:Nat}{L:List Slt}{K:Nat->Value}{v v1 v2:Value}{s:Slt}{o3:Obj}(I:zdX B L K v wr)(Z:B<=wr.heap.size)(hs:wr.heap.size<=wp.heap.size)
  (e:∀ k,k<wr.heap.size->wp.heap[k]?=wr.heap[k]?) (A:wp.ownsRow wr.heap.size 3 1 v1 s.gv.length (s.gv.map (Value.int .i64)))
  (V:(wp.alloc o3).grownBy w3 v.ownBlock) (J:w3.ownsRow B 143 3 v2 (L.length+1) (zeq L K++zep s v1)) :
  zdX B (L++[s]) (fun i=>if i=L.length then v1 else K i) v2 w3:=by
 obtain⟨T,w⟩:=I
 have e3:∀ k,k<wp.heap.size->v.ownBlock≠some k->w3.heap[k]?=wp.heap[k]?:=fun k w M =>
  (V.block k (by simp;omega) (fun e=>M e.symm)).trans (Below.heap_alloc _ _ _ w)
 refine⟨?_,fun i hi=>?_⟩
 ·rw[<- zgH,List.length_append,List.length_singleton];exact J
 ·rw[List.length_append,List.length_singleton] at hi;by_cases O:i=L.length
  ·subst O;simp only[if_true];rw[zil];refine zao (zau A Z) (fun k w=>?_);have hl:=A.lt k w;exact e3 k hl.2 (fun U=>by have:=(T.lt k U).2;omega)
  ·simp only[ya O];have F:i<L.length:=by omega
   rw[zim F];have D:=w i F;refine zao D (fun k w=>?_);have hl:=D.lt k w;exact(e3 k (by omega) (zbH D T (by decide) k w)).trans (e k hl.2)
theorem zkm{W:World}{b:Nat}{s:Slt}{v:Value}(c0:W.cell? ⟨b,0,none⟩=some (.int .i64 s.pl))(c1:W.cell? ⟨b,1,none⟩=some (.int .i64 s.num))(c2:W.cell? ⟨b,2,none⟩=some v):∀ j u,(zep s v)[j]?=some u->W.cell? ((⟨b,0,none⟩:Addr).add j)=some u:=fun j u w=>by
 unfold zep at w;rw[Addr.add_lit]
 match j,w with
 | 0,w=>cases w;exact c0
 | 1,w=>cases w;exact c1
 | 2,w=>cases w;exact c2
theorem zox{s:Slt}{a:Option Addr}{n c:Nat}:∀ u ∈ zep s (.slice a n c),u.oneCell' = true:=fun u w=>by
 unfold zep at w;simp at w;rcases w with rfl|rfl|rfl <;> rfl
theorem zmX(a:Option Addr)(c:Nat)(S:List Nd)(H:Int)(w:World)(M:S.length<=9223372036854775807)(F:zae w a S)(hr:zbw S H = -1) :
  Calls Tryz.prog 142 #[.agg #[.slice a S.length c],.int .i64 H] w fun e w' => e=.returned (.slice none 0 0)/\Below w.heap.size w w' := by
 have d:=fun(W:World) (O:zae W a S)=>zcL a c S H W M O;rw[hr] at d;have D:Hid _:=d;have J:Hid (zae w a S):=F;clear d F hr;generalize S.length=n at *
 go_enter Tryz.func142,Tryz.ntmps142
 go_wp2_with fail
 refine yf (D.out _ (J.out.below ((yj _ _).alloc (yi _) _))) ?_;rintro e T ⟨rfl,I⟩;have A:Hid (Below w.heap.size w T):=((yj _ _).alloc (yi _) _).trans (I.mono (by simp));clear I
 go_wp2_with fail
 go_ret;exact⟨rfl,A.out⟩
theorem WF.used_host{S:List Nd}(h:WF S){r:Nat}(hr:r<S.length)(hh:(nd S r).h≠-1):(nd S r).u=true:=by
 have w:=(zbc (h.node r hr)).2.2;unfold zcy at w
 split at w
 ·rename_i A;exact A
 ·have:=of_decide_eq_true w;omega
theorem zhA{S:List Nd}{H:Nat}{P:List Int}{i:Nat}(w:i<P.length){y:Nat}(hy:P.getD i 0=y):zaG S H (P.take (i+1))=zcf S H (zaG S H (P.take i)) (y:Int):=by
 rw[List.take_succ_eq_append_getElem w,zdN];rw[zaf P 0 w] at hy;rw[hy]
theorem zjt{S:List Nd}{H:Nat}{P:List Int}(i:Nat)(D:P.length<=24):(zaG S H (P.take i)).length<=24:=by
 have h1:=zju S H (P.take i);have w:=List.length_take_le i P;have A:=List.length_take_le' i P;omega
theorem zmY(a:Option Addr)(c:Nat)(S:List Nd)(H r:Nat)(w:World)(wf:WF S)(hB:Big S)(hH:H<S.length)(hr:r<S.length)(er:zbw S H=r)(hh:(nd S r).h=H)(hS:zae w a S) :
  Calls Tryz.prog 142 #[.agg #[.slice a S.length c],.int .i64 (H:Int)] w fun e w' => ∃ v K,e=.returned v/\Below w.heap.size w w' /\ zdX w.heap.size (zaz S H) K v w' := by
 obtain⟨i0,f0,f8,f9,g0⟩:=info_parts zog;have hN:=wf.small;have hu:=wf.used_host hr (by omega)
 have g6:Hid (zaz S H=zaG S H (zaw S S.length r)):=by
  show _=_;unfold zaz;rw[er,ya (by omega),yg]
 have d:=fun(W:World) (hW:zae W a S)=>zcL a c S (H:Int) W (by omega) hW;rw[er] at d;have D:Hid _:=d;have DO:Hid (∀ W,zae W a S->Calls _ _ _ _ _):=fun W hW=>zie a c S r S.length (nd S r).n W (by omega) hB hW (zjz hr hu rfl wf) hr (wf.deep_all hr) (by have:=zdc wf hr;omega);have KM:Hid (∀ (mk:Int) W,zae W a S->Calls _ _ _ _ _):=fun mk W hW=>zml a c S H mk W hH (by have:=wf.kids_small hH;omega) (fun y hy=>by obtain⟨k,e,F,_⟩:=wf.kid hH hy;exact⟨k,e,F⟩) hW;have HS:Hid (zae w a S):=hS
 have TT:Hid (∀ y,y<S.length->0<=(nd S y).t/\(nd S y).t<=99):=fun y hy=>by
  have h1:=(zbc (wf.node y hy)).1;unfold zbV at h1;simp at h1;omega
 have PL:Hid (∀ y ∈ zaw S S.length r,∃ x:Nat,y=x/\x<S.length):=fun y hy=>by
  obtain⟨q,e,hq,_⟩:=zcc wf hr (wf.deep_all hr) y hy;exact⟨q,e,hq⟩
 have e8:(zaw S S.length r).length<=24:=by have:=zdc wf hr;omega
 clear d hS hu er hB wf;generalize zaw S S.length r=P at *;obtain⟨m,hm⟩:∃ m,P.length=m:=⟨_,rfl⟩;have HM:Hid (P.length=m):=hm;rw[hm] at DO e8;obtain⟨n,hn⟩:∃ n,S.length=n:=⟨_,rfl⟩;have HN:Hid (S.length=n):=hn;rw[hn] at hN hH hr D DO KM TT PL |-;have i2:(H:Int)<(n:Int):=by omega
 have i4:(r:Int)<(n:Int):=by omega
 have i5:((r:Int) == -1)=false:=by simp
 have i6:decide ((r:Int) = -1)=false:=by simp
 clear hn hm
 go_enter Tryz.func142,Tryz.ntmps142
 go_wp2_with fail
 refine yf (D.out _ (HS.out.below ((yj _ _).alloc (yi _) _))) ?_;rintro e w1 ⟨rfl,e9⟩;have J:=e9;simp only[yk] at J;have h7:=J.size;simp only[yk] at h7;have l0:w1.cell? ⟨w.heap.size,0,none⟩=some (.slice a n c):=(J.cell (by simp)).trans (by go_simp);have a8:Hid (Below w.heap.size w w1):=((yj _ _).alloc (yi _) _).trans (J.mono (by omega));obtain⟨nb,no,ea,_,c1,_⟩:=(HS.out.below a8.out) r (by rw[HN.out];exact hr);subst ea;have q0:=ye _ _ l0;have q1:=ye _ _ c1;clear e9 J D;generalize (nd S r).n=U at *
 go_wp2_with fail
 go_region_held3 (fun g1=>g1.cell? ⟨w.heap.size,0,none⟩=some (.slice (some ⟨nb,no,none⟩) n c)/\g1.cell? ⟨nb,no+r*8+1,none⟩=some (.int .i64 U)) (go_keep) (first|(go_at_call 127;refine(yf (DO.out _ ?nd) ?_);(case nd=>exact HS.out.below a8.out.drew);rintro e w2 ⟨sa,cap,rfl,a4,hI,g8,g9⟩;have e0:Hid (Below w.heap.size w w2):=a8.out.drew.trans (a4.mono a8.out.size);have l2:w2.cell? ⟨w.heap.size,0,none⟩=some (.slice (some ⟨nb,no,none⟩) n c):=(a4.cell (by exact q0)).trans l0;have d1:w2.cell? ⟨nb,no+r*8+1,none⟩=some (.int .i64 U):=(a4.cell (by exact q1)).trans c1;have s2:w.heap.size<w2.heap.size:=ys q0 a4.size;have s3:nb<w2.heap.size:=ys q1 a4.size;have HI:Hid (zaj w2 sa P):=hI;clear a4 hI g8 g9))
 go_wp2_with fail
 go_loopg [8,33] m (fun g s8 s33 wr=>∃ (i:Nat) (K:Nat->Value),i<=m/\m-i<=g/\s33=.int .i64 i/\Hid (Below w2.heap.size w2 wr)/\wr.cell? ⟨w.heap.size,0,none⟩=some (.slice (some ⟨nb,no,none⟩) n c)/\w2.heap.size<=wr.heap.size/\Hid (zdX w2.heap.size (zaG S H (P.take i)) K s8 wr))
 case atStart=>exact⟨0,fun _=>.slice none 0 0,by omega,by omega,rfl,yj _ _,l2,yi _,(show zdX w2.heap.size (zaG S H []) _ _ w2 from ⟨World.ownsRow_nil _ _ _ _,fun i hi=>by cases hi⟩)⟩
 case round =>
  obtain⟨i,K,hi,hg,rfl,HB,cs,b7,HO⟩:=hrel;clear l2;have HF:Hid ((zaG S H (P.take i)).length<=24):=zjt i (by rw[HM.out];exact e8);obtain⟨qa,qc,hv,d9⟩:=HO.out.slts;subst hv;have b4:Hid (Below w.heap.size w wr):=e0.out.trans (HB.out.mono e0.out.size);by_cases d7:i<m
  ·obtain⟨y,hy,f7⟩:=PL.out (P.getD i 0) (by rw[zaf P 0 (by rw[HM.out];exact d7)];exact List.getElem_mem _);obtain⟨pb,po,ep,h5⟩:=(HI.out.below HB.out) i (by rw[HM.out];exact d7);subst ep;rw[hy] at h5;obtain⟨i8,i9,ea,_,_,c2,_⟩:=(HS.out.below b4.out) y (by rw[HN.out];exact f7);cases ea;have i7:(y:Int)<(n:Int):=by omega
   have i3:(i:Int)<(m:Int):=by omega
   have NX:Hid (zaG S H (P.take (i+1))=zcf S H (zaG S H (P.take i)) (y:Int)):=zhA (by rw[HM.out];exact d7) hy;have ht:=TT.out y f7;have HT:Hid (zmq S (y:Int)=(nd S y).t-90):=by show _=_;unfold zmq;rw[yg]
   clear hy;generalize (nd S y).t=T at *;obtain⟨Q,hQ⟩:∃ Q,T-90=Q:=⟨_,rfl⟩;have hw:IntKind.i64.wrap (T-90)=Q:=by rw[hQ];have:=hQ;unfold IntKind.wrap;simp[IntKind.bits,IntKind.signed];omega
   have g5:Hid (zdZ wr qa (zaG S H (P.take i))):=d9;clear d9;generalize zaG S H (P.take i)=L at *;have hF:=HF.out;have hc:=fun(W:World) (hW:zdZ W qa L) (hq:W.cell? ⟨wr.heap.size,0,none⟩=some (.int .i64 Q))=>zlZ qa qc L wr.heap.size Q W (by omega) hW hq;have a6:=fun(wp w3:World) (v1 v2:Value) (s:Slt) (o3:Obj)=>zdX.step (wp:=wp) (w3:=w3) (v1:=v1) (v2:=v2) (s:=s) (o3:=o3) HO.out b7;obtain⟨ln,d6⟩:∃ z,L.length=z:=⟨_,rfl⟩;have g3:Hid (L.length=ln):=d6;rw[d6] at HO HF hc a6 hF |-;have HC:Hid _:=hc;have e7:Hid _:=a6;clear d6 hc a6;by_cases i1:Q<0
   ·have EQ:Hid (zaG S H (P.take (i+1))=L):=by
     show _=_;rw[NX.out];unfold zcf;rw[yd (by rw[HT.out];omega)]
    go_wp2_with fail
    go_roundg (m-(i+1))
    case measure=>omega
    case rel=>exact⟨i+1,K,by omega,by omega,by go_num,HB.out.trans ((zab _ _).mono b7),zac cs (zab _ _),by simp;omega,(show zdX _ (zaG S H (P.take (i+1))) K (.slice qa ln qc) _ by rw[EQ.out];exact HO.out.below (zab _ _))⟩
   ·have EQ:Hid (zaG S H (P.take (i+1))=L++[⟨(y:Int),Q,if L.any (fun s=>decide (s.num=Q)) then [] else zbF S H Q⟩]):=by
     show _=_;rw[NX.out];unfold zcf;rw[HT.out,hQ,ya (by omega)]
    clear NX HT
    have OM:Hid (∀ (W:World) (o3:Obj),(∀ k,k<wr.heap.size->W.heap[k]?=wr.heap[k]?)->wr.heap.size<=W.heap.size->(W.alloc o3).ownsRow w2.heap.size 143 3 (.slice qa ln qc) ln (zeq L K)):=fun W o3 h1 h2=>by
     have h3:=HO.out.1;rw[g3.out] at h3;exact zao h3 (fun k F=>(Below.heap_alloc _ _ _ (by have:=(h3.lt k F).2;omega)).trans (h1 k (h3.lt k F).2))
    have OB:Hid (∀ k,(Value.slice qa ln qc).ownBlock=some k->w2.heap.size<=k):=fun k F=>(HO.out.1.lt k F).1
    go_wp2_with fail
    refine yf (HC.out _ (g5.out.below (zai _ _ _)) (zaH wr _ _ 0 _ rfl)) ?_;rintro e w3 ⟨rfl,I⟩;have n0:=zac (zaH wr #[.int .i64 Q] 3 0 (.cells #[.int .i64 (y:Int),.int .i64 Q,.slice none 0 0] 143) rfl) I;have n1:=zac (zaI wr #[.int .i64 (y:Int),.int .i64 Q,.slice none 0 0] 143 0 (.cells #[.int .i64 Q] 3) rfl) I;have n2:=zac (zaI wr #[.int .i64 (y:Int),.int .i64 Q,.slice none 0 0] 143 1 (.cells #[.int .i64 Q] 3) rfl) I;have n3:=zac (zaI wr #[.int .i64 (y:Int),.int .i64 Q,.slice none 0 0] 143 2 (.cells #[.int .i64 Q] 3) rfl) I;have nf:w3.frozen? ⟨wr.heap.size+1,2,none⟩=false:=(I.frozen (p:=⟨wr.heap.size+1,2,none⟩) (by simp)).trans (by go_simp);have h8:=I.size;simp only[yk] at h8;have Z:Hid (Below wr.heap.size wr w3):=(zai wr _ _).trans (I.mono (by simp;omega));have b5:=zac cs Z.out;have g2:Hid (Below w2.heap.size w2 w3):=HB.out.trans (Z.out.mono b7);have z1:wr.heap.size<w3.heap.size:=by omega
    have z2:wr.heap.size+1<w3.heap.size:=by omega
    have z3:w.heap.size<w3.heap.size:=by omega
    clear I cs HC;generalize L.any (fun s=>decide (s.num=Q))=A at *
    cases A with
    | true =>
     go_wp2_with (at_builtin;refine wpList_append_own _ rfl _ _ 140 rfl w2.heap.size 143 i0 _ 3 40 Tryz.underlying140 f0 f8 f9 g0 rfl (by decide) (.slice qa ln qc) ln (zeq L K) rfl ?how ⟨w3.heap.size,0,none⟩ 1 1 (zep ⟨(y:Int),Q,[]⟩ (.slice none 0 0)) rfl rfl ?c1 ?c2 ?c3 ?c4 ?c5 ?_)
     case how=>exact OM.out w3 _ (fun k F=>Z.out.block k F) (by omega)
     case c1=>exact zkm (by go_simp) (by go_simp) (by go_simp)
     case c2=>exact zox
     case c3=>unfold maxLen;omega
     case c4=>omega
     case c5=>first|omega|(simp;omega)
     intro v2 w4 b8 O _
     have a5:Hid (zdX w2.heap.size (zaG S H (P.take (i+1))) (fun j=>if j=ln then .slice none 0 0 else K j) v2 w4):=by
      rw[EQ.out];exact e7.out w3 w4 (.slice none 0 0) v2 ⟨(y:Int),Q,[]⟩ _ (by omega) (fun k F=>Z.out.block k F) (World.ownsRow_nil _ _ _ _) O b8
     have c8:Below w2.heap.size w3 w4:=((yj _ w3).alloc (by omega) _).grown O (by simp;omega) (fun k F=>OB.out k F);have a9:Hid (Below w2.heap.size w2 w4):=g2.out.trans c8;have b6:=(c8.cell (p:=⟨w.heap.size,0,none⟩) (by show w.heap.size < _;omega)).trans b5;have f6:=a9.out.size;clear b8 O c8 b5 n0 n1 n2 n3 nf
     go_wp2_with fail
     go_roundg (m-(i+1))
     case measure=>omega
     case rel=>exact⟨i+1,_,by omega,by omega,by go_num,a9,b6,f6,a5⟩
    | false =>
     go_wp2_with fail
     refine yf (KM.out Q _ (HS.out.below (b4.out.trans (Z.out.mono b4.out.size)))) ?_;rintro e w4 ⟨v1,rfl,I,a7⟩;obtain⟨ga,gc,hv,_⟩:=zat a7;subst hv;have e1:=zac n1 I;have e2:=zac n2 I;have e3:=zac n3 I;have ef:=(I.frozen (p:=⟨wr.heap.size+1,2,none⟩) (by exact z2)).trans nf;have b6:=zac b5 I;have f6:=I.size;have c7:Hid _:=a7;have c6:Hid (Below wr.heap.size wr w4):=Z.out.trans (I.mono (by omega));have a9:Hid (Below w2.heap.size w2 w4):=HB.out.trans (c6.out.mono b7);have z4:wr.heap.size+1<w4.heap.size:=by omega
     have z5:w.heap.size<w4.heap.size:=by omega
     clear I a7 n0 n1 n2 n3 nf b5;obtain⟨M,hM⟩:∃ M,zbF S H Q=M:=⟨_,rfl⟩;rw[hM] at c7 EQ |-;obtain⟨mn,d8⟩:∃ z,M.length=z:=⟨_,rfl⟩;have g4:Hid (M.length=mn):=d8;rw[d8] at c7 |-;clear hM d8
     go_wp2_with (at_builtin;refine wpList_append_own _ rfl _ _ 140 rfl w2.heap.size 143 i0 _ 3 40 Tryz.underlying140 f0 f8 f9 g0 rfl (by decide) (.slice qa ln qc) ln (zeq L K) rfl ?how ⟨w4.heap.size,0,none⟩ 1 1 (zep ⟨(y:Int),Q,M⟩ (.slice ga mn gc)) rfl rfl ?c1 ?c2 ?c3 ?c4 ?c5 ?_)
     case how=>exact OM.out _ _ (fun k F=>(yo _ _ _ _ (by show k≠wr.heap.size+1;omega)).trans (c6.out.block k F)) (by simp[World.setCell];omega)
     case c1=>exact zkm (by go_simp) (by go_simp) (by go_simp)
     case c2=>exact zox
     case c3=>unfold maxLen;omega
     case c4=>omega
     case c5=>first|omega|(simp[World.setCell];omega)
     intro v2 w5 b9 V _
     have a5:Hid (zdX w2.heap.size (zaG S H (P.take (i+1))) (fun j=>if j=ln then .slice ga mn gc else K j) v2 w5):=by
      rw[EQ.out];refine e7.out _ w5 (.slice ga mn gc) v2 ⟨(y:Int),Q,M⟩ _ (by simp[World.setCell];omega) (fun k F=>(yo _ _ _ _ (by show k≠wr.heap.size+1;omega)).trans (c6.out.block k F)) ?_ V b9;have h6:w4.ownsRow w3.heap.size 3 1 (.slice ga mn gc) mn (M.map (Value.int .i64)):=c7.out;show World.ownsRow _ _ _ _ _ M.length _;rw[g4.out];exact zao (zau h6 (by omega)) (fun k F=>yo _ _ _ _ (by have:=(h6.lt k F).1;show k≠wr.heap.size+1;omega))
     have c9:Below w2.heap.size w4 w5:=(((yj _ w4).setCell (by show w2.heap.size<=wr.heap.size+1;omega) _).alloc (by simp[World.setCell];omega) _).grown V (by simp[World.setCell];omega) (fun k F=>OB.out k F);have e6:Hid (Below w2.heap.size w2 w5):=a9.out.trans c9;have g7:=(c9.cell (p:=⟨w.heap.size,0,none⟩) (by show w.heap.size < _;omega)).trans b6;have h9:=e6.out.size;clear b9 V c9 b6 e1 e2 e3 ef
     go_wp2_with fail
     go_roundg (m-(i+1))
     case measure=>omega
     case rel=>exact⟨i+1,_,by omega,by omega,by go_num,e6,g7,h9,a5⟩
  ·have h4:i=m:=by omega
   subst h4
   have a5:Hid (zdX w.heap.size (zaz S H) K (.slice qa (zaG S H (P.take i)).length qc) wr):=by
    have h:=HO.out.base (B' := w.heap.size) (by omega);rw[g6.out];have e:P.take i=P:=List.take_of_length_le (by rw[HM.out];omega);rw[e] at h |-;exact h
   clear HO d9 HF;generalize (zaG S H (P.take i)).length=ln at *
   go_wp2
   go_ret;exact⟨_,K,rfl,b4.out,a5.out⟩
end Go.Proofs.YtgjfmepbphfjoaaGreat
